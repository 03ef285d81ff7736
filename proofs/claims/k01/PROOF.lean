import PyProof.Rows.All
import Wide.All
import OpenK.AllK
import Wide.FinOn
import HandS.Base
import HandS.Call
import HandS.List
import HandS.Comp
import HandS.Ends
import HandS.Iter
import HandS.Text
import HandS.Words
import HandS.WordsList
import HandS.Codes
import HandS.IsInst
import HandS.Walk
import HandS.TupAny
import HandS.Wide
import HandS.Rev
import HandS.Replace
import PySem.Challenge.RW_sinkstack_k01_steps_are_triples
set_option Elab.async false
set_option linter.all false
set_option maxRecDepth 100000
set_option maxHeartbeats 4000000
/-! the mathematics of triples, over lists of numbers -/
namespace SK
def tp (k : Nat) (l : List Nat) : List Nat := l.drop (l.length - k)
def ct (g : Nat) (l : List Nat) : List Nat := l.take (l.length - g)
structure Tr where
  g : Nat
  k : Nat
  l : List Nat
def tby (t : Tr) (x : List Nat) : List Nat := tp t.k (ct t.g x) ++ t.l
def tidy (g k : Nat) (l : List Nat) : Tr := if k = 0 then ⟨0, 0, l⟩ else ⟨g, k, l⟩
def tjoin (t u : Tr) : Tr := tidy (t.g + (u.g - t.l.length)) (min (t.k - (u.g - t.l.length)) (u.k - (ct u.g t.l).length)) (tp u.k (ct u.g t.l) ++ u.l)
def tstep (room c : Nat) : Tr := if c = 45 then tidy 1 (room - 1) [] else ⟨0, room - 1, [c]⟩
def tunt (room : Nat) : Tr := ⟨0, room, []⟩
def ttold (room : Nat) (s : List Nat) : Tr := s.foldl (fun t c => tjoin t (tstep room c)) (tunt room)
def step (room : Nat) (x : List Nat) (c : Nat) : List Nat := if c = 45 then ct 1 x else tp room (x ++ [c])
def gone (room : Nat) (x : List Nat) (s : List Nat) : List Nat := s.foldl (step room) x
def signs (n : Nat) : List Nat := [97, 98, 99, 100].take n
structure TrOk (room many : Nat) (t : Tr) : Prop where
  gk : t.g + t.k ≤ room
  kl : t.k + t.l.length ≤ room
  z : t.k = 0 → t.g = 0
  s : ∀ c ∈ t.l, c ∈ signs many
theorem len_tp (k : Nat) (l : List Nat) : (tp k l).length = min k l.length := by
  unfold tp
  rw [List.length_drop]
  omega
theorem len_ct (g : Nat) (l : List Nat) : (ct g l).length = l.length - g := by
  unfold ct
  rw [List.length_take]
  omega
theorem tp_all {k : Nat} {l : List Nat} (h : l.length ≤ k) : tp k l = l := by
  unfold tp
  rw [Nat.sub_eq_zero_of_le h, List.drop_zero]
theorem tp_zero (l : List Nat) : tp 0 l = [] := by
  unfold tp
  rw [Nat.sub_zero, List.drop_length]
theorem ct_zero (l : List Nat) : ct 0 l = l := by
  unfold ct
  rw [Nat.sub_zero, List.take_length]
theorem ct_all {g : Nat} {l : List Nat} (h : l.length ≤ g) : ct g l = [] := by
  unfold ct
  rw [Nat.sub_eq_zero_of_le h, List.take_zero]
theorem tp_tp (a b : Nat) (l : List Nat) : tp a (tp b l) = tp (min a b) l := by
  unfold tp
  rw [List.drop_drop, List.length_drop]
  congr 1
  omega
theorem ct_ct (a b : Nat) (l : List Nat) : ct a (ct b l) = ct (b + a) l := by
  unfold ct
  rw [List.take_take, List.length_take]
  congr 1
  omega
theorem ct_tp (d k : Nat) (l : List Nat) : ct d (tp k l) = tp (k - d) (ct d l) := by
  unfold ct tp
  rw [List.length_drop, List.length_take, List.drop_take]
  by_cases h : l.length ≤ k
  · have e1 : l.length - k = 0 := by omega
    have e2 : min (l.length - d) l.length - (k - d) = 0 := by omega
    rw [e1, e2, List.drop_zero, Nat.sub_zero, Nat.sub_zero]
  · by_cases h2 : d ≤ k
    · have e2 : min (l.length - d) l.length - (k - d) = l.length - k := by omega
      rw [e2]
      congr 1
      omega
    · have e1 : l.length - (l.length - k) - d = 0 := by omega
      have e2 : l.length - d - (min (l.length - d) l.length - (k - d)) = 0 := by omega
      rw [e1, e2, List.take_zero, List.take_zero]
theorem ct_app_le {g : Nat} {a b : List Nat} (h : g ≤ b.length) : ct g (a ++ b) = a ++ ct g b := by
  unfold ct
  rw [List.length_append, List.take_append]
  have e1 : a.length + b.length - g - a.length = b.length - g := by omega
  rw [e1, List.take_of_length_le (by omega)]
theorem ct_app_ge {g : Nat} {a b : List Nat} (h : b.length ≤ g) : ct g (a ++ b) = ct (g - b.length) a := by
  unfold ct
  rw [List.length_append, List.take_append]
  have e1 : a.length + b.length - g - a.length = 0 := by omega
  rw [e1, List.take_zero, List.append_nil]
  congr 1
  omega
theorem tp_app (k : Nat) (a b : List Nat) : tp k (a ++ b) = tp (k - b.length) a ++ tp k b := by
  unfold tp
  rw [List.length_append, List.drop_append]
  have e1 : a.length + b.length - k - a.length = b.length - k := by omega
  by_cases h : b.length ≤ k
  · have e2 : a.length + b.length - k = a.length - (k - b.length) := by omega
    rw [e1, e2]
  · have e2 : a.length ≤ a.length + b.length - k := by omega
    have e3 : a.length - (k - b.length) = a.length := by omega
    rw [e1, e3, List.drop_eq_nil_of_le e2, List.drop_length]
theorem tby_tidy (g k : Nat) (l x : List Nat) : tby (tidy g k l) x = tby ⟨g, k, l⟩ x := by
  unfold tidy
  by_cases h : k = 0
  · rw [if_pos h]
    subst h
    simp only [tby, tp_zero]
  · rw [if_neg h]
theorem tby_join (t u : Tr) (x : List Nat) : tby (tjoin t u) x = tby u (tby t x) := by
  unfold tjoin
  rw [tby_tidy]
  simp only [tby]
  by_cases h : u.g ≤ t.l.length
  · have e : u.g - t.l.length = 0 := by omega
    rw [ct_app_le h, tp_app, tp_tp, e, Nat.add_zero, Nat.sub_zero, Nat.min_comm, List.append_assoc]
  · have h' : t.l.length ≤ u.g := by omega
    have e : ct u.g t.l = [] := ct_all h'
    rw [ct_app_ge h', e, ct_tp, ct_ct, tp_tp]
    simp only [List.length_nil, Nat.sub_zero]
    rw [tp_all (l := []) (by simp), List.nil_append, Nat.min_comm]
theorem tidy_ok {room many g k : Nat} {l : List Nat} (h1 : 0 < k → g + k ≤ room) (h2 : k + l.length ≤ room) (h3 : ∀ c ∈ l, c ∈ signs many) : TrOk room many (tidy g k l) := by
  unfold tidy
  by_cases h : k = 0
  · rw [if_pos h]
    exact ⟨by simp, by subst h; simpa using h2, fun _ => rfl, h3⟩
  · rw [if_neg h]
    exact ⟨h1 (by omega), h2, fun z => absurd z h, h3⟩
theorem mem_tp {k c : Nat} {l : List Nat} (h : c ∈ tp k l) : c ∈ l := List.mem_of_mem_drop h
theorem mem_ct {k c : Nat} {l : List Nat} (h : c ∈ ct k l) : c ∈ l := List.mem_of_mem_take h
theorem tjoin_ok {room many : Nat} {t u : Tr} (a : TrOk room many t) (b : TrOk room many u) : TrOk room many (tjoin t u) := by
  have := a.gk
  have := a.kl
  have := b.gk
  have := b.kl
  unfold tjoin
  refine tidy_ok (fun h => ?_) ?_ fun c hc => ?_
  · omega
  · rw [List.length_append, len_tp]
    omega
  · rcases List.mem_append.mp hc with h | h
    · exact a.s c (mem_ct (mem_tp h))
    · exact b.s c h
theorem tunt_ok {room many : Nat} : TrOk room many (tunt room) := ⟨by simp [tunt], by simp [tunt], fun _ => rfl, fun c h => by simp [tunt] at h⟩
theorem tstep_ok {room many c : Nat} (hr : 1 ≤ room) (hc : c = 45 ∨ c ∈ signs many) : TrOk room many (tstep room c) := by
  unfold tstep
  by_cases h : c = 45
  · rw [if_pos h]
    exact tidy_ok (fun _ => by omega) (by simp) fun c h => by simp at h
  · rw [if_neg h]
    refine ⟨by simp, by simp; omega, fun _ => rfl, fun d hd => ?_⟩
    have e : d = c := by simpa using hd
    subst e
    exact hc.resolve_left h
theorem ttold_ok {room many : Nat} (hr : 1 ≤ room) : ∀ (s : List Nat) (t : Tr), TrOk room many t → (∀ c ∈ s, c = 45 ∨ c ∈ signs many) → TrOk room many (s.foldl (fun t c => tjoin t (tstep room c)) t)
  | [], _, h, _ => h
  | c :: r, t, h, hs => ttold_ok hr r _ (tjoin_ok h (tstep_ok hr (hs c (List.mem_cons_self ..)))) fun d hd => hs d (List.mem_cons_of_mem _ hd)
theorem tby_step {room c : Nat} {x : List Nat} (hr : 1 ≤ room) (hx : x.length ≤ room) : tby (tstep room c) x = step room x c := by
  unfold tstep step
  by_cases h : c = 45
  · rw [if_pos h, if_pos h, tby_tidy]
    simp only [tby, List.append_nil]
    exact tp_all (by rw [len_ct]; omega)
  · rw [if_neg h, if_neg h, tp_app]
    simp only [tby, ct_zero, List.length_singleton]
    congr 1
    exact (tp_all (by simpa using hr)).symm
theorem step_len {room c : Nat} {x : List Nat} (hx : x.length ≤ room) : (step room x c).length ≤ room := by
  unfold step
  by_cases h : c = 45
  · rw [if_pos h, len_ct]
    omega
  · rw [if_neg h, len_tp]
    omega
theorem gone_len {room : Nat} : ∀ (s x : List Nat), x.length ≤ room → (gone room x s).length ≤ room
  | [], _, h => h
  | c :: r, x, h => gone_len r (step room x c) (step_len h)
theorem tby_fold {room : Nat} (hr : 1 ≤ room) : ∀ (s : List Nat) (t : Tr) (x y : List Nat), (tby t x).length ≤ room → tby (s.foldl (fun t c => tjoin t (tstep room c)) t) x = gone room (tby t x) s
  | [], _, _, _, _ => rfl
  | c :: r, t, x, y, h => by
    have e := tby_fold hr r (tjoin t (tstep room c)) x y (by rw [tby_join, tby_step hr h]; exact step_len h)
    rw [tby_join, tby_step hr h] at e
    exact e
theorem tby_unt {room : Nat} {x : List Nat} (hx : x.length ≤ room) : tby (tunt room) x = x := by
  simp only [tby, tunt, ct_zero, List.append_nil]
  exact tp_all hx
theorem tby_told {room : Nat} (hr : 1 ≤ room) (s : List Nat) {x : List Nat} (hx : x.length ≤ room) : tby (ttold room s) x = gone room x s := by
  have e := tby_fold hr s (tunt room) x [] (by rw [tby_unt hx]; exact hx)
  rw [tby_unt hx] at e
  exact e
end SK
namespace SK
open PySem PySem.Spec PyProof.Rows L2
/-! ### tuples whose object is known to have no dict -/
/-- a tuple, its object plain -/
def TupF (H : Hp) (a : Addr) (xs : List V) : Prop := ∃ ob : Obj, ob.dict = none ∧ H a = some (.frz ob (.tup xs))
theorem TupF.sq {K : PySem.W.Frag} {H : Hp} {a : Addr} {xs : List V} (h : TupF H a xs) : SqT K H a xs := by
  obtain ⟨ob, _, e⟩ := h
  exact .inl (.inr ⟨ob, e⟩)
section
variable {X : Cx} {es : List Expr} {t : TA} {pos cpos apos : Pos}
def tTupF (t : TA) : TE := fun σ H Q => t σ H fun xs H1 => xs.length ≤ sizeLine ∧ ∀ (p : Addr) (ob : Obj), ob.dict = none → H1 p = none → Q (.ref p) (upd H1 p (.frz ob (.tup xs)))
theorem tupF_ok {P : Program} {w : World} {H : Hp} {h : Heap} {us : List Value} {xs : List V} (r : Vals xs us) (z : xs.length ≤ sizeLine) : ObjOk P w H (h.push { cls := .type "tuple", data := .seq us.toArray }) h.objs.size (.frz { cls := .type "tuple", data := .seq us.toArray } (.tup xs)) :=
  ⟨Heap.get?_push_size _ rfl, z, us, r, ⟨_, Heap.get?_push_size _ rfl, rfl, _, rfl⟩⟩
theorem pe_tupF {x1} (h : PA X es t) : PE X (.Tuple es x1 pos) (tTupF t) := by
  refine ⟨fun pins s σ H Q I hq => ?_⟩
  refine wpAny_Tuple_spliced (thn (h.run pos pins s σ H _ I hq) fun us s1 ⟨xs, H1, I1, r, z, q⟩ => ⟨by rw [← r.length]; exact z, ?_⟩)
  have hf : H1 s1.heap.objs.size = none := I1.hok.fresh (Nat.le_refl _)
  exact ⟨.ref s1.heap.objs.size, upd H1 s1.heap.objs.size (.frz { cls := .type "tuple", data := .seq us.toArray } (.tup xs)), I1.laid (t' := s1.toks) (fun b u e => Heap.get?_push_of_some _ e) (Nat.le_refl _) (tupF_ok r z), rfl, q _ _ rfl hf⟩
theorem call_tupleF : CallR X (.type "tuple") (fun xs H Q => ∃ p ys, xs = [.ref p] ∧ SqL X.K H p ys ∧ ∀ (l : Addr) (ob : Obj), ob.dict = none → H l = none → Q (.ref l) (upd H l (.frz ob (.tup ys)))) := by
  intro pins s σ H xs us Q I r h
  obtain ⟨p, ys, rfl, hq, q⟩ := h
  obtain ⟨u, rfl, rx⟩ := vals1 r
  cases rx
  obtain ⟨its, r', pl, hz⟩ := I.list hq
  have hlen := r'.length
  refine call_tuple_list pl.isList (fun h' kp => ?_) (by simp only [List.size_toArray] <;> omega)
  have I1 : Inv X pins σ H { s with heap := h' } := I.kept (t' := s.toks) kp
  have I2 : Inv X pins σ (upd H h'.objs.size (.frz { cls := .type "tuple", data := .seq its.toArray } (.tup ys))) { s with heap := h'.push { cls := .type "tuple", data := .seq its.toArray } } :=
    I1.laid (t' := s.toks) (fun b o e => Heap.get?_push_of_some _ e) (Nat.le_refl _) (tupF_ok r' hz)
  exact ⟨.ref h'.objs.size, _, I2, rfl, q _ _ rfl (I1.hok.fresh (Nat.le_refl _))⟩
/-- t + u, t not empty -/
def rCatF (K : PySem.W.Frag) : R2 := fun x y H Q => ∃ a b xs ys, x = .ref a ∧ y = .ref b ∧ SqT K H a xs ∧ SqT K H b ys ∧ xs ≠ [] ∧ xs.length + ys.length ≤ sizeLine ∧
  (ys = [] → Q (.ref a) H) ∧ (ys ≠ [] → ∀ (p : Addr) (ob : Obj), ob.dict = none → H p = none → Q (.ref p) (upd H p (.frz ob (.tup (xs ++ ys)))))
theorem op_catF : OpR X (binaryOp .Add) (rCatF X.K) := by
  intro pins s σ H x y v u Q I rx ry h
  obtain ⟨a, b, xs, ys, rfl, rfl, ha, hb, hx, hz, q1, q2⟩ := h
  cases rx
  cases ry
  obtain ⟨its, r1, p1, _⟩ := I.tuple ha
  obtain ⟨its2, r2, p2, _⟩ := I.tuple hb
  refine HT.cat_tup p1 p2 (fun z => hx (r1.nil_iff.mp z)) (fun z => ⟨.ref a, H, I, rfl, q1 (r2.nil_iff.mp z)⟩) (fun z => ?_) (by rw [← r1.length, ← r2.length]; exact hz)
  exact ⟨.ref s.heap.objs.size, _, I.laid (t' := s.toks) (fun b ob q => Heap.get?_push_of_some _ q) (Nat.le_refl _) (tupF_ok (r1.append r2) (by rw [List.length_append]; exact hz)), rfl, q2 (fun w => z (r2.nil_iff.mpr w)) _ _ rfl (I.hok.fresh (Nat.le_refl _))⟩
/-- a method of such a tuple -/
def tBMT (r : V → List V → Hp → VK → Prop) (to : TE) (t : TA) : TE := fun σ H Q => to σ H fun x H1 => (∃ a xs, x = .ref a ∧ TupF H1 a xs) ∧ t σ H1 fun vs H2 => r x vs H2 Q
theorem pe_bmT {name : Str} {id : String} {o e : Expr} {to : TE} {r : V → List V → Hp → VK → Prop} (pa : PlainAttrs "tuple") (slot : Slot "tuple" name id) (hty : typeOf (.builtin id) = pure (.type "method_descriptor")) (hm : MtR X id r) (ho : PE X o to) (ha : PA X (e :: es) t)
    (hbase : attributeBase o name X.env (eval o X.env) = eval o X.env := by rfl)
    (hfew : ((backTo cpos (starEach (e :: es) X.env)).all (fun x => !x.1) && (backToKw cpos (keywordEach [] X.env)).all (fun x => x.1.isSome)
      && decide ((e :: es).length + ([] : List Keyword).length + (if ([] : List Keyword).isEmpty then 0 else 1) < 30)) = true := by rfl)
    (hline : (apos.endLine == cpos.line) = true := by rfl) (hs : starEach (e :: es) X.env = (false, eval e X.env) :: starEach es X.env := by rfl) (hplain : (backTo cpos (starEach es X.env)).any (·.1) = false := by rfl) :
    PE X (.Call (.Attribute o name apos) (e :: es) [] cpos) (tBMT r to t) := by
  refine ⟨fun pins s σ H Q I h => ?_⟩
  refine wpAny_Call_method_late hbase hfew hline rfl (thn (ho.run pins s σ H _ I h) fun v s1 ⟨x, H1, I1, r1, ty, q1⟩ => ?_)
  obtain ⟨a, xs, rfl, ob, hd, hH⟩ := ty
  cases r1
  obtain ⟨hob, hz, its, rv, hit⟩ := I1.hok a _ hH
  obtain ⟨o', ho', hc, _⟩ := hit
  rw [hob] at ho'
  cases ho'
  refine ⟨"tuple", id, pa, slot, hty, ⟨ob, hob, hc⟩, fun b e => ?_, ?_⟩
  · cases e
    exact ⟨ob, hob, hd⟩
  have hA := ha.run cpos pins s1 σ H1 _ I1 q1
  rw [hs] at hA ⊢
  refine Calls.callWith_builtin (by show (false || (backTo cpos (starEach es X.env)).any (·.1)) = false; rw [hplain] <;> rfl) (Calls.evalArgs_plain ?_)
  exact thn hA fun us s2 ⟨vs, H2, I2, r2, q2⟩ => hm pins s2 σ H2 (.ref a) vs (.ref a) us Q I2 rfl r2 q2
end
end SK
namespace SK
open PySem PySem.Spec PyProof.Rows L2
/-! ### a def of the module, by its name -/
structure Dn (K : PySem.W.Frag) (mg : Str → Option Value) (x : Str) (st : Stmt) (ps : List Str) : Prop where
  ex : ∃ (f : Addr) (fd : FuncData), L2.Fun K x x st f fd ∧ mg x = some (.ref f) ∧ Binds K fd ps []
abbrev Cal := @C8.Cal
section
variable {P : Program} {w : World} {K : PySem.W.Frag} {mg : Str → Option Value} {base : Heap}
theorem Dn.cal {x : Str} {st : Stmt} {N ps : List Str} {k : Nat} {sp : Sp} (D : Dn K mg x st ps) (S : FnScope N ps (defScope st)) (len : ∀ vs H Q E, sp vs H Q E → vs.length = ps.length)
    (hbody : ∀ (f : Addr) (cdv : Value) (A : Around) (outer : List Env) (s : Shared) (H : Hp) (vs : List V) (Q : VK) (E : XK), Room k (A.deeper (envOfC x (defScope st) s.heap.objs.size f cdv)) → sp vs H Q E →
      ∃ t, PSs (cxOf CX0 P w K mg base N x (defScope st) f cdv A outer s H E).nox (defBody st) t ∧ t { nx := fun _ H' => Q .non H', rt := Q } (start N vs) H) : C8.Cal P w K mg base (k + 1) x sp [] := by
  obtain ⟨f, fd, F, hm, b⟩ := D.ex
  exact ⟨f, fd, ps, [], F.ok S len (fun cdv A outer s H vs Q E => hbody f cdv A outer s H vs Q E), hm, F.kp, b, .nil⟩
theorem dn_mk {x : Str} {st : Stmt} {ps : List Str} {h : Heap} {f : Addr} {oc : Value} {od an : Option Addr} {osl : Array (Option Value)} {kV doc pm cd ct : Value} (X : K.In h) (G : h.Ns mainGlobals mg)
    (a : PySem.W.nsIn K mainGlobals x = some (some (.ref f))) (l : K.lookup f = some ⟨oc, od, .func (PySem.W.fnOf x x (defArgs st) (defBody st) (defScope st) .none kV doc pm an cd ct), osl⟩)
    (c : PySem.W.codeIn K cd x = true) (k : PySem.W.keepIn K (.ref f) = true)
    (hb : ∀ (kV doc pm : Value) (an : Option Addr) (cdv ct : Value) (us : List Value), us.length = ps.length → bindArgs (PySem.W.fnOf x x (defArgs st) (defBody st) (defScope st) .none kV doc pm an cdv ct) ⟨us, []⟩ = pure (ps.zip us)) : Dn K mg x st ps := by
  have F := fun_mk (st := st) l c k
  exact ⟨f, _, F, PySem.W.mg_of X G a, F.binds hb⟩
end
/-! ### heaps -/
theorem Same.new {H : Hp} {p : Addr} (h : H p = none) (o : HO) : Same H (upd H p o) := fun b u q => by rw [upd_ne (ne_of_none q h)]; exact q
theorem sz {n : Nat} (h : n ≤ 100000) : n ≤ sizeLine := Nat.le_trans h (by decide)
theorem szl {n : Nat} (h : n < 100000) : n < sizeLine := Nat.lt_of_lt_of_le h (by decide)
/-! ### texts -/
def tx (l : List Nat) : Str := ⟨l.toArray⟩
theorem tx_len (l : List Nat) : (tx l).length = l.length := by
  show l.toArray.size = _
  rw [List.size_toArray]
theorem tx_list (l : List Nat) : (tx l).cps.toList = l := rfl
theorem tx_app (a b : List Nat) : tx a ++ tx b = tx (a ++ b) := by
  show Str.append _ _ = _
  unfold Str.append tx
  simp
theorem cut_tx (l : List Nat) (lo hi : Option Int) : cutS (tx l) lo hi = tx ((l.drop (HT.sIx l.length 0 lo)).take (HT.sIx l.length l.length hi - HT.sIx l.length 0 lo)) := by
  unfold cutS
  rw [tx_len, tx_list]
  rfl
theorem cut_to {l : List Nat} {n : Nat} (h : n ≤ l.length) : cutS (tx l) none (some (n : Int)) = tx (l.take n) := by
  rw [cut_tx, HT.sIx_none, HT.sIx_nat, List.drop_zero, Nat.sub_zero, Nat.min_eq_left h]
theorem cut_from {l : List Nat} {n : Nat} (h : n ≤ l.length) : cutS (tx l) (some (n : Int)) none = tx (l.drop n) := by
  rw [cut_tx, HT.sIx_none, HT.sIx_nat, Nat.min_eq_left h, List.take_of_length_le (by rw [List.length_drop]; exact Nat.le_refl _)]
theorem cut_back {l : List Nat} {n : Nat} (h : 0 < n) : cutS (tx l) (some (-(n : Int))) none = tx (l.drop (l.length - n)) := by
  have e : HT.sIx l.length 0 (some (-(n : Int))) = l.length - n := by
    show (if (-(n : Int)) < 0 then (-(n : Int) + (l.length : Int)).toNat else _) = _
    rw [if_pos (by omega)]
    omega
  rw [cut_tx, HT.sIx_none, e, List.take_of_length_le (by rw [List.length_drop]; exact Nat.le_refl _)]
theorem cut_but {l : List Nat} {n : Nat} (h : 0 < n) : cutS (tx l) none (some (-(n : Int))) = tx (l.take (l.length - n)) := by
  have e : HT.sIx l.length l.length (some (-(n : Int))) = l.length - n := by
    show (if (-(n : Int)) < 0 then (-(n : Int) + (l.length : Int)).toNat else _) = _
    rw [if_pos (by omega)]
    omega
  rw [cut_tx, HT.sIx_none, e, List.drop_zero, Nat.sub_zero]
theorem str_inj {a b : List Nat} : tx a = tx b ↔ a = b := by
  constructor
  · intro h
    have := congrArg (fun z : Str => z.cps.toList) h
    simpa [tx] using this
  · intro h
    rw [h]
/-! ### plans and triples as they stand in the heap -/
structure Pl where
  room : Nat
  many : Nat
  pr : List Int
  pop : Int
structure Pl.Ok (p : Pl) : Prop where
  r1 : 1 ≤ p.room
  r9 : p.room ≤ 9
  m1 : 1 ≤ p.many
  m4 : p.many ≤ 4
  pl : p.pr.length = p.many
  pr : ∀ x ∈ p.pr, 1 ≤ x ∧ x ≤ 99
  q1 : 1 ≤ p.pop
  q9 : p.pop ≤ 99
/-- the prices as they stand -/
def PrAt (H : Hp) (b : Addr) (p : Pl) : Prop := TupF H b (p.pr.map V.int)
theorem PrAt.mono {H H' : Hp} {b : Addr} {p : Pl} (h : PrAt H b p) (s : Same H H') : PrAt H' b p := by
  obtain ⟨ob, h1, h2⟩ := h
  exact ⟨ob, h1, s _ _ h2⟩
theorem PrAt.ty {K : PySem.W.Frag} {H : Hp} {b : Addr} {p : Pl} (h : PrAt H b p) : TyX K H (.ref b) (.type "tuple") := by
  obtain ⟨ob, h1, h2⟩ := h
  exact .fTuple h2
def PlanAt (H : Hp) (v : V) (p : Pl) : Prop := ∃ a b, v = .ref a ∧ H a = some (.tup [.int p.room, .int p.many, .ref b, .int p.pop]) ∧ PrAt H b p
def TripAt (H : Hp) (v : V) (t : Tr) : Prop := ∃ a, v = .ref a ∧ H a = some (.tup [.int t.g, .int t.k, .str (tx t.l)])
theorem PlanAt.mono {H H' : Hp} {v : V} {p : Pl} (h : PlanAt H v p) (e : Same H H') : PlanAt H' v p := by
  obtain ⟨a, b, h1, h2, h3⟩ := h
  exact ⟨a, b, h1, e _ _ h2, h3.mono e⟩
theorem TripAt.mono {H H' : Hp} {v : V} {t : Tr} (h : TripAt H v t) (e : Same H H') : TripAt H' v t := by
  obtain ⟨a, h1, h2⟩ := h
  exact ⟨a, h1, e _ _ h2⟩
theorem signs_len (n : Nat) : (signs n).length ≤ 4 := by
  unfold signs
  rw [List.length_take]
  exact Nat.min_le_right ..
/-! ### kinds of values -/
theorem ty_int {K : PySem.W.Frag} {H : Hp} {i : Int} : TyX K H (.int i) (.type "int") := .base (.int i)
theorem ty_str {K : PySem.W.Frag} {H : Hp} {i : Str} : TyX K H (.str i) (.type "str") := .base (.str i)
theorem ty_tup {K : PySem.W.Frag} {H : Hp} {a : Addr} {xs : List V} (h : H a = some (.tup xs)) : TyX K H (.ref a) (.type "tuple") := .base (.tup h)
theorem ty_lst {K : PySem.W.Frag} {H : Hp} {a : Addr} {xs : List V} (h : H a = some (.lst xs)) : TyX K H (.ref a) (.type "list") := .base (.lst h)
theorem ty_non {K : PySem.W.Frag} {H : Hp} : TyX K H .non (.type "NoneType") := .base .non
theorem ty_bl {K : PySem.W.Frag} {H : Hp} {b : Bool} : TyX K H (.bl b) (.type "bool") := .base (.bl b)
theorem k_int_int : kitB "int" "int" = some true := by decide +kernel
theorem k_int_bool : kitB "int" "bool" = some false := by decide +kernel
theorem k_int_tup : kitB "int" "tuple" = some false := by decide +kernel
theorem k_int_lst : kitB "int" "list" = some false := by decide +kernel
theorem k_str_str : kitB "str" "str" = some true := by decide +kernel
theorem k_str_bool : kitB "str" "bool" = some false := by decide +kernel
theorem k_str_int : kitB "str" "int" = some false := by decide +kernel
theorem k_tup_tup : kitB "tuple" "tuple" = some true := by decide +kernel
theorem k_tup_int : kitB "tuple" "int" = some false := by decide +kernel
theorem k_tup_bool : kitB "tuple" "bool" = some false := by decide +kernel
theorem k_tup_str : kitB "tuple" "str" = some false := by decide +kernel
theorem k_tup_lst : kitB "tuple" "list" = some false := by decide +kernel
theorem k_lst_lst : kitB "list" "list" = some true := by decide +kernel
theorem k_lst_tup : kitB "list" "tuple" = some false := by decide +kernel
theorem k_lst_int : kitB "list" "int" = some false := by decide +kernel
theorem k_lst_bool : kitB "list" "bool" = some false := by decide +kernel
theorem k_lst_str : kitB "list" "str" = some false := by decide +kernel
theorem k_bool_bool : kitB "bool" "bool" = some true := by decide +kernel
theorem k_bool_int : kitB "bool" "int" = some true := by decide +kernel
theorem b_isi : bootBuiltins "isinstance" = some (.builtin "isinstance") := by decide +kernel
theorem b_all : bootBuiltins "all" = some (.builtin "all") := by decide +kernel
theorem b_max : bootBuiltins "max" = some (.builtin "max") := by decide +kernel
theorem b_min : bootBuiltins "min" = some (.builtin "min") := by decide +kernel
theorem b_bool : bootBuiltins "bool" = some (.type "bool") := by decide +kernel
theorem b_int : bootBuiltins "int" = some (.type "int") := by decide +kernel
theorem b_str : bootBuiltins "str" = some (.type "str") := by decide +kernel
theorem b_tuple : bootBuiltins "tuple" = some (.type "tuple") := by decide +kernel
theorem b_list : bootBuiltins "list" = some (.type "list") := by decide +kernel
theorem s_empty : ("" : Str) = tx [] := by decide +kernel
theorem s_minus : ("-" : Str) = tx [45] := by decide +kernel
theorem s_abcd : ("abcd" : Str) = tx [97, 98, 99, 100] := by decide +kernel
/-! ### promises of the program's defs -/
/-- hands back this value, all that stood stands -/
def giv (v : V) (H : Hp) (Q : VK) : Prop := ∀ H', Same H H' → Q v H'
def spSigns : Sp := fun vs H Q _ => ∃ v p, vs = [v] ∧ PlanAt H v p ∧ p.Ok ∧ giv (.str (tx (signs p.many))) H Q
def spNum : Sp := fun vs H Q _ => ∃ i lo hi : Int, vs = [.int i, .int lo, .int hi] ∧ giv (.bl (decide (lo ≤ i ∧ i ≤ hi))) H Q
def spTextOf : Sp := fun vs H Q _ => ∃ l sg : List Nat, vs = [.str (tx l), .str (tx sg)] ∧ l.length ≤ 10000 ∧ giv (.bl (decide (∀ c ∈ l, c ∈ sg))) H Q
def spChPlan : Sp := fun vs H Q _ => ∃ v p, vs = [v] ∧ PlanAt H v p ∧ p.Ok ∧ giv .non H Q
def spPrices : Sp := fun vs H Q _ => ∃ b p, vs = [.ref b, .int (p : Pl).many] ∧ PrAt H b p ∧ p.Ok ∧ giv (.bl true) H Q
def spChStack : Sp := fun vs H Q _ => ∃ v p l, vs = [v, .str (tx l)] ∧ PlanAt H v p ∧ p.Ok ∧ l.length ≤ p.room ∧ (∀ c ∈ l, c ∈ signs p.many) ∧ giv .non H Q
def spIsStack : Sp := fun vs H Q _ => ∃ v p l, vs = [v, .str (tx l)] ∧ PlanAt H v p ∧ p.Ok ∧ l.length ≤ p.room ∧ (∀ c ∈ l, c ∈ signs p.many) ∧ giv (.bl true) H Q
def spChSteps : Sp := fun vs H Q _ => ∃ v p l, vs = [v, .str (tx l)] ∧ PlanAt H v p ∧ p.Ok ∧ l.length ≤ 10000 ∧ (∀ c ∈ l, c = 45 ∨ c ∈ signs p.many) ∧ giv .non H Q
def spChTriple : Sp := fun vs H Q _ => ∃ v p u t, vs = [v, u] ∧ PlanAt H v p ∧ p.Ok ∧ TripAt H u t ∧ TrOk p.room p.many t ∧ giv .non H Q
def spIsTriple : Sp := fun vs H Q _ => ∃ v p u t, vs = [v, u] ∧ PlanAt H v p ∧ p.Ok ∧ TripAt H u t ∧ TrOk p.room p.many t ∧ giv (.bl true) H Q
/-- a new triple -/
def givT (t : Tr) (H : Hp) (Q : VK) : Prop := ∀ H' v, Same H H' → TripAt H' v t → Q v H'
def spWithout : Sp := fun vs H Q _ => ∃ (l : List Nat) (n : Nat), vs = [.str (tx l), .int n] ∧ l.length ≤ 10000 ∧ giv (.str (tx (ct n l))) H Q
def spTop : Sp := fun vs H Q _ => ∃ (l : List Nat) (n : Nat), vs = [.str (tx l), .int n] ∧ l.length ≤ 10000 ∧ giv (.str (tx (tp n l))) H Q
def spBehind : Sp := fun vs H Q _ => ∃ u t l, vs = [u, .str (tx l)] ∧ TripAt H u t ∧ l.length ≤ 1000 ∧ (t : Tr).l.length ≤ 1000 ∧ giv (.str (tx (tby t l))) H Q
def spTidied : Sp := fun vs H Q _ => ∃ (g k : Nat) (l : List Nat), vs = [.int g, .int k, .str (tx l)] ∧ givT (tidy g k l) H Q
def spJoin : Sp := fun vs H Q _ => ∃ a b t u, vs = [a, b] ∧ TripAt H a t ∧ TripAt H b u ∧ (t : Tr).l.length ≤ 1000 ∧ (u : Tr).l.length ≤ 1000 ∧ givT (tjoin t u) H Q
def spUnt : Sp := fun vs H Q _ => ∃ v p, vs = [v] ∧ PlanAt H v p ∧ givT (tunt p.room) H Q
def spTStep : Sp := fun vs H Q _ => ∃ v p c, vs = [v, .str (tx [c])] ∧ PlanAt H v p ∧ p.Ok ∧ givT (tstep p.room c) H Q
def spTSteps : Sp := fun vs H Q _ => ∃ v p l, vs = [v, .str (tx l)] ∧ PlanAt H v p ∧ p.Ok ∧ (∀ c ∈ l, c = 45 ∨ c ∈ signs p.many) ∧ givT (ttold p.room l) H Q
def spToldSteps : Sp := fun vs H Q _ => ∃ v p l, vs = [v, .str (tx l)] ∧ PlanAt H v p ∧ p.Ok ∧ l.length ≤ 10000 ∧ (∀ c ∈ l, c = 45 ∨ c ∈ signs p.many) ∧ givT (ttold p.room l) H Q
def spDone : Sp := fun vs H Q _ => ∃ v p u t l, vs = [v, u, .str (tx l)] ∧ PlanAt H v p ∧ p.Ok ∧ TripAt H u t ∧ TrOk p.room p.many t ∧ l.length ≤ p.room ∧ (∀ c ∈ l, c ∈ signs p.many) ∧ giv (.str (tx (tby t l))) H Q
end SK
namespace SK
open PySem PySem.Spec PyProof.Rows L2
/-! ### the box of draws -/
structure BoxAt (H : Hp) (p q : Addr) (ns : List Int) (z : Int) : Prop where
  b : H p = some (.lst [.ref q, .int z])
  l : H q = some (.lst (ns.map V.int))
  ne : p ≠ q
/-- all but the box stands -/
def Keep (p q : Addr) (H H' : Hp) : Prop := ∀ b o, H b = some o → b ≠ p → b ≠ q → H' b = some o
theorem Keep.refl (p q : Addr) (H : Hp) : Keep p q H H := fun _ _ h _ _ => h
theorem Keep.trans {p q : Addr} {H H1 H2 : Hp} (a : Keep p q H H1) (b : Keep p q H1 H2) : Keep p q H H2 := fun c o h h1 h2 => b c o (a c o h h1 h2) h1 h2
theorem Keep.of {p q : Addr} {H H' : Hp} (s : Same H H') : Keep p q H H' := fun b o h _ _ => s b o h
theorem BoxAt.mono {H H' : Hp} {p q : Addr} {ns : List Int} {z : Int} (h : BoxAt H p q ns z) (s : Same H H') : BoxAt H' p q ns z := ⟨s _ _ h.b, s _ _ h.l, h.ne⟩
theorem BoxAt.no {H : Hp} {p q : Addr} {ns : List Int} {z : Int} (h : BoxAt H p q ns z) {b : Addr} {o : HO} (e : H b = some o) (ho : ∀ xs, o ≠ .lst xs) : b ≠ p ∧ b ≠ q :=
  ⟨ne_of e h.b (ho _), ne_of e h.l (ho _)⟩
theorem Keep.tup {p q : Addr} {H H' : Hp} {ns : List Int} {z : Int} (k : Keep p q H H') (h : BoxAt H p q ns z) {a : Addr} {xs : List V} (e : H a = some (.tup xs)) : H' a = some (.tup xs) :=
  k a _ e (h.no e fun _ => by intro z; cases z).1 (h.no e fun _ => by intro z; cases z).2
theorem PlanAt.keep {p q : Addr} {H H' : Hp} {ns : List Int} {z : Int} {v : V} {pl : Pl} (h : PlanAt H v pl) (b : BoxAt H p q ns z) (k : Keep p q H H') : PlanAt H' v pl := by
  obtain ⟨a, c, e, h1, h2⟩ := h
  obtain ⟨ob, h3, h4⟩ := h2
  exact ⟨a, c, e, k.tup b h1, ob, h3, k _ _ h4 (b.no h4 fun _ => by intro z; cases z).1 (b.no h4 fun _ => by intro z; cases z).2⟩
theorem TripAt.keep {p q : Addr} {H H' : Hp} {ns : List Int} {z : Int} {v : V} {t : Tr} (h : TripAt H v t) (b : BoxAt H p q ns z) (k : Keep p q H H') : TripAt H' v t := by
  obtain ⟨a, e, h1⟩ := h
  exact ⟨a, e, k.tup b h1⟩
/-- a list made later than the box -/
theorem BoxAt.fresh {H : Hp} {p q D : Addr} {ns : List Int} {z : Int} (h : BoxAt H p q ns z) (e : H D = none) : D ≠ p ∧ D ≠ q := by
  constructor
  · intro x
    subst x
    rw [h.b] at e
    cases e
  · intro x
    subst x
    rw [h.l] at e
    cases e
/-- a draw -/
def spTake : Sp := fun vs H Q _ => ∃ (p q : Addr) (ns : List Int) (z n : Int), vs = [.ref p, .int n] ∧ BoxAt H p q ns z ∧ 0 < n ∧ n < 2 ^ 9000 ∧
  ∀ (r : Int) (ns' : List Int) (z' : Int) (H' : Hp), 0 ≤ r → r < n → BoxAt H' p q ns' z' → Keep p q H H' → Q (.int r) H'
theorem shp : ∀ ns : List Int, SeqAt.shaped (.list (ns.map PyData.int)) = true := by
  have h1 : ∀ ns : List Int, PyData.canLayAll0 (ns.map PyData.int) = true := fun ns => by
    induction ns with
    | nil => rfl
    | cons n r ih =>
      show (PyData.canLay0 (.int n) && PyData.canLayAll0 (r.map PyData.int)) = true
      rw [ih]
      rfl
  have h2 : ∀ ns : List Int, PyData.depthAll (ns.map PyData.int) = 0 := fun ns => by
    induction ns with
    | nil => rfl
    | cons n r ih =>
      show max (PyData.depth (.int n)) (PyData.depthAll (r.map PyData.int)) = 0
      rw [ih]
      rfl
  intro ns
  show (PyData.canLayAll0 (ns.map PyData.int) && decide (PyData.depthAll (ns.map PyData.int) + 1 ≤ 64)) = true
  rw [h1, h2]
  rfl
theorem dpAll {K : PySem.W.Frag} {H : Hp} : ∀ ns : List Int, DpAll K H (ns.map V.int) (ns.map PyData.int)
  | [] => .nil
  | n :: r => .cons (.int n) (dpAll r)
theorem fmod_in {x n : Int} (h : 0 < n) : 0 ≤ x.fmod n ∧ x.fmod n < n := by
  rw [Int.fmod_eq_emod_of_nonneg _ (by omega)]
  exact ⟨Int.emod_nonneg _ (by omega), Int.emod_lt_of_pos _ h⟩
theorem divW {i j : Int} (h : 0 < j) (h2 : j < 2 ^ 9000) : CDivW i j := wide_div (b := 9000) h (by
  have e : ((j.natAbs : Nat) : Int) = j := Int.natAbs_of_nonneg (by omega)
  have e2 : ((j.natAbs : Nat) : Int) < ((2 ^ 9000 : Nat) : Int) := by
    rw [e]
    exact_mod_cast h2
  exact Int.ofNat_lt.mp e2) (by decide) (by decide)
theorem p9 {n : Int} (h : n ≤ 2000000000000000000) : n < 2 ^ 9000 := Int.lt_of_le_of_lt h (by decide +kernel)
theorem at0 {x : V} {r : List V} : atI (x :: r) 0 = some x := atI_nat (j := 0) rfl
theorem ix0 {x : V} {r : List V} : ixN (x :: r).length 0 = some 0 := by
  unfold ixN
  simp
theorem sq0 {x : V} {r : List V} : seqIndex? 0 (x :: r).length = some 0 := by
  unfold seqIndex?
  simp
/-! ### what is alike -/
def Sc : V → Prop
  | .non => True
  | .bl _ => True
  | .int _ => True
  | .str _ => True
  | _ => False
def Alk (H : Hp) : Nat → V → V → Prop
  | 0, _, _ => False
  | n + 1, v, w => (v = w ∧ Sc v) ∨ ∃ (a b : Addr) (xs ys : List V), v = .ref a ∧ w = .ref b ∧ ((H a = some (.tup xs) ∧ H b = some (.tup ys)) ∨ (H a = some (.lst xs) ∧ H b = some (.lst ys))) ∧ xs.length = ys.length ∧ ys.length ≤ 10000 ∧
      ∀ (i : Nat) (x y : V), xs[i]? = some x → ys[i]? = some y → Alk H n x y
theorem Alk.mono {H H' : Hp} (s : Same H H') : ∀ {n : Nat} {v w : V}, Alk H n v w → Alk H' n v w
  | 0, _, _, h => h
  | n + 1, v, w, h => by
    rcases h with h | ⟨a, b, xs, ys, h1, h2, h3, h4, h5, h6⟩
    · exact .inl h
    · refine .inr ⟨a, b, xs, ys, h1, h2, ?_, h4, h5, fun i x y e1 e2 => Alk.mono s (h6 i x y e1 e2)⟩
      rcases h3 with ⟨u1, u2⟩ | ⟨u1, u2⟩
      · exact .inl ⟨s _ _ u1, s _ _ u2⟩
      · exact .inr ⟨s _ _ u1, s _ _ u2⟩
def spAlike (n : Nat) : Sp := fun vs H Q _ => ∃ v w, vs = [v, w] ∧ Alk H n v w ∧ giv (.bl true) H Q
theorem alk_trip {H : Hp} {n : Nat} {v w : V} {t : Tr} (hv : TripAt H v t) (hw : TripAt H w t) : Alk H (n + 2) v w := by
  obtain ⟨a, rfl, ha⟩ := hv
  obtain ⟨b, rfl, hb⟩ := hw
  refine .inr ⟨a, b, _, _, rfl, rfl, .inl ⟨ha, hb⟩, rfl, by show 3 ≤ 10000; decide, fun i x y e1 e2 => ?_⟩
  have e : x = y := Option.some.inj (e1.symm.trans e2)
  subst e
  refine .inl ⟨rfl, ?_⟩
  match i, e1 with
  | 0, e1 => cases e1; trivial
  | 1, e1 => cases e1; trivial
  | 2, e1 => cases e1; trivial
/-! ### the law's own promises -/
def spLStep : Sp := fun vs H Q _ => ∃ v p l c, vs = [v, .str (tx l), .str (tx [c])] ∧ PlanAt H v p ∧ p.Ok ∧ l.length ≤ 1000 ∧ giv (.str (tx (step p.room l c))) H Q
def spLGone : Sp := fun vs H Q _ => ∃ v p l s, vs = [v, .str (tx l), .str (tx s)] ∧ PlanAt H v p ∧ p.Ok ∧ l.length ≤ p.room ∧ giv (.str (tx (gone p.room l s))) H Q
def spLPlan : Sp := fun vs H Q _ => ∃ (p q : Addr) (ns : List Int) (z : Int) (r s : Nat), vs = [.ref p, .int r, .int s] ∧ BoxAt H p q ns z ∧ 1 ≤ r ∧ r ≤ 9 ∧ 1 ≤ s ∧ s ≤ 4 ∧
  ∀ (pl : Pl) (v : V) (ns' : List Int) (z' : Int) (H' : Hp), pl.Ok → pl.room ≤ r → pl.many ≤ s → PlanAt H' v pl → BoxAt H' p q ns' z' → Keep p q H H' → Q v H'
def spLSteps : Sp := fun vs H Q _ => ∃ (p q : Addr) (ns : List Int) (z : Int) (v : V) (pl : Pl) (n : Nat), vs = [.ref p, v, .int n] ∧ BoxAt H p q ns z ∧ PlanAt H v pl ∧ pl.Ok ∧ n ≤ 1000 ∧
  ∀ (l : List Nat) (ns' : List Int) (z' : Int) (H' : Hp), l.length ≤ n → (∀ c ∈ l, c = 45 ∨ c ∈ signs pl.many) → BoxAt H' p q ns' z' → Keep p q H H' → Q (.str (tx l)) H'
def spLSigns : Sp := fun vs H Q _ => ∃ (p q : Addr) (ns : List Int) (z : Int) (v : V) (pl : Pl) (n : Nat), vs = [.ref p, v, .int n] ∧ BoxAt H p q ns z ∧ PlanAt H v pl ∧ pl.Ok ∧ n ≤ 1000 ∧
  ∀ (l : List Nat) (ns' : List Int) (z' : Int) (H' : Hp), l.length ≤ n → (∀ c ∈ l, c ∈ signs pl.many) → BoxAt H' p q ns' z' → Keep p q H H' → Q (.str (tx l)) H'
def spLTriple : Sp := fun vs H Q _ => ∃ (p q : Addr) (ns : List Int) (z : Int) (v : V) (pl : Pl), vs = [.ref p, v] ∧ BoxAt H p q ns z ∧ PlanAt H v pl ∧ pl.Ok ∧
  ∀ (t : Tr) (u : V) (ns' : List Int) (z' : Int) (H' : Hp), TrOk pl.room pl.many t → TripAt H' u t → BoxAt H' p q ns' z' → Keep p q H H' → Q u H'
def spLBy : Sp := fun vs H Q _ => ∃ u t l, vs = [u, .str (tx l)] ∧ TripAt H u t ∧ l.length ≤ 1000 ∧ (t : Tr).l.length ≤ 1000 ∧ giv (.str (tx (tby t l))) H Q
def spLBegun (K : PySem.W.Frag) : Sp := fun vs H Q _ => ∃ (a : Addr) (ns : List Int), vs = [.ref a] ∧ SqL K H a (ns.map V.int) ∧ ns.length ≤ 63 ∧
  ∀ (p q : Addr) (z : Int) (H' : Hp), Same H H' → BoxAt H' p q ns z → H p = none → H q = none → Q (.ref p) H'
/-- all texts of so many signs, in turn; all stacks -/
def lay (many : Nat) : Nat → List (List Nat)
  | 0 => [[]]
  | n + 1 => (lay many n).flatMap fun l => (signs many).map fun c => l ++ [c]
def stk (many : Nat) : Nat → List (List Nat)
  | 0 => [[]]
  | n + 1 => stk many n ++ lay many (n + 1)
def spLStacks : Sp := fun vs H Q _ => ∃ v p, vs = [v] ∧ PlanAt H v p ∧ p.Ok ∧ ∀ (D : Addr) (H' : Hp), Same H H' → H D = none → H' D = some (.lst ((stk p.many p.room).map fun l => V.str (tx l))) → Q (.ref D) H'
def spLaw (K : PySem.W.Frag) : Sp := fun vs H Q _ => ∃ (a : Addr) (ns : List Int), vs = [.ref a] ∧ SqL K H a (ns.map V.int) ∧ ns.length ≤ 63 ∧ ∀ H', Q (.bl true) H'
theorem lay_len (many : Nat) : ∀ n, (lay many n).length = (signs many).length ^ n
  | 0 => rfl
  | n + 1 => by
    have h : ∀ xs : List (List Nat), (xs.flatMap fun l => (signs many).map fun c => l ++ [c]).length = xs.length * (signs many).length := fun xs => by
      induction xs with
      | nil => simp
      | cons x r ih =>
        rw [List.flatMap_cons, List.length_append, ih, List.length_map, List.length_cons, Nat.succ_mul, Nat.add_comm]
    show ((lay many n).flatMap _).length = _
    rw [h, lay_len many n, Nat.pow_succ]
theorem lay_le (many : Nat) {n : Nat} (h : n ≤ 9) : (lay many n).length ≤ 262144 := by
  rw [lay_len]
  have h1 := signs_len many
  calc (signs many).length ^ n ≤ 4 ^ n := Nat.pow_le_pow_left h1 n
    _ ≤ 4 ^ 9 := Nat.pow_le_pow_right (by decide) h
    _ = 262144 := by decide
theorem stk_le (many : Nat) : ∀ {n : Nat}, n ≤ 9 → (stk many n).length ≤ (n + 1) * 262144
  | 0, _ => by show 1 ≤ _; omega
  | n + 1, h => by
    have h1 := stk_le many (n := n) (by omega)
    have h2 := lay_le many h
    show (stk many n ++ lay many (n + 1)).length ≤ _
    rw [List.length_append]
    omega
theorem lay_mem {many : Nat} : ∀ {n : Nat} {l : List Nat}, l ∈ lay many n → l.length = n ∧ ∀ c ∈ l, c ∈ signs many
  | 0, l, h => by
    have e : l = [] := by simpa [lay] using h
    subst e
    exact ⟨rfl, fun c hc => by simp at hc⟩
  | n + 1, l, h => by
    obtain ⟨k, hk, h2⟩ := List.mem_flatMap.mp (show l ∈ (lay many n).flatMap _ from h)
    obtain ⟨c, hc, rfl⟩ := List.mem_map.mp h2
    obtain ⟨h3, h4⟩ := lay_mem hk
    refine ⟨by simp [h3], fun d hd => ?_⟩
    rcases List.mem_append.mp hd with h5 | h5
    · exact h4 d h5
    · have : d = c := by simpa using h5
      subst this
      exact hc
theorem stk_mem {many : Nat} : ∀ {n : Nat} {l : List Nat}, l ∈ stk many n → l.length ≤ n ∧ ∀ c ∈ l, c ∈ signs many
  | 0, l, h => by
    have := lay_mem (many := many) (n := 0) h
    exact ⟨Nat.le_of_eq this.1, this.2⟩
  | n + 1, l, h => by
    rcases List.mem_append.mp (show l ∈ stk many n ++ lay many (n + 1) from h) with h1 | h1
    · have := stk_mem h1
      exact ⟨by omega, this.2⟩
    · have := lay_mem h1
      exact ⟨Nat.le_of_eq this.1, this.2⟩
end SK
/-! works, their triples, their steps; the mathematics -/
namespace SK
/-! ### triples are told apart by what they do -/
theorem len_tby (t : Tr) (x : List Nat) : (tby t x).length = min t.k (x.length - t.g) + t.l.length := by
  simp only [tby]
  rw [List.length_append, len_tp, len_ct]
theorem tr_ext {room many : Nat} {t u : Tr} (a : TrOk room many t) (b : TrOk room many u) {c : Nat} (h : ∀ s, s ≤ room → tby t (List.replicate s c) = tby u (List.replicate s c)) : t = u := by
  have h0 := h 0 (Nat.zero_le _)
  have hl : t.l = u.l := by
    simp only [tby, List.replicate_zero, ct, tp, List.length_nil, List.take_nil, List.drop_nil, List.nil_append] at h0
    exact h0
  have hn : ∀ s, s ≤ room → min t.k (s - t.g) = min u.k (s - u.g) := fun s hs => by
    have e := congrArg List.length (h s hs)
    rw [len_tby, len_tby, List.length_replicate, hl] at e
    omega
  have := a.gk
  have := b.gk
  have ht := a.z
  have hu := b.z
  have hk : t.k = u.k := by
    have e := hn room (Nat.le_refl _)
    omega
  have hg : t.g = u.g := by
    by_cases h1 : t.k = 0
    · have := ht h1
      have := hu (by omega)
      omega
    · have e1 := hn (t.g + 1) (by omega)
      have e2 := hn (u.g + 1) (by omega)
      omega
  cases t
  cases u
  simp only at hl hk hg
  subst hl hk hg
  rfl
theorem tjoin_assoc {room many : Nat} {t u v : Tr} (a : TrOk room many t) (b : TrOk room many u) (c : TrOk room many v) : tjoin (tjoin t u) v = tjoin t (tjoin u v) :=
  tr_ext (c := 97) (tjoin_ok (tjoin_ok a b) c) (tjoin_ok a (tjoin_ok b c)) fun s _ => by rw [tby_join, tby_join, tby_join, tby_join]
theorem tby_len {room many : Nat} {t : Tr} (a : TrOk room many t) (x : List Nat) : (tby t x).length ≤ room := by
  rw [len_tby]
  have := a.kl
  omega
theorem tunt_left {room many : Nat} {t : Tr} (a : TrOk room many t) : tjoin (tunt room) t = t :=
  tr_ext (c := 97) (tjoin_ok tunt_ok a) a fun s hs => by rw [tby_join, tby_unt (by rw [List.length_replicate]; exact hs)]
theorem tunt_right {room many : Nat} {t : Tr} (a : TrOk room many t) : tjoin t (tunt room) = t :=
  tr_ext (c := 97) (tjoin_ok a tunt_ok) a fun s hs => by rw [tby_join, tby_unt (tby_len a _)]
/-- done so often -/
def tpw (room : Nat) (t : Tr) : Nat → Tr
  | 0 => tunt room
  | n + 1 => tjoin (tpw room t n) t
theorem tpw_ok {room many : Nat} {t : Tr} (a : TrOk room many t) : ∀ n, TrOk room many (tpw room t n)
  | 0 => tunt_ok
  | n + 1 => tjoin_ok (tpw_ok a n) a
theorem tpw_add {room many : Nat} {t : Tr} (a : TrOk room many t) (m : Nat) : ∀ n, tpw room t (m + n) = tjoin (tpw room t m) (tpw room t n)
  | 0 => (tunt_right (tpw_ok a m)).symm
  | n + 1 => by
    show tjoin (tpw room t (m + n)) t = tjoin (tpw room t m) (tjoin (tpw room t n) t)
    rw [tpw_add a m n, tjoin_assoc (tpw_ok a m) (tpw_ok a n) a]
theorem tpw_one {room many : Nat} {t : Tr} (a : TrOk room many t) : tpw room t 1 = t := tunt_left a
theorem tpw_two {room many : Nat} {t : Tr} (a : TrOk room many t) : ∀ n, tpw room (tjoin t t) n = tpw room t (2 * n)
  | 0 => rfl
  | n + 1 => by
    have e : 2 * (n + 1) = 2 * n + 2 := by omega
    have e2 : tpw room t 2 = tjoin t t := by
      show tjoin (tpw room t 1) t = _
      rw [tpw_one a]
    rw [e, tpw_add a, e2]
    show tjoin (tpw room (tjoin t t) n) (tjoin t t) = _
    rw [tpw_two a n]
/-- one turn of the doubling -/
theorem tpw_odd {room many : Nat} {t u : Tr} {n : Nat} (a : TrOk room many t) (b : TrOk room many u) (h : n % 2 = 1) : tjoin u (tpw room t n) = tjoin (tjoin u t) (tpw room (tjoin t t) (n / 2)) := by
  have e : n = 1 + 2 * (n / 2) := by omega
  rw [tpw_two a, tjoin_assoc b a (tpw_ok a _)]
  congr 1
  have e3 : tpw room t n = tpw room t (1 + 2 * (n / 2)) := by rw [← e]
  rw [e3, tpw_add a, tpw_one a]
theorem tpw_even {room many : Nat} {t u : Tr} {n : Nat} (a : TrOk room many t) (h : n % 2 = 0) : tjoin u (tpw room t n) = tjoin u (tpw room (tjoin t t) (n / 2)) := by
  rw [tpw_two a]
  have e : n = 2 * (n / 2) := by omega
  have e3 : tpw room t n = tpw room t (2 * (n / 2)) := by rw [← e]
  rw [e3]
/-! ### steps one behind another -/
theorem ttold_from {room many : Nat} {u : Tr} (hr : 1 ≤ room) (b : TrOk room many u) : ∀ (s : List Nat), (∀ c ∈ s, c = 45 ∨ c ∈ signs many) → ∀ t, TrOk room many t → s.foldl (fun t c => tjoin t (tstep room c)) (tjoin u t) = tjoin u (s.foldl (fun t c => tjoin t (tstep room c)) t)
  | [], _, _, _ => rfl
  | c :: r, hs, t, a => by
    have hc := tstep_ok (room := room) (many := many) hr (hs c (List.mem_cons_self ..))
    have ih := ttold_from hr b r (fun d hd => hs d (List.mem_cons_of_mem _ hd)) (tjoin t (tstep room c)) (tjoin_ok a hc)
    show r.foldl _ (tjoin (tjoin u t) (tstep room c)) = tjoin u (r.foldl _ (tjoin t (tstep room c)))
    rw [tjoin_assoc b a hc, ih]
theorem ttold_ok' {room many : Nat} (hr : 1 ≤ room) {s : List Nat} (hs : ∀ c ∈ s, c = 45 ∨ c ∈ signs many) : TrOk room many (ttold room s) := ttold_ok hr s _ tunt_ok hs
theorem ttold_app {room many : Nat} (hr : 1 ≤ room) {a b : List Nat} (ha : ∀ c ∈ a, c = 45 ∨ c ∈ signs many) (hb : ∀ c ∈ b, c = 45 ∨ c ∈ signs many) : ttold room (a ++ b) = tjoin (ttold room a) (ttold room b) := by
  have e : ttold room (a ++ b) = b.foldl (fun t c => tjoin t (tstep room c)) (ttold room a) := by
    unfold ttold
    rw [List.foldl_append]
  have h := ttold_from hr (ttold_ok' hr ha) b hb (tunt room) tunt_ok
  rw [tunt_right (ttold_ok' hr ha)] at h
  rw [e, h]
  rfl
theorem ttold_one {room many c : Nat} (hr : 1 ≤ room) (hc : c = 45 ∨ c ∈ signs many) : ttold room [c] = tstep room c := by
  show tjoin (tunt room) (tstep room c) = _
  exact tunt_left (tstep_ok (many := many) hr hc)
/-! ### works -/
mutual
inductive W where
  | push (c : Nat)
  | pop
  | row (ws : Ws)
  | times (n : Nat) (w : W)
inductive Ws where
  | nil
  | cons (w : W) (r : Ws)
end
mutual
def W.siz : W → Nat
  | .push _ => 1
  | .pop => 1
  | .row ws => 1 + ws.siz
  | .times _ w => 1 + w.siz
def Ws.siz : Ws → Nat
  | .nil => 0
  | .cons w r => w.siz + r.siz
end
mutual
def W.dep : W → Nat
  | .push _ => 1
  | .pop => 1
  | .row ws => 1 + ws.dep
  | .times _ w => 1 + w.dep
def Ws.dep : Ws → Nat
  | .nil => 0
  | .cons w r => max w.dep r.dep
end
mutual
def W.lng : W → List Nat
  | .push c => [c]
  | .pop => [45]
  | .row ws => ws.lng
  | .times n w => (List.replicate n w.lng).flatten
def Ws.lng : Ws → List Nat
  | .nil => []
  | .cons w r => w.lng ++ r.lng
end
mutual
/-- how many steps -/
def W.cnt : W → Nat
  | .push _ => 1
  | .pop => 1
  | .row ws => ws.cnt
  | .times n w => n * w.cnt
def Ws.cnt : Ws → Nat
  | .nil => 0
  | .cons w r => w.cnt + r.cnt
end
mutual
def W.prc (f : Nat → Int) : W → Int
  | .push c => f c
  | .pop => f 45
  | .row ws => ws.prc f
  | .times n w => (n : Int) * w.prc f
def Ws.prc (f : Nat → Int) : Ws → Int
  | .nil => 0
  | .cons w r => w.prc f + r.prc f
end
mutual
def W.tri (room : Nat) : W → Tr
  | .push c => tstep room c
  | .pop => tstep room 45
  | .row ws => ws.tri room (tunt room)
  | .times n w => tpw room (w.tri room) n
def Ws.tri (room : Nat) : Ws → Tr → Tr
  | .nil, t => t
  | .cons w r, t => r.tri room (tjoin t (w.tri room))
end
def Ws.len : Ws → Nat
  | .nil => 0
  | .cons _ r => r.len + 1
mutual
/-- can be: signs of the plan, counts to 10 ** 18 -/
def W.Can (many : Nat) : W → Prop
  | .push c => c ∈ signs many
  | .pop => True
  | .row ws => ws.len ≤ 1000 ∧ ws.Can many
  | .times n w => n ≤ 1000000000000000000 ∧ w.Can many
def Ws.Can (many : Nat) : Ws → Prop
  | .nil => True
  | .cons w r => w.Can many ∧ r.Can many
end
mutual
/-- few in a row, nothing done more often than so -/
def W.Tm (t : Nat) : W → Prop
  | .push _ => True
  | .pop => True
  | .row ws => ws.len ≤ 3 ∧ ws.Tm t
  | .times n w => n ≤ t ∧ w.Tm t
def Ws.Tm (t : Nat) : Ws → Prop
  | .nil => True
  | .cons w r => w.Tm t ∧ r.Tm t
end
mutual
theorem W.cnt_le : ∀ w : W, w.Tm 4 → w.cnt ≤ 4 ^ w.dep
  | .push _, _ => by show 1 ≤ 4 ^ 1; decide
  | .pop, _ => by show 1 ≤ 4 ^ 1; decide
  | .row ws, h => by
    have e := Ws.cnt_le ws h.2
    have e2 : ws.len * 4 ^ ws.dep ≤ 3 * 4 ^ ws.dep := Nat.mul_le_mul_right _ h.1
    show ws.cnt ≤ 4 ^ (1 + ws.dep)
    rw [Nat.pow_add]
    omega
  | .times n w, h => by
    have e := W.cnt_le w h.2
    show n * w.cnt ≤ 4 ^ (1 + w.dep)
    rw [Nat.pow_add]
    exact Nat.mul_le_mul h.1 e
theorem Ws.cnt_le : ∀ ws : Ws, ws.Tm 4 → ws.cnt ≤ ws.len * 4 ^ ws.dep
  | .nil, _ => Nat.zero_le _
  | .cons w r, h => by
    have e1 := W.cnt_le w h.1
    have e2 := Ws.cnt_le r h.2
    show w.cnt + r.cnt ≤ (r.len + 1) * 4 ^ (max w.dep r.dep)
    have p1 : 4 ^ w.dep ≤ 4 ^ (max w.dep r.dep) := Nat.pow_le_pow_right (by decide) (Nat.le_max_left ..)
    have p2 : r.len * 4 ^ r.dep ≤ r.len * 4 ^ (max w.dep r.dep) := Nat.mul_le_mul_left _ (Nat.pow_le_pow_right (by decide) (Nat.le_max_right ..))
    rw [Nat.succ_mul]
    omega
end
mutual
theorem W.siz_pos : ∀ w : W, 1 ≤ w.siz
  | .push _ => Nat.le_refl _
  | .pop => Nat.le_refl _
  | .row ws => by show 1 ≤ 1 + ws.siz; omega
  | .times _ w => by show 1 ≤ 1 + w.siz; omega
end
mutual
theorem W.dep_pos : ∀ w : W, 1 ≤ w.dep
  | .push _ => Nat.le_refl _
  | .pop => Nat.le_refl _
  | .row ws => by show 1 ≤ 1 + ws.dep; omega
  | .times _ w => by show 1 ≤ 1 + w.dep; omega
end
mutual
theorem W.tri_ok {room many : Nat} (hr : 1 ≤ room) : ∀ w : W, w.Can many → TrOk room many (w.tri room)
  | .push c, h => tstep_ok hr (.inr h)
  | .pop, _ => tstep_ok hr (.inl rfl)
  | .row ws, h => Ws.tri_ok hr ws _ h.2 tunt_ok
  | .times n w, h => tpw_ok (W.tri_ok hr w h.2) n
theorem Ws.tri_ok {room many : Nat} (hr : 1 ≤ room) : ∀ (ws : Ws) (t : Tr), ws.Can many → TrOk room many t → TrOk room many (ws.tri room t)
  | .nil, _, _, a => a
  | .cons w r, t, h, a => Ws.tri_ok hr r _ h.2 (tjoin_ok a (W.tri_ok hr w h.1))
end
mutual
theorem W.lng_in {many : Nat} : ∀ w : W, w.Can many → ∀ c ∈ w.lng, c = 45 ∨ c ∈ signs many
  | .push c, h, d, hd => by
    have e : d = c := by simpa [W.lng] using hd
    subst e
    exact .inr h
  | .pop, _, d, hd => .inl (by simpa [W.lng] using hd)
  | .row ws, h, d, hd => Ws.lng_in ws h.2 d hd
  | .times n w, h, d, hd => by
    obtain ⟨l, hl, hd⟩ := List.mem_flatten.mp (show d ∈ (List.replicate n w.lng).flatten from hd)
    have e := List.eq_of_mem_replicate hl
    subst e
    exact W.lng_in w h.2 d hd
theorem Ws.lng_in {many : Nat} : ∀ ws : Ws, ws.Can many → ∀ c ∈ ws.lng, c = 45 ∨ c ∈ signs many
  | .nil, _, d, hd => by simp [Ws.lng] at hd
  | .cons w r, h, d, hd => by
    rcases List.mem_append.mp (show d ∈ w.lng ++ r.lng from hd) with h1 | h1
    · exact W.lng_in w h.1 d h1
    · exact Ws.lng_in r h.2 d h1
end
mutual
theorem W.tri_lng {room many : Nat} (hr : 1 ≤ room) : ∀ w : W, w.Can many → w.tri room = ttold room w.lng
  | .push c, h => (ttold_one (many := many) hr (.inr h)).symm
  | .pop, _ => (ttold_one (many := many) hr (.inl rfl)).symm
  | .row ws, h => by
    have e := Ws.tri_lng (many := many) hr ws (tunt room) h.2 tunt_ok
    rw [tunt_left (ttold_ok' hr (Ws.lng_in ws h.2))] at e
    exact e
  | .times n w, h => by
    have e := W.tri_lng hr w h.2
    have hin := W.lng_in w h.2
    have hok := W.tri_ok (room := room) hr w h.2
    show tpw room (w.tri room) n = ttold room (List.replicate n w.lng).flatten
    have k : ∀ n, tpw room (w.tri room) n = ttold room (List.replicate n w.lng).flatten ∧ ∀ c ∈ (List.replicate n w.lng).flatten, c = 45 ∨ c ∈ signs many := fun n => by
      induction n with
      | zero => exact ⟨rfl, fun c hc => by simp at hc⟩
      | succ n ih =>
        have e2 : (List.replicate (n + 1) w.lng).flatten = (List.replicate n w.lng).flatten ++ w.lng := by
          rw [List.replicate_succ', List.flatten_append]
          simp
        have h2 : ∀ c ∈ (List.replicate (n + 1) w.lng).flatten, c = 45 ∨ c ∈ signs many := fun c hc => by
          rw [e2] at hc
          rcases List.mem_append.mp hc with h3 | h3
          · exact ih.2 c h3
          · exact hin c h3
        refine ⟨?_, h2⟩
        show tjoin (tpw room (w.tri room) n) (w.tri room) = _
        rw [e2, ttold_app (many := many) hr ih.2 hin, ih.1, ← e]
    exact (k n).1
theorem Ws.tri_lng {room many : Nat} (hr : 1 ≤ room) : ∀ (ws : Ws) (t : Tr), ws.Can many → TrOk room many t → ws.tri room t = tjoin t (ttold room ws.lng)
  | .nil, t, _, a => (tunt_right a).symm
  | .cons w r, t, h, a => by
    have e1 := W.tri_lng (many := many) hr w h.1
    have o1 := W.tri_ok (room := room) hr w h.1
    have e2 := Ws.tri_lng hr r (tjoin t (w.tri room)) h.2 (tjoin_ok a o1)
    show r.tri room (tjoin t (w.tri room)) = tjoin t (ttold room (w.lng ++ r.lng))
    rw [e2, ttold_app (many := many) hr (W.lng_in w h.1) (Ws.lng_in r h.2), ← e1, tjoin_assoc a o1 (ttold_ok' hr (Ws.lng_in r h.2))]
end
mutual
theorem W.cnt_lng : ∀ w : W, w.cnt = w.lng.length
  | .push _ => rfl
  | .pop => rfl
  | .row ws => Ws.cnt_lng ws
  | .times n w => by
    have e := W.cnt_lng w
    show n * w.cnt = (List.replicate n w.lng).flatten.length
    rw [List.length_flatten, List.map_replicate, List.sum_replicate_nat, e]
theorem Ws.cnt_lng : ∀ ws : Ws, ws.cnt = ws.lng.length
  | .nil => rfl
  | .cons w r => by
    have e1 := W.cnt_lng w
    have e2 := Ws.cnt_lng r
    show w.cnt + r.cnt = (w.lng ++ r.lng).length
    rw [List.length_append, e1, e2]
end
/-- what steps cost -/
def sprc (f : Nat → Int) (l : List Nat) : Int := (l.map f).sum
theorem sprc_app (f : Nat → Int) (a b : List Nat) : sprc f (a ++ b) = sprc f a + sprc f b := by
  unfold sprc
  rw [List.map_append, List.sum_append]
mutual
theorem W.prc_lng (f : Nat → Int) : ∀ w : W, w.prc f = sprc f w.lng
  | .push c => by simp [W.prc, W.lng, sprc]
  | .pop => by simp [W.prc, W.lng, sprc]
  | .row ws => Ws.prc_lng f ws
  | .times n w => by
    have e := W.prc_lng f w
    show (n : Int) * w.prc f = sprc f (List.replicate n w.lng).flatten
    have k : ∀ n : Nat, (n : Int) * w.prc f = sprc f (List.replicate n w.lng).flatten := fun n => by
      induction n with
      | zero => simp [sprc]
      | succ n ih =>
        rw [List.replicate_succ, List.flatten_cons, sprc_app, ← ih, ← e, Int.natCast_succ, Int.add_mul, Int.one_mul, Int.add_comm]
    exact k n
theorem Ws.prc_lng (f : Nat → Int) : ∀ ws : Ws, ws.prc f = sprc f ws.lng
  | .nil => rfl
  | .cons w r => by
    have e1 := W.prc_lng f w
    have e2 := Ws.prc_lng f r
    show w.prc f + r.prc f = sprc f (w.lng ++ r.lng)
    rw [sprc_app, e1, e2]
end
end SK
namespace SK
open PySem PySem.Spec PyProof.Rows L2
/-! ### two rules: list(text), text * int -/
theorem call_listS {X : Cx} (hc : X.calm = true) : CallR X (.type "list") (fun xs H Q => ∃ z : Str, xs = [.str z] ∧ z.length ≤ sizeLine ∧ ∀ l, H l = none → Q (.ref l) (upd H l (.lst (z.cps.toList.map fun c => V.str ⟨#[c]⟩)))) := by
  intro pins s σ H xs us Q I r h
  obtain ⟨z, rfl, hz, q⟩ := h
  obtain ⟨u, rfl, rx⟩ := vals1 r
  obtain ⟨t, rfl⟩ := rx
  have hn : z.cps.size ≤ sizeLine := hz
  refine PySem.call_list_str (I.ok.hd hc) z t (fun h' tk acc' c' kp e hi => ?_) hn
  have hlen : z.cps.toList.length = z.cps.size := Array.length_toList
  have rv : Vals (z.cps.toList.map fun c => V.str ⟨#[c]⟩) acc'.toList := by
    obtain ⟨h1, h2⟩ := hi
    have hx : ∀ (cs : List Nat) (as : List Value), as.length = cs.length → (∀ (j : Nat) (v : Value), as[j]? = some v → ∃ c u, cs[j]? = some c ∧ v = .str ⟨#[c]⟩ u) → Vals (cs.map fun c => V.str ⟨#[c]⟩) as := by
      intro cs
      induction cs with
      | nil =>
        intro as hl _
        have e : as = [] := List.length_eq_zero_iff.mp hl
        subst e
        exact .nil
      | cons c r ih =>
        intro as hl ha
        cases as with
        | nil => cases hl
        | cons v vs =>
          obtain ⟨c', u, e1, e2⟩ := ha 0 v rfl
          cases e1
          subst e2
          exact .cons ⟨u, rfl⟩ (ih vs (Nat.succ.inj hl) fun j v hj => ha (j + 1) v hj)
    refine hx _ _ ?_ fun j v hj => ?_
    · rw [Array.length_toList, h1, hlen]
    · rw [Array.getElem?_toList] at hj
      obtain ⟨c, u, e1, e2⟩ := h2 j v hj
      exact ⟨c, u, by rw [Array.getElem?_toList]; exact e1, e2⟩
  exact ⟨.ref s.heap.objs.size, _, I.laid (t' := tk) kp (Nat.le_refl _) (show ObjOk X.prog X.w _ h' _ (.lst _) from ⟨by rw [List.length_map, hlen]; exact hn, acc'.toList, c', rv, by simpa using e⟩), rfl, q _ (I.hok.fresh (Nat.le_refl _))⟩
theorem mulOk {z : Str} {n : Nat} (h : z.length * n ≤ 16777216) (hn : n ≤ 1000000000000000000) : MulOk z (n : Int) := by
  have hp : (2 : Int) ^ 63 = 9223372036854775808 := by decide
  refine ⟨?_, fun h1 h2 => ?_, fun h1 h2 => ?_⟩
  · rw [hp]
    rw [Bool.or_eq_false_iff]
    exact ⟨decide_eq_false (by omega), decide_eq_false (by omega)⟩
  · rw [hp]
    have h' : (z.length : Int) * (n : Int) ≤ 16777216 := by
      have h0 := Int.ofNat_le.mpr h
      rw [Int.natCast_mul] at h0
      exact h0
    have h3 : (z.length : Int) ≤ (9223372036854775808 - 1 : Int) / (n : Int) := Int.le_ediv_of_mul_le (by omega) (by omega)
    omega
  · rw [Int.toNat_natCast]
    unfold Builtin.Str.tooLong
    have h4 : z.length * n ≤ sizeLine := h
    simp only [gt_iff_lt, decide_eq_false_iff_not]
    omega
theorem foldl_reps (l : List Nat) : ∀ (n : Nat) (acc : Array Nat), (List.replicate n l.toArray).foldl (· ++ ·) acc = acc ++ ((List.replicate n l).flatten).toArray
  | 0, acc => by simp
  | n + 1, acc => by
    rw [List.replicate_succ, List.foldl_cons, foldl_reps l n, List.replicate_succ, List.flatten_cons]
    simp
theorem mul_tx (l : List Nat) (n : Nat) : Txt.mul (tx l) (n : Int) = tx (List.replicate n l).flatten := by
  unfold Txt.mul
  by_cases h : (n : Int) < 1
  · have e : n = 0 := by omega
    subst e
    rw [if_pos h]
    rfl
  · rw [if_neg h]
    by_cases h2 : ((n : Int) == 1 || (tx l).length == 0) = true
    · rw [if_pos h2]
      rw [Bool.or_eq_true] at h2
      rcases h2 with h2 | h2
      · have e : n = 1 := by
          have := eq_of_beq h2
          omega
        subst e
        simp
      · have e : l = [] := by
          have := eq_of_beq h2
          rw [tx_len] at this
          exact List.length_eq_zero_iff.mp this
        subst e
        simp
    · rw [if_neg h2]
      have e := foldl_reps l n #[]
      show (⟨(List.replicate (n : Int).toNat l.toArray).foldl (· ++ ·) #[]⟩ : Str) = _
      rw [Int.toNat_natCast, e]
      simp [tx]
/-- text * int -/
def rMulS : R2 := fun x y H Q => ∃ (l : List Nat) (n : Nat), x = .str (tx l) ∧ y = .int n ∧ l.length * n ≤ 16777216 ∧ n ≤ 1000000000000000000 ∧ Q (.str (tx (List.replicate n l).flatten)) H
theorem op_mulS {X : Cx} : OpR X (binaryOp .Mult) rMulS := by
  intro pins s σ H x y v u Q I rx ry h
  obtain ⟨l, n, rfl, rfl, hz, hn, q⟩ := h
  obtain ⟨t, rfl⟩ := rx
  obtain ⟨t', rfl⟩ := ry
  refine SB.mul (mulOk (by rw [tx_len]; exact hz) hn) fun t'' k => ?_
  rw [mul_tx]
  exact ⟨.str (tx (List.replicate n l).flatten), H, I.tok _, ⟨_, rfl⟩, q⟩
theorem join_tx (ls : List (List Nat)) : Txt.join (tx []) (ls.map tx) = tx ls.flatten := by
  have h : ∀ (r : List (List Nat)) (acc : Array Nat), (r.map tx).foldl (fun (acc : Array Nat) (p : Str) => acc ++ (tx []).cps ++ p.cps) acc = acc ++ r.flatten.toArray := by
    intro r
    induction r with
    | nil =>
      intro acc
      simp
    | cons x r ih =>
      intro acc
      rw [List.map_cons, List.foldl_cons, ih, List.flatten_cons]
      simp [tx]
  show Builtin.Str.glued (tx []) (ls.map tx) = _
  unfold Builtin.Str.glued
  cases ls with
  | nil => rfl
  | cons x r =>
    have e := h r x.toArray
    show (⟨(r.map tx).foldl (fun (acc : Array Nat) (p : Str) => acc ++ (tx []).cps ++ p.cps) x.toArray⟩ : Str) = _
    rw [e]
    simp [tx]
theorem b_sum : bootBuiltins "sum" = some (.builtin "sum") := by decide +kernel
/-! ### tuples stand -/
structure Tups (H H' : Hp) : Prop where
  t : ∀ (b : Addr) (xs : List V), H b = some (.tup xs) → H' b = some (.tup xs)
  f : ∀ (b : Addr) (o : Obj) (xs : List V), H b = some (.frz o (.tup xs)) → H' b = some (.frz o (.tup xs))
instance {H H' : Hp} : CoeFun (Tups H H') (fun _ => ∀ (b : Addr) (xs : List V), H b = some (.tup xs) → H' b = some (.tup xs)) := ⟨Tups.t⟩
theorem Tups.refl (H : Hp) : Tups H H := ⟨fun _ _ h => h, fun _ _ _ h => h⟩
theorem Tups.of {H H' : Hp} (s : Same H H') : Tups H H' := ⟨fun b xs h => s b _ h, fun b o xs h => s b _ h⟩
theorem Tups.trans {H H1 H2 : Hp} (a : Tups H H1) (b : Tups H1 H2) : Tups H H2 := ⟨fun c xs h => b.t c xs (a.t c xs h), fun c o xs h => b.f c o xs (a.f c o xs h)⟩
theorem Keep.tups {p q : Addr} {H H' : Hp} {ns : List Int} {z : Int} (k : Keep p q H H') (B : BoxAt H p q ns z) : Tups H H' := ⟨fun _ _ h => k.tup B h, fun b o xs h => k _ _ h (B.no h fun _ => by intro z; cases z).1 (B.no h fun _ => by intro z; cases z).2⟩
theorem Tups.lst {H : Hp} {a : Addr} {xs ys : List V} (h : H a = some (.lst xs)) : Tups H (upd H a (.lst ys)) := ⟨fun b zs e => by
  rw [upd_ne (ne_of e h (by intro z; cases z))]
  exact e, fun b o zs e => by
  rw [upd_ne (ne_of e h (by intro z; cases z))]
  exact e⟩
theorem PlanAt.tups {H H' : Hp} {v : V} {p : Pl} (h : PlanAt H v p) (e : Tups H H') : PlanAt H' v p := by
  obtain ⟨a, b, h1, h2, ob, h3, h4⟩ := h
  exact ⟨a, b, h1, e.t _ _ h2, ob, h3, e.f _ _ _ h4⟩
theorem TripAt.tups {H H' : Hp} {v : V} {t : Tr} (h : TripAt H v t) (e : Tups H H') : TripAt H' v t := by
  obtain ⟨a, h1, h2⟩ := h
  exact ⟨a, h1, e _ _ h2⟩
/-! ### works as they stand in the heap -/
mutual
def WAt (H : Hp) : W → V → Prop
  | .push c, v => ∃ a, v = .ref a ∧ H a = some (.tup [.str "push", .str (tx [c])])
  | .pop, v => ∃ a, v = .ref a ∧ H a = some (.tup [.str "pop"])
  | .row ws, v => ∃ a b vs, v = .ref a ∧ H a = some (.tup [.str "row", .ref b]) ∧ H b = some (.tup vs) ∧ WsAt H ws vs
  | .times n w, v => ∃ a u, v = .ref a ∧ H a = some (.tup [.str "times", .int (n : Int), u]) ∧ WAt H w u
def WsAt (H : Hp) : Ws → List V → Prop
  | .nil, vs => vs = []
  | .cons w r, vs => ∃ v s, vs = v :: s ∧ WAt H w v ∧ WsAt H r s
end
mutual
theorem WAt.tups {H H' : Hp} (e : Tups H H') : ∀ {w : W} {v : V}, WAt H w v → WAt H' w v
  | .push c, v, h => by
    obtain ⟨a, h1, h2⟩ := h
    exact ⟨a, h1, e _ _ h2⟩
  | .pop, v, h => by
    obtain ⟨a, h1, h2⟩ := h
    exact ⟨a, h1, e _ _ h2⟩
  | .row ws, v, h => by
    obtain ⟨a, b, vs, h1, h2, h3, h4⟩ := h
    exact ⟨a, b, vs, h1, e _ _ h2, e _ _ h3, WsAt.tups e h4⟩
  | .times n w, v, h => by
    obtain ⟨a, u, h1, h2, h3⟩ := h
    exact ⟨a, u, h1, e _ _ h2, WAt.tups e h3⟩
theorem WsAt.tups {H H' : Hp} (e : Tups H H') : ∀ {ws : Ws} {vs : List V}, WsAt H ws vs → WsAt H' ws vs
  | .nil, vs, h => h
  | .cons w r, vs, h => by
    obtain ⟨v, s, h1, h2, h3⟩ := h
    exact ⟨v, s, h1, WAt.tups e h2, WsAt.tups e h3⟩
end
def Ws.list : Ws → List W
  | .nil => []
  | .cons w r => w :: r.list
theorem Ws.len_list : ∀ ws : Ws, ws.list.length = ws.len
  | .nil => rfl
  | .cons w r => by
    show r.list.length + 1 = r.len + 1
    rw [r.len_list]
theorem WsAt.len {H : Hp} : ∀ {ws : Ws} {vs : List V}, WsAt H ws vs → vs.length = ws.list.length
  | .nil, vs, h => by
    cases h
    rfl
  | .cons w r, vs, h => by
    obtain ⟨v, s, rfl, h2, h3⟩ := h
    show s.length + 1 = r.list.length + 1
    rw [h3.len]
theorem WsAt.get {H : Hp} : ∀ {ws : Ws} {vs : List V}, WsAt H ws vs → ∀ {i : Nat} {x : V}, vs[i]? = some x → ∃ w, ws.list[i]? = some w ∧ WAt H w x
  | .nil, vs, h, i, x, e => by
    cases h
    cases e
  | .cons w r, vs, h, i, x, e => by
    obtain ⟨v, s, rfl, h2, h3⟩ := h
    cases i with
    | zero =>
      cases e
      exact ⟨w, rfl, h2⟩
    | succ i => exact h3.get (i := i) e
theorem Ws.siz_list : ∀ ws : Ws, ws.siz = (ws.list.map W.siz).sum
  | .nil => rfl
  | .cons w r => by
    show w.siz + r.siz = (w.siz :: r.list.map W.siz).sum
    rw [List.sum_cons, r.siz_list]
theorem Ws.cnt_list : ∀ ws : Ws, ws.cnt = (ws.list.map W.cnt).sum
  | .nil => rfl
  | .cons w r => by
    show w.cnt + r.cnt = (w.cnt :: r.list.map W.cnt).sum
    rw [List.sum_cons, r.cnt_list]
theorem Ws.prc_list (f : Nat → Int) : ∀ ws : Ws, ws.prc f = (ws.list.map (W.prc f)).sum
  | .nil => rfl
  | .cons w r => by
    show w.prc f + r.prc f = (w.prc f :: r.list.map (W.prc f)).sum
    rw [List.sum_cons, r.prc_list]
theorem Ws.lng_list : ∀ ws : Ws, ws.lng = (ws.list.map W.lng).flatten
  | .nil => rfl
  | .cons w r => by
    show w.lng ++ r.lng = (w.lng :: r.list.map W.lng).flatten
    rw [List.flatten_cons, r.lng_list]
theorem Ws.tri_list (room : Nat) : ∀ (ws : Ws) (t : Tr), ws.tri room t = ws.list.foldl (fun t w => tjoin t (w.tri room)) t
  | .nil, _ => rfl
  | .cons w r, t => r.tri_list room (tjoin t (w.tri room))
theorem Ws.dep_mem : ∀ {ws : Ws} {w : W}, w ∈ ws.list → w.dep ≤ ws.dep
  | .nil, w, h => by cases h
  | .cons w' r, w, h => by
    show w.dep ≤ max w'.dep r.dep
    rcases List.mem_cons.mp h with h | h
    · subst h
      exact Nat.le_max_left ..
    · exact Nat.le_trans (Ws.dep_mem h) (Nat.le_max_right ..)
theorem Ws.can_mem {many : Nat} : ∀ {ws : Ws} {w : W}, ws.Can many → w ∈ ws.list → w.Can many
  | .nil, w, _, h => by cases h
  | .cons w' r, w, c, h => by
    rcases List.mem_cons.mp h with h | h
    · subst h
      exact c.1
    · exact Ws.can_mem c.2 h
theorem Ws.tm_mem {t : Nat} : ∀ {ws : Ws} {w : W}, ws.Tm t → w ∈ ws.list → w.Tm t
  | .nil, w, _, h => by cases h
  | .cons w' r, w, c, h => by
    rcases List.mem_cons.mp h with h | h
    · subst h
      exact c.1
    · exact Ws.tm_mem c.2 h
theorem Ws.cnt_mem : ∀ {ws : Ws} {w : W}, w ∈ ws.list → w.cnt ≤ ws.cnt
  | .nil, w, h => by cases h
  | .cons w' r, w, h => by
    show w.cnt ≤ w'.cnt + r.cnt
    rcases List.mem_cons.mp h with h | h
    · subst h
      omega
    · have := Ws.cnt_mem h
      omega
theorem s_push : ¬ (("push" : Str) = "pop") := by decide +kernel
theorem s_pu_ro : ¬ (("push" : Str) = "row") := by decide +kernel
theorem s_pu_ti : ¬ (("push" : Str) = "times") := by decide +kernel
theorem s_po_pu : ¬ (("pop" : Str) = "push") := by decide +kernel
theorem s_po_ro : ¬ (("pop" : Str) = "row") := by decide +kernel
theorem s_po_ti : ¬ (("pop" : Str) = "times") := by decide +kernel
theorem s_ro_pu : ¬ (("row" : Str) = "push") := by decide +kernel
theorem s_ro_po : ¬ (("row" : Str) = "pop") := by decide +kernel
theorem s_ro_ti : ¬ (("row" : Str) = "times") := by decide +kernel
theorem s_ti_pu : ¬ (("times" : Str) = "push") := by decide +kernel
theorem s_ti_po : ¬ (("times" : Str) = "pop") := by decide +kernel
theorem s_ti_ro : ¬ (("times" : Str) = "row") := by decide +kernel
theorem vne {a b : Str} (h : ¬ a = b) : ¬ (V.str a = V.str b) := fun z => by
  injection z with z
  exact h z
theorem sign_at {M : Nat} {r : Int} (hm : M ≤ 4) (r0 : 0 ≤ r) (r1 : r < (M : Int)) : ∃ c : Nat, c ∈ signs M ∧ atI (("abcd" : Str).cps.toList) r = some c := by
  obtain ⟨R, rfl⟩ : ∃ R : Nat, r = (R : Int) := ⟨r.toNat, by omega⟩
  have hR : R < M := by omega
  have h3 : R < ([97, 98, 99, 100] : List Nat).length := by show R < 4; omega
  refine ⟨([97, 98, 99, 100] : List Nat)[R], ?_, ?_⟩
  · unfold signs
    exact List.mem_take_iff_getElem.mpr ⟨R, by rw [Nat.lt_min]; exact ⟨hR, h3⟩, rfl⟩
  · exact atI_nat (by rw [s_abcd]; exact List.getElem?_eq_getElem h3)
/-- what a work is made of -/
def W.within : W → Ws
  | .push _ => .nil
  | .pop => .nil
  | .row ws => ws
  | .times _ w => .cons w .nil
structure WOk (many : Nat) (w : W) : Prop where
  can : w.Can many
  siz : w.siz ≤ 60
  dep : w.dep ≤ 8
/-- what a step costs -/
def cst (p : Pl) (c : Nat) : Int := if c = 45 then p.pop else p.pr.getD (c - 97) 0
/-! ### promises -/
def spAlone : Sp := fun vs H Q _ => ∃ (w : W) (v : V) (D : Addr) (many : Nat), vs = [v, .ref D] ∧ WAt H w v ∧ H D = some (.lst ((signs many).map fun c => V.str (tx [c]))) ∧ w.Can many ∧ giv (.bl true) H Q
def spWithin : Sp := fun vs H Q _ => ∃ (w : W) (v : V), vs = [v] ∧ WAt H w v ∧ ∀ (H' : Hp) (u : Addr) (xs : List V), Same H H' → H' u = some (.tup xs) → WsAt H' w.within xs → Q (.ref u) H'
def spChWork : Sp := fun vs H Q _ => ∃ v p u w, vs = [v, u] ∧ PlanAt H v p ∧ p.Ok ∧ WAt H w u ∧ WOk p.many w ∧ giv .non H Q
def spTri (n : Nat) : Sp := fun vs H Q _ => ∃ v p u w, vs = [v, u] ∧ PlanAt H v p ∧ p.Ok ∧ WAt H w u ∧ w.Can p.many ∧ w.dep ≤ n ∧ givT (w.tri p.room) H Q
def spPower : Sp := fun vs H Q _ => ∃ (v : V) (p : Pl) (u : V) (t : Tr) (n : Nat), vs = [v, u, .int n] ∧ PlanAt H v p ∧ p.Ok ∧ TripAt H u t ∧ TrOk p.room p.many t ∧ n ≤ 1000000000000000000 ∧ givT (tpw p.room t n) H Q
def spTold : Sp := fun vs H Q _ => ∃ v p u w, vs = [v, u] ∧ PlanAt H v p ∧ p.Ok ∧ WAt H w u ∧ WOk p.many w ∧ givT (w.tri p.room) H Q
def spRun : Sp := fun vs H Q _ => ∃ v p u w l, vs = [v, u, .str (tx l)] ∧ PlanAt H v p ∧ p.Ok ∧ WAt H w u ∧ WOk p.many w ∧ l.length ≤ p.room ∧ (∀ c ∈ l, c ∈ signs p.many) ∧ giv (.str (tx (tby (w.tri p.room) l))) H Q
def spPStep : Sp := fun vs H Q _ => ∃ v p c, vs = [v, .str (tx [c])] ∧ PlanAt H v p ∧ p.Ok ∧ (c = 45 ∨ c ∈ signs p.many) ∧ giv (.int (cst p c)) H Q
def spPWork (n : Nat) : Sp := fun vs H Q _ => ∃ v p u w, vs = [v, u] ∧ PlanAt H v p ∧ p.Ok ∧ WAt H w u ∧ w.Can p.many ∧ w.dep ≤ n ∧ giv (.int (w.prc (cst p))) H Q
def spCost : Sp := fun vs H Q _ => ∃ v p u w, vs = [v, u] ∧ PlanAt H v p ∧ p.Ok ∧ WAt H w u ∧ WOk p.many w ∧ giv (.int (w.prc (cst p))) H Q
def spLTuples (n : Nat) : Sp := fun vs H Q _ => ∃ u w many, vs = [u] ∧ WAt H w u ∧ (w : W).Can many ∧ w.dep ≤ n ∧ giv (.int ((w : W).siz : Int)) H Q
def spLCount (n : Nat) : Sp := fun vs H Q _ => ∃ u w many, vs = [u] ∧ WAt H w u ∧ (w : W).Can many ∧ w.dep ≤ n ∧ giv (.int ((w : W).cnt : Int)) H Q
def spLLong (n : Nat) : Sp := fun vs H Q _ => ∃ u w many, vs = [u] ∧ WAt H w u ∧ (w : W).Can many ∧ w.dep ≤ n ∧ w.Tm 4 ∧ w.dep ≤ 8 ∧ giv (.str (tx w.lng)) H Q
def spLWork (n : Nat) : Sp := fun vs H Q _ => ∃ (p q : Addr) (ns : List Int) (z : Int) (v : V) (pl : Pl) (m tm : Nat), vs = [.ref p, v, .int (m : Int), .int (tm : Int)] ∧ BoxAt H p q ns z ∧ PlanAt H v pl ∧ pl.Ok ∧ 1 ≤ m ∧ m ≤ n ∧ tm ≤ 1000000000000000000 ∧
  ∀ (w : W) (u : V) (ns' : List Int) (z' : Int) (H' : Hp), w.Can pl.many → w.dep ≤ m → w.Tm tm → WAt H' w u → BoxAt H' p q ns' z' → Keep p q H H' → Q u H'
def spLSome (n : Nat) : Sp := fun vs H Q _ => ∃ (p q : Addr) (ns : List Int) (z : Int) (v : V) (pl : Pl) (m tm lim : Nat), vs = [.ref p, v, .int (m : Int), .int (tm : Int), .int (lim : Int)] ∧ BoxAt H p q ns z ∧ PlanAt H v pl ∧ pl.Ok ∧ 1 ≤ m ∧ m ≤ n ∧ 2 ≤ m ∧ 2 ≤ tm ∧ tm ≤ 1000000000000000000 ∧ 2 ≤ lim ∧
  ∀ (w : W) (u : V) (ns' : List Int) (z' : Int) (H' : Hp), w.Can pl.many → w.dep ≤ m → w.siz ≤ lim → w.Tm tm → WAt H' w u → BoxAt H' p q ns' z' → Keep p q H H' → Q u H'
def ofL : List W → Ws
  | [] => .nil
  | w :: r => .cons w (ofL r)
theorem ofL_len : ∀ l : List W, (ofL l).len = l.length
  | [] => rfl
  | w :: r => by
    show (ofL r).len + 1 = r.length + 1
    rw [ofL_len r]
theorem ofL_can {many : Nat} : ∀ l : List W, (∀ w ∈ l, w.Can many) → (ofL l).Can many
  | [], _ => trivial
  | w :: r, h => ⟨h w (List.mem_cons_self ..), ofL_can r fun x hx => h x (List.mem_cons_of_mem _ hx)⟩
theorem ofL_tm {t : Nat} : ∀ l : List W, (∀ w ∈ l, w.Tm t) → (ofL l).Tm t
  | [], _ => trivial
  | w :: r, h => ⟨h w (List.mem_cons_self ..), ofL_tm r fun x hx => h x (List.mem_cons_of_mem _ hx)⟩
theorem ofL_dep {n : Nat} : ∀ l : List W, (∀ w ∈ l, w.dep ≤ n) → (ofL l).dep ≤ n
  | [], _ => Nat.zero_le _
  | w :: r, h => by
    show max w.dep (ofL r).dep ≤ n
    exact Nat.max_le.mpr ⟨h w (List.mem_cons_self ..), ofL_dep r fun x hx => h x (List.mem_cons_of_mem _ hx)⟩
/-- works and their values, one by one -/
def W2 (H : Hp) : List W → List V → Prop
  | [], vs => vs = []
  | w :: r, vs => ∃ v s, vs = v :: s ∧ WAt H w v ∧ W2 H r s
theorem W2.ws {H : Hp} : ∀ {l : List W} {vs : List V}, W2 H l vs → WsAt H (ofL l) vs
  | [], _, h => h
  | _ :: _, _, h => by
    obtain ⟨v, s, h1, h2, h3⟩ := h
    exact ⟨v, s, h1, h2, h3.ws⟩
theorem W2.tups {H H' : Hp} (e : Tups H H') : ∀ {l : List W} {vs : List V}, W2 H l vs → W2 H' l vs
  | [], _, h => h
  | _ :: _, _, h => by
    obtain ⟨v, s, h1, h2, h3⟩ := h
    exact ⟨v, s, h1, h2.tups e, h3.tups e⟩
theorem W2.snoc {H : Hp} {w : W} {u : V} (hu : WAt H w u) : ∀ {l : List W} {vs : List V}, W2 H l vs → W2 H (l ++ [w]) (vs ++ [u])
  | [], _, h => by
    cases h
    exact ⟨u, [], rfl, hu, rfl⟩
  | _ :: _, _, h => by
    obtain ⟨v, s, rfl, h2, h3⟩ := h
    exact ⟨v, s ++ [u], rfl, h2, h3.snoc hu⟩
theorem W2.len {H : Hp} : ∀ {l : List W} {vs : List V}, W2 H l vs → vs.length = l.length
  | [], _, h => by
    cases h
    rfl
  | _ :: r, _, h => by
    obtain ⟨v, s, rfl, h2, h3⟩ := h
    show s.length + 1 = r.length + 1
    rw [h3.len]
theorem tx1_len : ∀ l : List Nat, ((l.map fun c => tx [c]).map (·.length)).sum = l.length
  | [] => rfl
  | c :: r => by
    show 1 + ((r.map fun c => tx [c]).map (·.length)).sum = r.length + 1
    rw [tx1_len r, Nat.add_comm]
theorem flat1 : ∀ l : List Nat, (l.map fun c => [c]).flatten = l
  | [] => rfl
  | c :: r => by
    show c :: (r.map fun c => [c]).flatten = c :: r
    rw [flat1 r]
end SK
namespace SK
open PySem PySem.Spec PyProof.Rows L2
def top (i : Nat) : Stmt := PySem.Challenge.pw_sinkstack_k01_steps_are_triples.main.body.getD i (.Pass ⟨0, 0, 0, 0⟩)
abbrev s_signs_of : Stmt := top 11
abbrev N_signs_of : List Str := ["plan"]
abbrev P_signs_of : List Str := ["plan"]
theorem sc_signs_of : FnScope N_signs_of P_signs_of (defScope s_signs_of) := ⟨rfl, rfl, rfl, by decide +kernel, rfl, by decide +kernel, by decide +kernel⟩
abbrev s_is_number : Stmt := top 12
abbrev N_is_number : List Str := ["value", "low", "high"]
abbrev P_is_number : List Str := ["value", "low", "high"]
theorem sc_is_number : FnScope N_is_number P_is_number (defScope s_is_number) := ⟨rfl, rfl, rfl, by decide +kernel, rfl, by decide +kernel, by decide +kernel⟩
abbrev s_is_text_of : Stmt := top 13
abbrev N_is_text_of : List Str := ["value", "signs", "sign"]
abbrev P_is_text_of : List Str := ["value", "signs"]
theorem sc_is_text_of : FnScope N_is_text_of P_is_text_of (defScope s_is_text_of) := ⟨rfl, rfl, rfl, by decide +kernel, rfl, by decide +kernel, by decide +kernel⟩
abbrev s_check_plan : Stmt := top 14
abbrev N_check_plan : List Str := ["plan", "room", "many", "prices", "pop_price"]
abbrev P_check_plan : List Str := ["plan"]
theorem sc_check_plan : FnScope N_check_plan P_check_plan (defScope s_check_plan) := ⟨rfl, rfl, rfl, by decide +kernel, rfl, by decide +kernel, by decide +kernel⟩
abbrev s_are_prices : Stmt := top 15
abbrev N_are_prices : List Str := ["prices", "many", "price"]
abbrev P_are_prices : List Str := ["prices", "many"]
theorem sc_are_prices : FnScope N_are_prices P_are_prices (defScope s_are_prices) := ⟨rfl, rfl, rfl, by decide +kernel, rfl, by decide +kernel, by decide +kernel⟩
abbrev s_check_stack : Stmt := top 16
abbrev N_check_stack : List Str := ["plan", "stack"]
abbrev P_check_stack : List Str := ["plan", "stack"]
theorem sc_check_stack : FnScope N_check_stack P_check_stack (defScope s_check_stack) := ⟨rfl, rfl, rfl, by decide +kernel, rfl, by decide +kernel, by decide +kernel⟩
abbrev s_is_stack : Stmt := top 17
abbrev N_is_stack : List Str := ["plan", "stack"]
abbrev P_is_stack : List Str := ["plan", "stack"]
theorem sc_is_stack : FnScope N_is_stack P_is_stack (defScope s_is_stack) := ⟨rfl, rfl, rfl, by decide +kernel, rfl, by decide +kernel, by decide +kernel⟩
abbrev s_check_steps : Stmt := top 18
abbrev N_check_steps : List Str := ["plan", "steps"]
abbrev P_check_steps : List Str := ["plan", "steps"]
theorem sc_check_steps : FnScope N_check_steps P_check_steps (defScope s_check_steps) := ⟨rfl, rfl, rfl, by decide +kernel, rfl, by decide +kernel, by decide +kernel⟩
abbrev s_check_triple : Stmt := top 19
abbrev N_check_triple : List Str := ["plan", "triple"]
abbrev P_check_triple : List Str := ["plan", "triple"]
theorem sc_check_triple : FnScope N_check_triple P_check_triple (defScope s_check_triple) := ⟨rfl, rfl, rfl, by decide +kernel, rfl, by decide +kernel, by decide +kernel⟩
abbrev s_is_triple : Stmt := top 20
abbrev N_is_triple : List Str := ["plan", "triple", "room", "gone", "kept", "laid"]
abbrev P_is_triple : List Str := ["plan", "triple"]
theorem sc_is_triple : FnScope N_is_triple P_is_triple (defScope s_is_triple) := ⟨rfl, rfl, rfl, by decide +kernel, rfl, by decide +kernel, by decide +kernel⟩
abbrev s_told_of_steps : Stmt := top 22
abbrev N_told_of_steps : List Str := ["plan", "steps"]
abbrev P_told_of_steps : List Str := ["plan", "steps"]
theorem sc_told_of_steps : FnScope N_told_of_steps P_told_of_steps (defScope s_told_of_steps) := ⟨rfl, rfl, rfl, by decide +kernel, rfl, by decide +kernel, by decide +kernel⟩
abbrev s_done : Stmt := top 23
abbrev N_done : List Str := ["plan", "triple", "stack"]
abbrev P_done : List Str := ["plan", "triple", "stack"]
theorem sc_done : FnScope N_done P_done (defScope s_done) := ⟨rfl, rfl, rfl, by decide +kernel, rfl, by decide +kernel, by decide +kernel⟩
abbrev s_triple_of_steps : Stmt := top 24
abbrev N_triple_of_steps : List Str := ["plan", "steps", "whole", "step"]
abbrev P_triple_of_steps : List Str := ["plan", "steps"]
theorem sc_triple_of_steps : FnScope N_triple_of_steps P_triple_of_steps (defScope s_triple_of_steps) := ⟨rfl, rfl, rfl, by decide +kernel, rfl, by decide +kernel, by decide +kernel⟩
abbrev s_triple_of_step : Stmt := top 25
abbrev N_triple_of_step : List Str := ["plan", "step"]
abbrev P_triple_of_step : List Str := ["plan", "step"]
theorem sc_triple_of_step : FnScope N_triple_of_step P_triple_of_step (defScope s_triple_of_step) := ⟨rfl, rfl, rfl, by decide +kernel, rfl, by decide +kernel, by decide +kernel⟩
abbrev s_untouched : Stmt := top 26
abbrev N_untouched : List Str := ["plan"]
abbrev P_untouched : List Str := ["plan"]
theorem sc_untouched : FnScope N_untouched P_untouched (defScope s_untouched) := ⟨rfl, rfl, rfl, by decide +kernel, rfl, by decide +kernel, by decide +kernel⟩
abbrev s_tidied : Stmt := top 27
abbrev N_tidied : List Str := ["gone", "kept", "laid"]
abbrev P_tidied : List Str := ["gone", "kept", "laid"]
theorem sc_tidied : FnScope N_tidied P_tidied (defScope s_tidied) := ⟨rfl, rfl, rfl, by decide +kernel, rfl, by decide +kernel, by decide +kernel⟩
abbrev s_join_triples : Stmt := top 28
abbrev N_join_triples : List Str := ["one", "other", "gone", "kept", "laid", "next_gone", "next_kept", "next_laid", "deeper", "left", "still_kept"]
abbrev P_join_triples : List Str := ["one", "other"]
theorem sc_join_triples : FnScope N_join_triples P_join_triples (defScope s_join_triples) := ⟨rfl, rfl, rfl, by decide +kernel, rfl, by decide +kernel, by decide +kernel⟩
abbrev s_stack_behind : Stmt := top 29
abbrev N_stack_behind : List Str := ["triple", "stack", "gone", "kept", "laid"]
abbrev P_stack_behind : List Str := ["triple", "stack"]
theorem sc_stack_behind : FnScope N_stack_behind P_stack_behind (defScope s_stack_behind) := ⟨rfl, rfl, rfl, by decide +kernel, rfl, by decide +kernel, by decide +kernel⟩
abbrev s_without_top : Stmt := top 30
abbrev N_without_top : List Str := ["stack", "many"]
abbrev P_without_top : List Str := ["stack", "many"]
theorem sc_without_top : FnScope N_without_top P_without_top (defScope s_without_top) := ⟨rfl, rfl, rfl, by decide +kernel, rfl, by decide +kernel, by decide +kernel⟩
abbrev s_top_of : Stmt := top 31
abbrev N_top_of : List Str := ["stack", "many"]
abbrev P_top_of : List Str := ["stack", "many"]
theorem sc_top_of : FnScope N_top_of P_top_of (defScope s_top_of) := ⟨rfl, rfl, rfl, by decide +kernel, rfl, by decide +kernel, by decide +kernel⟩
abbrev s_law_begun : Stmt := top 33
abbrev N_law_begun : List Str := ["_law_script", "_law_stirred", "_law_cell"]
abbrev P_law_begun : List Str := ["_law_script"]
theorem sc_law_begun : FnScope N_law_begun P_law_begun (defScope s_law_begun) := ⟨rfl, rfl, rfl, by decide +kernel, rfl, by decide +kernel, by decide +kernel⟩
abbrev s_law_take : Stmt := top 34
abbrev N_law_take : List Str := ["_law_box", "_law_size", "_law_figure"]
abbrev P_law_take : List Str := ["_law_box", "_law_size"]
theorem sc_law_take : FnScope N_law_take P_law_take (defScope s_law_take) := ⟨rfl, rfl, rfl, by decide +kernel, rfl, by decide +kernel, by decide +kernel⟩
abbrev s_law_alike : Stmt := top 35
abbrev N_law_alike : List Str := ["_law_found", "_law_due", "_law_k"]
abbrev P_law_alike : List Str := ["_law_found", "_law_due"]
theorem sc_law_alike : FnScope N_law_alike P_law_alike (defScope s_law_alike) := ⟨rfl, rfl, rfl, by decide +kernel, rfl, by decide +kernel, by decide +kernel⟩
abbrev s_law_plan : Stmt := top 36
abbrev N_law_plan : List Str := ["_law_box", "_law_room", "_law_signs_here", "_law_size", "_law_prices", "_law_k"]
abbrev P_law_plan : List Str := ["_law_box", "_law_room", "_law_signs_here"]
theorem sc_law_plan : FnScope N_law_plan P_law_plan (defScope s_law_plan) := ⟨rfl, rfl, rfl, by decide +kernel, rfl, by decide +kernel, by decide +kernel⟩
abbrev s_law_steps : Stmt := top 38
abbrev N_law_steps : List Str := ["_law_box", "_law_plan_here", "_law_limit", "_law_found", "_law_turn"]
abbrev P_law_steps : List Str := ["_law_box", "_law_plan_here", "_law_limit"]
theorem sc_law_steps : FnScope N_law_steps P_law_steps (defScope s_law_steps) := ⟨rfl, rfl, rfl, by decide +kernel, rfl, by decide +kernel, by decide +kernel⟩
abbrev s_law_step : Stmt := top 43
abbrev N_law_step : List Str := ["_law_plan_here", "_law_stack", "_law_sign"]
abbrev P_law_step : List Str := ["_law_plan_here", "_law_stack", "_law_sign"]
theorem sc_law_step : FnScope N_law_step P_law_step (defScope s_law_step) := ⟨rfl, rfl, rfl, by decide +kernel, rfl, by decide +kernel, by decide +kernel⟩
abbrev s_law_gone : Stmt := top 44
abbrev N_law_gone : List Str := ["_law_plan_here", "_law_stack", "_law_steps_here", "_law_sign"]
abbrev P_law_gone : List Str := ["_law_plan_here", "_law_stack", "_law_steps_here"]
theorem sc_law_gone : FnScope N_law_gone P_law_gone (defScope s_law_gone) := ⟨rfl, rfl, rfl, by decide +kernel, rfl, by decide +kernel, by decide +kernel⟩
abbrev s_law_by : Stmt := top 45
abbrev N_law_by : List Str := ["_law_triple_here", "_law_stack", "_law_gone_here", "_law_kept", "_law_laid", "_law_left"]
abbrev P_law_by : List Str := ["_law_triple_here", "_law_stack"]
theorem sc_law_by : FnScope N_law_by P_law_by (defScope s_law_by) := ⟨rfl, rfl, rfl, by decide +kernel, rfl, by decide +kernel, by decide +kernel⟩
abbrev s_law_stacks : Stmt := top 46
abbrev N_law_stacks : List Str := ["_law_plan_here", "_law_found", "_law_last", "_law_size", "_law_longer", "_law_one", "_law_sign"]
abbrev P_law_stacks : List Str := ["_law_plan_here"]
theorem sc_law_stacks : FnScope N_law_stacks P_law_stacks (defScope s_law_stacks) := ⟨rfl, rfl, rfl, by decide +kernel, rfl, by decide +kernel, by decide +kernel⟩
abbrev s_law : Stmt := top 48
abbrev N_law : List Str := ["_law_script", "_law_box", "_law_turn", "_law_plan_here", "_law_steps_here", "_law_triple_here", "_law_gone_here", "_law_kept", "_law_laid", "_law_stack", "_law_due"]
abbrev P_law : List Str := ["_law_script"]
theorem sc_law : FnScope N_law P_law (defScope s_law) := ⟨rfl, rfl, rfl, by decide +kernel, rfl, by decide +kernel, by decide +kernel⟩
/-! ### what the module's names hold -/
structure Gx (mg : Str → Option Value) : Prop where
  SIGNS : ∃ u, mg "SIGNS" = some u ∧ RelV (.str (tx [97, 98, 99, 100])) u
  POP_STEP : ∃ u, mg "POP_STEP" = some u ∧ RelV (.str (tx [45])) u
  MOST_ROOM : ∃ u, mg "MOST_ROOM" = some u ∧ RelV (.int 9) u
  MOST_PRICE : ∃ u, mg "MOST_PRICE" = some u ∧ RelV (.int 99) u
  isi : mg "isinstance" = none
  bool : mg "bool" = none
  int : mg "int" = none
  str : mg "str" = none
  tuple : mg "tuple" = none
  len : mg "len" = none
  all : mg "all" = none
  max : mg "max" = none
  min : mg "min" = none
  range : mg "range" = none
  list : mg "list" = none
  reversed : mg "reversed" = none
  sum : mg "sum" = none
  abs : mg "abs" = none
section
variable {P : Program} {w : World} {K : PySem.W.Frag} {mg : Str → Option Value} {base : Heap}
theorem ok_signs_of (D : Dn K mg "signs_of" s_signs_of P_signs_of) (g : Gx mg) : C8.Cal P w K mg base 1 "signs_of" spSigns [] := by
  refine D.cal sc_signs_of (fun vs H Q E h => ?_) (fun f cdv A outer s H vs Q E hr h => ?_)
  · obtain ⟨v, p, rfl, ⟨a, b, rfl, ha, hb⟩, ok, q⟩ := h
    rfl
  obtain ⟨v, p, rfl, ⟨a, b, rfl, ha, hb⟩, ok, q⟩ := h
  have nd := sc_signs_of.nd
  refine ⟨_, (pss_one (ps_ret (pe_slice sl_str (C8.pe_gc rfl g.SIGNS) po_none (po_some (pe_ix ix_tup (pv 0) pe_int (fun _ _ => rfl)))))), ?_⟩
  refine ⟨_, rfl, a, _, 1, _, rfl, rfl, SqT.of ha, rfl, _, rfl, _, rfl, sz (by decide), ?_⟩
  rw [cut_to (l := [97, 98, 99, 100]) (n := p.many) ok.m4]
  exact q H (Same.refl H)
theorem ok_is_number (D : Dn K mg "is_number" s_is_number P_is_number) (g : Gx mg) : C8.Cal P w K mg base 1 "is_number" spNum [] := by
  refine D.cal sc_is_number (fun vs H Q E h => ?_) (fun f cdv A outer s H vs Q E hr h => ?_)
  · obtain ⟨i, lo, hi, rfl, q⟩ := h
    rfl
  obtain ⟨i, lo, hi, rfl, q⟩ := h
  have nd := sc_is_number.nd
  refine ⟨_, (pss_one (ps_ret (pe_and (pe_callB call_isi rfl g.isi b_isi (pa_cons (pv 0) (pa_cons (pe_bltn (v := .ty "int") rfl g.int b_int rfl) pa_nil))) (pe_and (pe_not (pe_callB call_isi rfl g.isi b_isi (pa_cons (pv 0) (pa_cons (pe_bltn (v := .ty "bool") rfl g.bool b_bool rfl) pa_nil)))) (pe_one (pe_chain op_le op_le (pv 1) (pv 0) (pv 2))))))), ?_⟩
  refine ⟨_, rfl, _, _, _, _, _, rfl, .ty "int", ty_int, kit_ty k_int_int, _, rfl, iteT ?_⟩
  refine ⟨_, rfl, _, _, _, _, _, rfl, .ty "bool", ty_int, kit_ty k_int_bool, _, rfl, _, rfl, iteT ?_⟩
  refine ⟨_, rfl, _, rfl, _, _, rfl, rfl, _, rfl, ite2 (fun c => ?_) (fun c => ?_)⟩
  · have c1 : lo ≤ i := of_decide_eq_true c
    refine ⟨_, rfl, _, _, rfl, rfl, ?_⟩
    have e : decide (lo ≤ i ∧ i ≤ hi) = decide (i ≤ hi) := by simp [c1]
    have q1 := q H (Same.refl H)
    rw [e] at q1
    exact q1
  · have c1 : ¬ lo ≤ i := fun z => c (decide_eq_true z)
    have e : decide (lo ≤ i ∧ i ≤ hi) = false := by simp [c1]
    have q1 := q H (Same.refl H)
    rw [e] at q1
    exact q1
theorem ok_is_text_of (D : Dn K mg "is_text_of" s_is_text_of P_is_text_of) (g : Gx mg) : C8.Cal P w K mg base 1 "is_text_of" spTextOf [] := by
  refine D.cal sc_is_text_of (fun vs H Q E h => ?_) (fun f cdv A outer s H vs Q E hr h => ?_)
  · obtain ⟨l, sg, rfl, hl, q⟩ := h
    rfl
  obtain ⟨l, sg, rfl, hl, q⟩ := h
  have nd := sc_is_text_of.nd
  refine ⟨_, (pss_one (ps_ret (pe_and (pe_callB call_isi rfl g.isi b_isi (pa_cons (pv 0) (pa_cons (pe_bltn (v := .ty "str") rfl g.str b_str rfl) pa_nil))) (pe_one (pe_callB (cr_all rfl) rfl g.all b_all (pa_cons (pe_lc (own := [("sign", 2)]) rfl nd (pi_str (pv 0)) (blkOk_by (own := [("sign", 2)]) (N := N_is_text_of) (sc := defScope s_is_text_of) (by decide +kernel)) (fun _ _ _ _ _ => (pg_name (i := 2) nd rfl (.inl rfl))) (fun _ _ _ _ _ => pts_nil) (fun _ _ _ _ _ => (pe_cmpR op_in_sign (pv 2) (pv 1) rfl))) pa_nil)))))), ?_⟩
  refine ⟨_, rfl, _, _, _, _, _, rfl, .ty "str", ty_str, kit_ty k_str_str, _, rfl, iteT ?_⟩
  refine ⟨_, rfl, _, rfl, fun D hD => ?_⟩
  have hn : (tx l).cps.size = l.length := tx_len l
  refine lc_it (walk_str (z := tx l)) (fun i H2 => Same H H2 ∧ H2 D = some (.lst ((l.take i).map fun c => V.bl (decide (c ∈ sg))))) ⟨Same.new hD _, upd_same⟩ (fun _ _ _ _ => trivial) ?_ ?_
  · rintro i x H2 H3 hi ⟨s2, h2⟩ ⟨rfl, c, hc, rfl⟩
    have hc' : l[i]? = some c := by
      rw [← hc]
      simp [tx]
    refine ⟨rfl, ?_⟩
    refine ⟨_, rfl, _, rfl, c, tx sg, rfl, rfl, _, h2, ?_, fun b o e => ?_, ?_⟩
    · rw [List.length_map, List.length_take]
      exact szl (by omega)
    · rw [upd_ne (ne_of_none e hD)]
      exact s2 b o e
    · rw [upd_same, List.take_add_one, hc']
      simp [tx_list]
      exact decide_eq_decide.mpr Iff.rfl
  · rintro H2 ⟨s2, h2⟩
    rw [hn, List.take_of_length_le (Nat.le_refl _)] at h2
    refine ⟨D, l.map fun c => decide (c ∈ sg), rfl, SqL.of (by rw [h2, List.map_map]; rfl), ?_⟩
    have e : (l.map fun c => decide (c ∈ sg)).all id = decide (∀ c ∈ l, c ∈ sg) := by
      rw [List.all_map, Bool.eq_iff_iff]
      simp
    rw [e]
    exact q H2 s2
theorem ok_are_prices (D : Dn K mg "are_prices" s_are_prices P_are_prices) (g : Gx mg) (c_is_number : C8.Cal P w K mg base 1 "is_number" spNum []) : C8.Cal P w K mg base 2 "are_prices" spPrices [] := by
  refine D.cal sc_are_prices (fun vs H Q E h => ?_) (fun f cdv A outer s H vs Q E hr h => ?_)
  · obtain ⟨b, p, rfl, hb, ok, q⟩ := h
    rfl
  obtain ⟨b, p, rfl, hb, ok, q⟩ := h
  have nd := sc_are_prices.nd
  refine ⟨_, (pss_cons (ps_if (PW.pt (pw_or (pt_not (pt_val (pe_callB call_isi rfl g.isi b_isi (pa_cons (pv 0) (pa_cons (pe_bltn (v := .ty "tuple") rfl g.tuple b_tuple rfl) pa_nil))))) (pw_or1 (pt_cmpR op_ne (pe_callB call_len_seq rfl g.len PySem.boot_len (pa_cons (pv 0) pa_nil)) (pv 1) (nomark _))))) (pss_one (ps_ret pe_bl)) pss_nil)
    (pss_one (ps_ret (pe_callB (cr_all rfl) rfl g.all b_all (pa_cons (pe_lc (own := [("price", 2)]) rfl nd (pi_tup (pv 0)) (blkOk_by (own := [("price", 2)]) (N := N_are_prices) (sc := defScope s_are_prices) (by decide +kernel)) (fun _ _ _ _ _ => (pg_name (i := 2) nd rfl (.inl rfl))) (fun _ _ _ _ _ => pts_nil) (fun _ _ _ _ _ => (C8.pe_c c_is_number (by exact hr) (by decide) rfl (pa_cons (pv 2) (pa_cons pe_int (pa_cons (C8.pe_gc rfl g.MOST_PRICE) pa_nil)))))) pa_nil))))), ?_⟩
  have hl : (p.pr.map V.int).length = p.many := by rw [List.length_map]; exact ok.pl
  refine ⟨_, rfl, _, _, _, _, _, rfl, .ty "tuple", hb.ty, kit_ty k_tup_tup, _, rfl, iteF ?_⟩
  refine ⟨_, rfl, b, _, rfl, .inr (TupF.sq hb), _, rfl, rfl, _, rfl, iteNS (by rw [hl]) ?_⟩
  refine ⟨_, rfl, b, rfl, ⟨_, TupF.sq hb⟩, fun D hD => ?_⟩
  refine lc_it (walk_tup (a := b) (xs := p.pr.map V.int)) (fun i H2 => Same H H2 ∧ H2 D = some (.lst ((List.replicate i true).map V.bl))) ⟨Same.new hD _, upd_same⟩ (fun i H2 _ h2 => TupF.sq (PrAt.mono hb h2.1)) ?_ ?_
  · rintro i x H2 H3 hi ⟨s2, h2⟩ ⟨rfl, hx⟩
    rw [List.getElem?_map] at hx
    obtain ⟨y, hy, rfl⟩ := Option.map_eq_some_iff.mp hx
    have hy' := ok.pr y (List.mem_of_getElem? hy)
    refine ⟨rfl, ?_⟩
    refine ⟨_, rfl, y, 1, 99, rfl, fun H4 s4 => ⟨_, s4 _ _ h2, ?_, fun b o e => ?_, ?_⟩⟩
    · rw [List.length_map, List.length_replicate]
      have := ok.m4
      exact szl (by omega)
    · rw [upd_ne (ne_of_none e hD)]
      exact s4 _ _ (s2 b o e)
    · rw [upd_same, List.replicate_succ', List.map_append, decide_eq_true hy']
      rfl
  · rintro H2 ⟨s2, h2⟩
    refine ⟨D, _, rfl, SqL.of h2, ?_⟩
    have e : (List.replicate (p.pr.map V.int).length true).all id = true := by simp
    rw [e]
    exact q H2 s2
theorem mem_steps {c n : Nat} : c ∈ signs n ++ [45] ↔ c = 45 ∨ c ∈ signs n := by
  rw [List.mem_append, List.mem_singleton, Or.comm]
theorem ok_check_plan (D : Dn K mg "check_plan" s_check_plan P_check_plan) (g : Gx mg) (c_is_number : C8.Cal P w K mg base 1 "is_number" spNum []) (c_are_prices : C8.Cal P w K mg base 2 "are_prices" spPrices []) : C8.Cal P w K mg base 3 "check_plan" spChPlan [] := by
  refine D.cal sc_check_plan (fun vs H Q E h => ?_) (fun f cdv A outer s H vs Q E hr h => ?_)
  · obtain ⟨v, p, rfl, ⟨a, b, rfl, ha, hb⟩, ok, q⟩ := h
    rfl
  obtain ⟨v, p, rfl, ⟨a, b, rfl, ha, hb⟩, ok, q⟩ := h
  have nd := sc_check_plan.nd
  refine ⟨_, (pss_cons (ps_if (PW.pt (pw_or (pt_not (pt_val (pe_callB call_isi rfl g.isi b_isi (pa_cons (pv 0) (pa_cons (pe_bltn (v := .ty "tuple") rfl g.tuple b_tuple rfl) pa_nil))))) (pw_or1 (pt_cmpR op_ne (pe_callB call_len_seq rfl g.len PySem.boot_len (pa_cons (pv 0) pa_nil)) pe_int (nomark _))))) (pss_one ps_never) pss_nil)
    (pss_cons (ps_asg (pv 0) (pg_tup (by rfl) (pgs_cons (pg_name (i := 1) nd rfl (.inl rfl)) (pgs_cons (pg_name (i := 2) nd rfl (.inl rfl)) (pgs_cons (pg_name (i := 3) nd rfl (.inl rfl)) (pgs_cons (pg_name (i := 4) nd rfl (.inl rfl)) pgs_nil))))))
    (pss_cons (ps_if (pt_not (pt_val (C8.pe_c c_is_number hr (by decide) rfl (pa_cons (pv 1) (pa_cons pe_int (pa_cons (C8.pe_gc rfl g.MOST_ROOM) pa_nil)))))) (pss_one ps_never) pss_nil)
    (pss_cons (ps_if (pt_not (pt_val (C8.pe_c c_is_number hr (by decide) rfl (pa_cons (pv 2) (pa_cons pe_int (pa_cons (pe_callB call_len_str rfl g.len PySem.boot_len (pa_cons (C8.pe_gc rfl g.SIGNS) pa_nil)) pa_nil)))))) (pss_one ps_never) pss_nil)
    (pss_cons (ps_if (pt_not (pt_val (C8.pe_c c_are_prices hr (by decide) rfl (pa_cons (pv 3) (pa_cons (pv 2) pa_nil))))) (pss_one ps_never) pss_nil)
    (pss_one (ps_if (pt_not (pt_val (C8.pe_c c_is_number hr (by decide) rfl (pa_cons (pv 4) (pa_cons pe_int (pa_cons (C8.pe_gc rfl g.MOST_PRICE) pa_nil)))))) (pss_one ps_never) pss_nil))))))), ?_⟩
  refine ⟨_, rfl, _, _, _, _, _, rfl, .ty "tuple", ty_tup ha, kit_ty k_tup_tup, _, rfl, iteF ?_⟩
  refine ⟨_, rfl, a, _, rfl, .inr (SqT.of ha), rfl, _, rfl, iteNS rfl ?_⟩
  refine ⟨_, rfl, a, _, rfl, SqT.of ha, rfl, _, _, rfl, _, _, rfl, _, _, rfl, _, _, rfl, rfl, ?_⟩
  have e0 : decide ((1 : Int) ≤ (p.room : Int) ∧ (p.room : Int) ≤ 9) = true := decide_eq_true (by have := ok.r1; have := ok.r9; omega)
  have e1 : decide ((1 : Int) ≤ (p.many : Int) ∧ (p.many : Int) ≤ 4) = true := decide_eq_true (by have := ok.m1; have := ok.m4; omega)
  have e3 : decide ((1 : Int) ≤ p.pop ∧ p.pop ≤ 99) = true := decide_eq_true ⟨ok.q1, ok.q9⟩
  refine ⟨_, rfl, p.room, 1, 9, rfl, fun H1 s1 => ⟨_, rfl, ?_⟩⟩
  rw [e0]
  refine iteF ?_
  refine ⟨_, rfl, _, rfl, by rw [tx_len]; exact sz (by decide), p.many, 1, 4, rfl, fun H2 s2 => ⟨_, rfl, ?_⟩⟩
  rw [e1]
  refine iteF ?_
  refine ⟨_, rfl, _, rfl, b, p, rfl, PrAt.mono hb (s1.trans s2), ok, fun H3 s3 => ⟨_, rfl, iteF ?_⟩⟩
  refine ⟨_, rfl, p.pop, 1, 99, rfl, fun H4 s4 => ⟨_, rfl, ?_⟩⟩
  rw [e3]
  refine iteF ?_
  exact q H4 (s1.trans (s2.trans (s3.trans s4)))
theorem ok_is_stack (D : Dn K mg "is_stack" s_is_stack P_is_stack) (g : Gx mg) (c_signs_of : C8.Cal P w K mg base 1 "signs_of" spSigns []) (c_is_text_of : C8.Cal P w K mg base 1 "is_text_of" spTextOf []) : C8.Cal P w K mg base 2 "is_stack" spIsStack [] := by
  refine D.cal sc_is_stack (fun vs H Q E h => ?_) (fun f cdv A outer s H vs Q E hr h => ?_)
  · obtain ⟨v, p, l, rfl, ⟨a, b, rfl, ha, hb⟩, ok, hl, hs, q⟩ := h
    rfl
  obtain ⟨v, p, l, rfl, ⟨a, b, rfl, ha, hb⟩, ok, hl, hs, q⟩ := h
  have nd := sc_is_stack.nd
  refine ⟨_, (pss_one (ps_ret (pe_and (C8.pe_c c_is_text_of hr (by decide) rfl (pa_cons (pv 1) (pa_cons (C8.pe_c c_signs_of hr (by decide) rfl (pa_cons (pv 0) pa_nil)) pa_nil))) (pe_one (pe_cmpR op_le (pe_callB call_len_str rfl g.len PySem.boot_len (pa_cons (pv 1) pa_nil)) (pe_ix ix_tup (pv 0) pe_int (fun _ _ => rfl)) (nomark _)))))), ?_⟩
  have hr9 := ok.r9
  refine ⟨_, rfl, _, rfl, _, p, rfl, ⟨a, b, rfl, ha, hb⟩, ok, fun H1 s1 => ?_⟩
  refine ⟨l, signs p.many, rfl, by omega, fun H2 s2 => ⟨_, rfl, ?_⟩⟩
  rw [decide_eq_true hs]
  refine iteT ?_
  refine ⟨_, rfl, _, rfl, by rw [tx_len]; exact sz (by omega), _, rfl, a, _, 0, _, rfl, rfl, SqT.of ((s1.trans s2) _ _ ha), rfl, _, _, rfl, rfl, ?_⟩
  show Q (.bl (decide (((tx l).length : Int) ≤ (p.room : Int)))) H2
  rw [tx_len, decide_eq_true (by omega)]
  exact q H2 (s1.trans s2)
theorem ok_check_stack (D : Dn K mg "check_stack" s_check_stack P_check_stack) (g : Gx mg) (c_is_stack : C8.Cal P w K mg base 2 "is_stack" spIsStack []) : C8.Cal P w K mg base 3 "check_stack" spChStack [] := by
  refine D.cal sc_check_stack (fun vs H Q E h => ?_) (fun f cdv A outer s H vs Q E hr h => ?_)
  · obtain ⟨v, p, l, rfl, hp, ok, hl, hs, q⟩ := h
    rfl
  obtain ⟨v, p, l, rfl, hp, ok, hl, hs, q⟩ := h
  have nd := sc_check_stack.nd
  refine ⟨_, (pss_one (ps_if (pt_not (pt_val (C8.pe_c c_is_stack hr (by decide) rfl (pa_cons (pv 0) (pa_cons (pv 1) pa_nil))))) (pss_one ps_never) pss_nil)), ?_⟩
  refine ⟨_, rfl, _, rfl, v, p, l, rfl, hp, ok, hl, hs, fun H1 s1 => ⟨_, rfl, iteF ?_⟩⟩
  exact q H1 s1
theorem ok_check_steps (D : Dn K mg "check_steps" s_check_steps P_check_steps) (g : Gx mg) (c_signs_of : C8.Cal P w K mg base 1 "signs_of" spSigns []) (c_is_text_of : C8.Cal P w K mg base 1 "is_text_of" spTextOf []) : C8.Cal P w K mg base 2 "check_steps" spChSteps [] := by
  refine D.cal sc_check_steps (fun vs H Q E h => ?_) (fun f cdv A outer s H vs Q E hr h => ?_)
  · obtain ⟨v, p, l, rfl, ⟨a, b, rfl, ha, hb⟩, ok, hl, hs, q⟩ := h
    rfl
  obtain ⟨v, p, l, rfl, ⟨a, b, rfl, ha, hb⟩, ok, hl, hs, q⟩ := h
  have nd := sc_check_steps.nd
  refine ⟨_, (pss_one (ps_if (pt_not (pt_val (C8.pe_c c_is_text_of hr (by decide) rfl (pa_cons (pv 1) (pa_cons (pe_op op_add_str (C8.pe_c c_signs_of hr (by decide) rfl (pa_cons (pv 0) pa_nil)) (C8.pe_gc rfl g.POP_STEP)) pa_nil))))) (pss_one ps_never) pss_nil)), ?_⟩
  refine ⟨_, rfl, _, rfl, _, p, rfl, ⟨a, b, rfl, ha, hb⟩, ok, fun H1 s1 => ⟨_, _, rfl, rfl, ?_, ?_⟩⟩
  · rw [tx_len, tx_len]
    have := signs_len p.many
    exact sz (by simp; omega)
  rw [tx_app]
  refine ⟨l, _, rfl, hl, fun H2 s2 => ⟨_, rfl, ?_⟩⟩
  rw [decide_eq_true (fun c hc => mem_steps.mpr (hs c hc))]
  exact iteF (q H2 (s1.trans s2))
theorem ok_is_triple (D : Dn K mg "is_triple" s_is_triple P_is_triple) (g : Gx mg) (c_is_number : C8.Cal P w K mg base 1 "is_number" spNum []) (c_signs_of : C8.Cal P w K mg base 1 "signs_of" spSigns []) (c_is_text_of : C8.Cal P w K mg base 1 "is_text_of" spTextOf []) : C8.Cal P w K mg base 2 "is_triple" spIsTriple [] := by
  refine D.cal sc_is_triple (fun vs H Q E h => ?_) (fun f cdv A outer s H vs Q E hr h => ?_)
  · obtain ⟨v, p, u, t, rfl, ⟨a, b, rfl, ha, hb⟩, ok, ⟨c, rfl, hc⟩, tok, q⟩ := h
    rfl
  obtain ⟨v, p, u, t, rfl, ⟨a, b, rfl, ha, hb⟩, ok, ⟨c, rfl, hc⟩, tok, q⟩ := h
  have nd := sc_is_triple.nd
  refine ⟨_, (pss_cons (ps_if (PW.pt (pw_or (pt_not (pt_val (pe_callB call_isi rfl g.isi b_isi (pa_cons (pv 1) (pa_cons (pe_bltn (v := .ty "tuple") rfl g.tuple b_tuple rfl) pa_nil))))) (pw_or1 (pt_cmpR op_ne (pe_callB call_len_seq rfl g.len PySem.boot_len (pa_cons (pv 1) pa_nil)) pe_int (nomark _))))) (pss_one (ps_ret pe_bl)) pss_nil)
    (pss_cons (ps_set (i := 2) nd rfl (.inl rfl) (pe_ix ix_tup (pv 0) pe_int (fun _ _ => rfl)))
    (pss_cons (ps_asg (pv 1) (pg_tup (by rfl) (pgs_cons (pg_name (i := 3) nd rfl (.inl rfl)) (pgs_cons (pg_name (i := 4) nd rfl (.inl rfl)) (pgs_cons (pg_name (i := 5) nd rfl (.inl rfl)) pgs_nil)))))
    (pss_cons (ps_if (PW.pt (pw_or (pt_not (pt_val (C8.pe_c c_is_number hr (by decide) rfl (pa_cons (pv 3) (pa_cons pe_int (pa_cons (pv 2) pa_nil)))))) (pw_or1 (pt_not (pt_val (C8.pe_c c_is_number hr (by decide) rfl (pa_cons (pv 4) (pa_cons pe_int (pa_cons (pv 2) pa_nil))))))))) (pss_one (ps_ret pe_bl)) pss_nil)
    (pss_cons (ps_if (pt_not (pt_val (C8.pe_c c_is_text_of hr (by decide) rfl (pa_cons (pv 5) (pa_cons (C8.pe_c c_signs_of hr (by decide) rfl (pa_cons (pv 0) pa_nil)) pa_nil))))) (pss_one (ps_ret pe_bl)) pss_nil)
    (pss_cons (ps_if (PW.pt (pw_and (pt_cmpR op_eq (pv 4) pe_int (nomark _)) (pw_and1 (pt_cmpR op_ne (pv 3) pe_int (nomark _))))) (pss_one (ps_ret pe_bl)) pss_nil)
    (pss_one (ps_ret (pe_and (pe_cmpR op_le (pe_op op_add (pv 3) (pv 4)) (pv 2) (nomark _)) (pe_one (pe_cmpR op_le (pe_op op_add (pe_callB call_len_str rfl g.len PySem.boot_len (pa_cons (pv 5) pa_nil)) (pv 4)) (pv 2) (nomark _)))))))))))), ?_⟩
  have h1 := tok.gk
  have h2 := tok.kl
  have h3 := tok.z
  have hr9 := ok.r9
  refine ⟨_, rfl, _, _, _, _, _, rfl, .ty "tuple", ty_tup hc, kit_ty k_tup_tup, _, rfl, iteF ?_⟩
  refine ⟨_, rfl, c, _, rfl, .inr (SqT.of hc), rfl, _, rfl, iteNS rfl ?_⟩
  refine ⟨_, rfl, a, _, 0, _, rfl, rfl, SqT.of ha, rfl, ?_⟩
  refine ⟨_, rfl, c, _, rfl, SqT.of hc, rfl, _, _, rfl, _, _, rfl, _, _, rfl, rfl, ?_⟩
  refine ⟨_, rfl, _, rfl, t.g, 0, p.room, rfl, fun H1 s1 => ⟨_, rfl, ?_⟩⟩
  rw [decide_eq_true (by omega)]
  refine iteF ?_
  refine ⟨_, rfl, _, rfl, t.k, 0, p.room, rfl, fun H2 s2 => ⟨_, rfl, ?_⟩⟩
  rw [decide_eq_true (by omega)]
  refine iteF ?_
  refine ⟨_, rfl, _, rfl, _, p, rfl, ⟨a, b, rfl, (s1.trans s2) _ _ ha, PrAt.mono hb (s1.trans s2)⟩, ok, fun H3 s3 => ?_⟩
  refine ⟨t.l, signs p.many, rfl, by omega, fun H4 s4 => ⟨_, rfl, ?_⟩⟩
  rw [decide_eq_true tok.s]
  refine iteF ?_
  refine ⟨_, rfl, rfl, _, rfl, ite2 (fun z => ?_) (fun z => ?_)⟩
  · have z1 : t.k = 0 := by
      have z1 := of_decide_eq_true z
      injection z1 with z2
      omega
    have z2 := h3 z1
    refine ⟨_, rfl, rfl, _, rfl, iteNS (by rw [z2]; rfl) ?_⟩
    refine ⟨_, rfl, _, rfl, _, _, rfl, rfl, _, rfl, _, _, rfl, rfl, _, rfl, ?_⟩
    rw [decide_eq_true (by omega)]
    refine iteT ⟨_, rfl, _, rfl, by rw [tx_len]; exact sz (by omega), _, rfl, _, _, rfl, rfl, _, rfl, _, _, rfl, rfl, ?_⟩
    show Q (.bl (decide (((tx t.l).length : Int) + (t.k : Int) ≤ (p.room : Int)))) H4
    rw [tx_len, decide_eq_true (by omega)]
    exact q _ (s1.trans (s2.trans (s3.trans s4)))
  · refine iteF ?_
    refine ⟨_, rfl, _, rfl, _, _, rfl, rfl, _, rfl, _, _, rfl, rfl, _, rfl, ?_⟩
    rw [decide_eq_true (by omega)]
    refine iteT ⟨_, rfl, _, rfl, by rw [tx_len]; exact sz (by omega), _, rfl, _, _, rfl, rfl, _, rfl, _, _, rfl, rfl, ?_⟩
    show Q (.bl (decide (((tx t.l).length : Int) + (t.k : Int) ≤ (p.room : Int)))) H4
    rw [tx_len, decide_eq_true (by omega)]
    exact q _ (s1.trans (s2.trans (s3.trans s4)))
theorem ok_check_triple (D : Dn K mg "check_triple" s_check_triple P_check_triple) (g : Gx mg) (c_is_triple : C8.Cal P w K mg base 2 "is_triple" spIsTriple []) : C8.Cal P w K mg base 3 "check_triple" spChTriple [] := by
  refine D.cal sc_check_triple (fun vs H Q E h => ?_) (fun f cdv A outer s H vs Q E hr h => ?_)
  · obtain ⟨v, p, u, t, rfl, hp, ok, ht, tok, q⟩ := h
    rfl
  obtain ⟨v, p, u, t, rfl, hp, ok, ht, tok, q⟩ := h
  have nd := sc_check_triple.nd
  refine ⟨_, (pss_one (ps_if (pt_not (pt_val (C8.pe_c c_is_triple hr (by decide) rfl (pa_cons (pv 0) (pa_cons (pv 1) pa_nil))))) (pss_one ps_never) pss_nil)), ?_⟩
  refine ⟨_, rfl, _, rfl, v, p, u, t, rfl, hp, ok, ht, tok, fun H1 s1 => ⟨_, rfl, iteF ?_⟩⟩
  exact q H1 s1
theorem ok_without_top (D : Dn K mg "without_top" s_without_top P_without_top) (g : Gx mg) : C8.Cal P w K mg base 1 "without_top" spWithout [] := by
  refine D.cal sc_without_top (fun vs H Q E h => ?_) (fun f cdv A outer s H vs Q E hr h => ?_)
  · obtain ⟨l, n, rfl, hl, q⟩ := h
    rfl
  obtain ⟨l, n, rfl, hl, q⟩ := h
  have nd := sc_without_top.nd
  refine ⟨_, (pss_one (ps_ret (pe_slice sl_str (pv 0) po_none (po_some (pe_callB (call_max2 rfl) rfl g.max b_max (pa_cons (pe_op op_sub (pe_callB call_len_str rfl g.len PySem.boot_len (pa_cons (pv 0) pa_nil)) (pv 1)) (pa_cons pe_int pa_nil))))))), ?_⟩
  have e : (if (0 : Int) > (((tx l).length : Nat) : Int) - (n : Int) then (0 : Int) else (((tx l).length : Nat) : Int) - (n : Int)) = ((l.length - n : Nat) : Int) := by
    rw [tx_len]
    split <;> omega
  refine ⟨_, rfl, _, rfl, _, rfl, by rw [tx_len]; exact sz (by omega), _, rfl, _, _, rfl, rfl, _, _, rfl, ?_⟩
  rw [e]
  refine ⟨_, rfl, _, rfl, by rw [tx_len]; exact sz (by omega), ?_⟩
  rw [cut_to (Nat.sub_le ..)]
  exact q H (Same.refl H)
theorem ok_top_of (D : Dn K mg "top_of" s_top_of P_top_of) (g : Gx mg) : C8.Cal P w K mg base 1 "top_of" spTop [] := by
  refine D.cal sc_top_of (fun vs H Q E h => ?_) (fun f cdv A outer s H vs Q E hr h => ?_)
  · obtain ⟨l, n, rfl, hl, q⟩ := h
    rfl
  obtain ⟨l, n, rfl, hl, q⟩ := h
  have nd := sc_top_of.nd
  refine ⟨_, (pss_one (ps_ret (pe_slice sl_str (pv 0) (po_some (pe_callB (call_max2 rfl) rfl g.max b_max (pa_cons (pe_op op_sub (pe_callB call_len_str rfl g.len PySem.boot_len (pa_cons (pv 0) pa_nil)) (pv 1)) (pa_cons pe_int pa_nil)))) po_none))), ?_⟩
  have e : (if (0 : Int) > (((tx l).length : Nat) : Int) - (n : Int) then (0 : Int) else (((tx l).length : Nat) : Int) - (n : Int)) = ((l.length - n : Nat) : Int) := by
    rw [tx_len]
    split <;> omega
  refine ⟨_, rfl, _, rfl, _, rfl, by rw [tx_len]; exact sz (by omega), _, rfl, _, _, rfl, rfl, _, _, rfl, ?_⟩
  rw [e]
  refine ⟨_, rfl, _, rfl, by rw [tx_len]; exact sz (by omega), ?_⟩
  rw [cut_from (Nat.sub_le ..)]
  exact q H (Same.refl H)
theorem ok_stack_behind (D : Dn K mg "stack_behind" s_stack_behind P_stack_behind) (g : Gx mg) (c_without_top : C8.Cal P w K mg base 1 "without_top" spWithout []) (c_top_of : C8.Cal P w K mg base 1 "top_of" spTop []) : C8.Cal P w K mg base 2 "stack_behind" spBehind [] := by
  refine D.cal sc_stack_behind (fun vs H Q E h => ?_) (fun f cdv A outer s H vs Q E hr h => ?_)
  · obtain ⟨u, t, l, rfl, ⟨a, rfl, ha⟩, hl, ht, q⟩ := h
    rfl
  obtain ⟨u, t, l, rfl, ⟨a, rfl, ha⟩, hl, ht, q⟩ := h
  have nd := sc_stack_behind.nd
  refine ⟨_, (pss_cons (ps_asg (pv 0) (pg_tup (by rfl) (pgs_cons (pg_name (i := 2) nd rfl (.inl rfl)) (pgs_cons (pg_name (i := 3) nd rfl (.inl rfl)) (pgs_cons (pg_name (i := 4) nd rfl (.inl rfl)) pgs_nil)))))
    (pss_one (ps_ret (pe_op op_add_str (C8.pe_c c_top_of hr (by decide) rfl (pa_cons (C8.pe_c c_without_top hr (by decide) rfl (pa_cons (pv 1) (pa_cons (pv 2) pa_nil))) (pa_cons (pv 3) pa_nil))) (pv 4))))), ?_⟩
  refine ⟨_, rfl, a, _, rfl, SqT.of ha, rfl, _, _, rfl, _, _, rfl, _, _, rfl, rfl, ?_⟩
  refine ⟨_, rfl, _, rfl, l, t.g, rfl, by omega, fun H1 s1 => ⟨_, rfl, ct t.g l, t.k, rfl, by rw [len_ct]; omega, fun H2 s2 => ⟨_, rfl, _, _, rfl, rfl, ?_, ?_⟩⟩⟩
  · rw [tx_len, tx_len, len_tp, len_ct]
    exact sz (by omega)
  · rw [tx_app]
    exact q _ (s1.trans s2)
theorem ok_tidied (D : Dn K mg "tidied" s_tidied P_tidied) (g : Gx mg) : C8.Cal P w K mg base 1 "tidied" spTidied [] := by
  refine D.cal sc_tidied (fun vs H Q E h => ?_) (fun f cdv A outer s H vs Q E hr h => ?_)
  · obtain ⟨a, b, l, rfl, q⟩ := h
    rfl
  obtain ⟨a, b, l, rfl, q⟩ := h
  have nd := sc_tidied.nd
  refine ⟨_, (pss_cons (ps_if (pt_cmpR op_eq (pv 1) pe_int (nomark _)) (pss_one (ps_ret (pe_tup (pa_cons pe_int (pa_cons pe_int (pa_cons (pv 2) pa_nil)))))) pss_nil)
    (pss_one (ps_ret (pe_tup (pa_cons (pv 0) (pa_cons (pv 1) (pa_cons (pv 2) pa_nil))))))), ?_⟩
  refine ⟨_, rfl, rfl, _, rfl, ite2 (fun c => ?_) (fun c => ?_)⟩
  · have c' : b = 0 := by
      have c1 := of_decide_eq_true c
      injection c1 with c2
      omega
    refine ⟨_, rfl, by show 3 ≤ sizeLine; decide, fun p hp => ?_⟩
    refine q _ _ (Same.new hp _) ⟨p, rfl, ?_⟩
    unfold tidy
    rw [if_pos c', upd_same]
    rfl
  · have c' : ¬ b = 0 := fun z => by
      subst z
      exact c (decide_eq_true rfl)
    refine ⟨_, rfl, _, rfl, _, rfl, by show 3 ≤ sizeLine; decide, fun p hp => ?_⟩
    refine q _ _ (Same.new hp _) ⟨p, rfl, ?_⟩
    unfold tidy
    rw [if_neg c', upd_same]
theorem ok_untouched (D : Dn K mg "untouched" s_untouched P_untouched) (g : Gx mg) : C8.Cal P w K mg base 1 "untouched" spUnt [] := by
  refine D.cal sc_untouched (fun vs H Q E h => ?_) (fun f cdv A outer s H vs Q E hr h => ?_)
  · obtain ⟨v, p, rfl, ⟨a, b, rfl, ha, hb⟩, q⟩ := h
    rfl
  obtain ⟨v, p, rfl, ⟨a, b, rfl, ha, hb⟩, q⟩ := h
  have nd := sc_untouched.nd
  refine ⟨_, (pss_one (ps_ret (pe_tup (pa_cons pe_int (pa_cons (pe_ix ix_tup (pv 0) pe_int (fun _ _ => rfl)) (pa_cons pe_str pa_nil)))))), ?_⟩
  refine ⟨_, rfl, a, _, 0, _, rfl, rfl, SqT.of ha, rfl, by show 3 ≤ sizeLine; decide, fun e he => ?_⟩
  refine q _ _ (Same.new he _) ⟨e, rfl, ?_⟩
  rw [upd_same]
  exact congrArg (fun z => some (HO.tup [V.int 0, V.int p.room, V.str z])) s_empty
theorem ok_join_triples (D : Dn K mg "join_triples" s_join_triples P_join_triples) (g : Gx mg) (c_without_top : C8.Cal P w K mg base 1 "without_top" spWithout []) (c_top_of : C8.Cal P w K mg base 1 "top_of" spTop []) (c_tidied : C8.Cal P w K mg base 1 "tidied" spTidied []) : C8.Cal P w K mg base 2 "join_triples" spJoin [] := by
  refine D.cal sc_join_triples (fun vs H Q E h => ?_) (fun f cdv A outer s H vs Q E hr h => ?_)
  · obtain ⟨_, _, t, u, rfl, ⟨a, rfl, ha⟩, ⟨b, rfl, hb⟩, ht, hu, q⟩ := h
    rfl
  obtain ⟨_, _, t, u, rfl, ⟨a, rfl, ha⟩, ⟨b, rfl, hb⟩, ht, hu, q⟩ := h
  have nd := sc_join_triples.nd
  refine ⟨_, (pss_cons (ps_asg (pv 0) (pg_tup (by rfl) (pgs_cons (pg_name (i := 2) nd rfl (.inl rfl)) (pgs_cons (pg_name (i := 3) nd rfl (.inl rfl)) (pgs_cons (pg_name (i := 4) nd rfl (.inl rfl)) pgs_nil)))))
    (pss_cons (ps_asg (pv 1) (pg_tup (by rfl) (pgs_cons (pg_name (i := 5) nd rfl (.inl rfl)) (pgs_cons (pg_name (i := 6) nd rfl (.inl rfl)) (pgs_cons (pg_name (i := 7) nd rfl (.inl rfl)) pgs_nil)))))
    (pss_cons (ps_set (i := 8) nd rfl (.inl rfl) (pe_callB (call_max2 rfl) rfl g.max b_max (pa_cons (pe_op op_sub (pv 5) (pe_callB call_len_str rfl g.len PySem.boot_len (pa_cons (pv 4) pa_nil))) (pa_cons pe_int pa_nil))))
    (pss_cons (ps_set (i := 9) nd rfl (.inl rfl) (C8.pe_c c_without_top hr (by decide) rfl (pa_cons (pv 4) (pa_cons (pv 5) pa_nil))))
    (pss_cons (ps_set (i := 10) nd rfl (.inl rfl) (pe_callB (call_max2 rfl) rfl g.max b_max (pa_cons (pe_callB (call_min2 rfl) rfl g.min b_min (pa_cons (pe_op op_sub (pv 3) (pv 8)) (pa_cons (pe_op op_sub (pv 6) (pe_callB call_len_str rfl g.len PySem.boot_len (pa_cons (pv 9) pa_nil))) pa_nil))) (pa_cons pe_int pa_nil))))
    (pss_one (ps_ret (C8.pe_c c_tidied hr (by decide) rfl (pa_cons (pe_op op_add (pv 2) (pv 8)) (pa_cons (pv 10) (pa_cons (pe_op op_add_str (C8.pe_c c_top_of hr (by decide) rfl (pa_cons (pv 9) (pa_cons (pv 6) pa_nil))) (pv 7)) pa_nil))))))))))), ?_⟩
  refine ⟨_, rfl, a, _, rfl, SqT.of ha, rfl, _, _, rfl, _, _, rfl, _, _, rfl, rfl, ?_⟩
  refine ⟨_, rfl, b, _, rfl, SqT.of hb, rfl, _, _, rfl, _, _, rfl, _, _, rfl, rfl, ?_⟩
  have e1 : (if (0 : Int) > (u.g : Int) - (((tx t.l).length : Nat) : Int) then (0 : Int) else (u.g : Int) - (((tx t.l).length : Nat) : Int)) = ((u.g - t.l.length : Nat) : Int) := by
    rw [tx_len]
    split <;> omega
  refine ⟨_, rfl, _, rfl, _, rfl, by rw [tx_len]; exact sz (by omega), _, _, rfl, rfl, _, _, rfl, ?_⟩
  rw [e1]
  refine ⟨_, rfl, _, rfl, t.l, u.g, rfl, by omega, fun H1 s1 => ?_⟩
  have e2 : (if (0 : Int) > (if (u.k : Int) - (((tx (ct u.g t.l)).length : Nat) : Int) < (t.k : Int) - ((u.g - t.l.length : Nat) : Int) then (u.k : Int) - (((tx (ct u.g t.l)).length : Nat) : Int) else (t.k : Int) - ((u.g - t.l.length : Nat) : Int)) then (0 : Int)
      else (if (u.k : Int) - (((tx (ct u.g t.l)).length : Nat) : Int) < (t.k : Int) - ((u.g - t.l.length : Nat) : Int) then (u.k : Int) - (((tx (ct u.g t.l)).length : Nat) : Int) else (t.k : Int) - ((u.g - t.l.length : Nat) : Int)))
      = ((min (t.k - (u.g - t.l.length)) (u.k - (ct u.g t.l).length) : Nat) : Int) := by
    rw [tx_len]
    split <;> split <;> omega
  have hc := len_ct u.g t.l
  refine ⟨_, rfl, _, rfl, _, _, rfl, rfl, _, rfl, _, rfl, _, rfl, by rw [tx_len]; exact sz (by omega), _, _, rfl, rfl, _, _, rfl, _, _, rfl, ?_⟩
  rw [e2]
  refine ⟨_, rfl, _, rfl, _, _, rfl, rfl, _, rfl, _, rfl, _, rfl, ct u.g t.l, u.k, rfl, by omega, fun H2 s2 => ⟨_, rfl, _, _, rfl, rfl, ?_, ?_⟩⟩
  · rw [tx_len, tx_len, len_tp]
    exact sz (by omega)
  rw [tx_app]
  exact ⟨t.g + (u.g - t.l.length), _, _, rfl, fun H3 v s3 hv => q H3 v (s1.trans (s2.trans s3)) hv⟩
theorem ok_triple_of_step (D : Dn K mg "triple_of_step" s_triple_of_step P_triple_of_step) (g : Gx mg) (c_tidied : C8.Cal P w K mg base 1 "tidied" spTidied []) : C8.Cal P w K mg base 2 "triple_of_step" spTStep [] := by
  refine D.cal sc_triple_of_step (fun vs H Q E h => ?_) (fun f cdv A outer s H vs Q E hr h => ?_)
  · obtain ⟨v, p, c, rfl, ⟨a, b, rfl, ha, hb⟩, ok, q⟩ := h
    rfl
  obtain ⟨v, p, c, rfl, ⟨a, b, rfl, ha, hb⟩, ok, q⟩ := h
  have nd := sc_triple_of_step.nd
  refine ⟨_, (pss_cons (ps_if (pt_cmpR op_eq (pv 1) (C8.pe_gc rfl g.POP_STEP) (nomark _)) (pss_one (ps_ret (C8.pe_c c_tidied hr (by decide) rfl (pa_cons pe_int (pa_cons (pe_op op_sub (pe_ix ix_tup (pv 0) pe_int (fun _ _ => rfl)) pe_int) (pa_cons pe_str pa_nil)))))) pss_nil)
    (pss_one (ps_ret (pe_tup (pa_cons pe_int (pa_cons (pe_op op_sub (pe_ix ix_tup (pv 0) pe_int (fun _ _ => rfl)) pe_int) (pa_cons (pv 1) pa_nil))))))), ?_⟩
  have hr1 := ok.r1
  have e : (p.room : Int) - 1 = ((p.room - 1 : Nat) : Int) := by omega
  refine ⟨_, rfl, rfl, _, rfl, ite2 (fun z => ?_) (fun z => ?_)⟩
  · have z' : c = 45 := by
      have z1 := of_decide_eq_true z
      injection z1 with z2
      have z3 := str_inj.mp z2
      exact List.head_eq_of_cons_eq z3
    refine ⟨_, rfl, a, _, 0, _, rfl, rfl, SqT.of ha, rfl, _, _, rfl, rfl, ?_⟩
    refine ⟨1, p.room - 1, [], (by show [V.int 1, V.int ((p.room : Int) - 1), V.str ""] = _; rw [e, s_empty]; rfl), fun H1 v s1 hv => q H1 v s1 ?_⟩
    unfold tstep
    rw [if_pos z']
    exact hv
  · have z' : ¬ c = 45 := fun y => by
      subst y
      exact z (decide_eq_true rfl)
    refine ⟨_, rfl, a, _, 0, _, rfl, rfl, SqT.of ha, rfl, _, _, rfl, rfl, _, rfl, by show 3 ≤ sizeLine; decide, fun x hx => ?_⟩
    refine q _ _ (Same.new hx _) ⟨x, rfl, ?_⟩
    unfold tstep
    rw [if_neg z', upd_same]
    exact congrArg (fun z => some (HO.tup [V.int 0, V.int z, V.str (tx [c])])) e
theorem ok_triple_of_steps (D : Dn K mg "triple_of_steps" s_triple_of_steps P_triple_of_steps) (g : Gx mg) (c_untouched : C8.Cal P w K mg base 1 "untouched" spUnt []) (c_triple_of_step : C8.Cal P w K mg base 2 "triple_of_step" spTStep []) (c_join_triples : C8.Cal P w K mg base 2 "join_triples" spJoin []) : C8.Cal P w K mg base 3 "triple_of_steps" spTSteps [] := by
  refine D.cal sc_triple_of_steps (fun vs H Q E h => ?_) (fun f cdv A outer s H vs Q E hr h => ?_)
  · obtain ⟨v, p, l, rfl, ⟨a, b, rfl, ha, hb⟩, ok, hs, q⟩ := h
    rfl
  obtain ⟨v, p, l, rfl, ⟨a, b, rfl, ha, hb⟩, ok, hs, q⟩ := h
  have nd := sc_triple_of_steps.nd
  refine ⟨_, (pss_cons (ps_set (i := 2) nd rfl (.inl rfl) (C8.pe_c c_untouched hr (by decide) rfl (pa_cons (pv 0) pa_nil)))
    (pss_cons (ps_for PassesOwn.never rfl (pi_str (pv 1)) (pg_name (i := 3) nd rfl (.inl rfl)) (pss_one (ps_set (i := 2) nd rfl (.inl rfl) (C8.pe_c c_join_triples hr (by decide) rfl (pa_cons (pv 2) (pa_cons (C8.pe_c c_triple_of_step hr (by decide) rfl (pa_cons (pv 0) (pa_cons (pv 3) pa_nil))) pa_nil))))))
    (pss_one (ps_ret (pv 2))))), ?_⟩
  have hr1 := ok.r1
  have hr9 := ok.r9
  have hn : (tx l).cps.size = l.length := tx_len l
  refine ⟨_, rfl, _, p, rfl, ⟨a, b, rfl, ha, hb⟩, fun H1 v1 s1 hv1 => ?_⟩
  refine ⟨_, rfl, _, rfl, for_it (walk_str (z := tx l)) (fun i σ H2 => ∃ (v2 : V) (o : Option V), σ = [some (.ref a), some (.str (tx l)), some v2, o] ∧ Same H H2 ∧ TripAt H2 v2 ((l.take i).foldl (fun t c => tjoin t (tstep p.room c)) (tunt p.room)))
    ⟨v1, none, rfl, s1, hv1⟩ (fun _ _ _ _ _ => trivial) ?_ ?_⟩
  · rintro i x σ H2 H3 hi ⟨v2, o, rfl, s2, hv2⟩ ⟨rfl, c, hc, rfl⟩
    have hc' : l[i]? = some c := by
      rw [← hc]
      simp [tx]
    have hcm : c ∈ l := List.mem_of_getElem? hc'
    have ok1 := ttold_ok (room := p.room) (many := p.many) hr1 (l.take i) (tunt p.room) tunt_ok (fun d hd => hs d (List.mem_of_mem_take hd))
    have ok2 := tstep_ok (room := p.room) (many := p.many) (c := c) hr1 (hs c hcm)
    have k1 := ok1.kl
    have k2 := ok2.kl
    refine ⟨_, rfl, _, rfl, _, rfl, _, p, c, rfl, ⟨a, b, rfl, s2 _ _ ha, PrAt.mono hb s2⟩, ok, fun H4 v4 s4 hv4 => ?_⟩
    refine ⟨_, _, _, _, rfl, hv2.mono s4, hv4, by omega, by omega, fun H5 v5 s5 hv5 => ?_⟩
    refine ⟨v5, _, rfl, s2.trans (s4.trans s5), ?_⟩
    rw [List.take_add_one, hc', List.foldl_append]
    exact hv5
  · rintro σ H2 ⟨v2, o, rfl, s2, hv2⟩
    rw [hn, List.take_of_length_le (Nat.le_refl _)] at hv2
    exact ⟨_, rfl, q H2 v2 s2 hv2⟩
theorem ok_told_of_steps (D : Dn K mg "told_of_steps" s_told_of_steps P_told_of_steps) (g : Gx mg) (c_check_plan : C8.Cal P w K mg base 3 "check_plan" spChPlan []) (c_check_steps : C8.Cal P w K mg base 2 "check_steps" spChSteps []) (c_triple_of_steps : C8.Cal P w K mg base 3 "triple_of_steps" spTSteps []) : C8.Cal P w K mg base 4 "told_of_steps" spToldSteps [] := by
  refine D.cal sc_told_of_steps (fun vs H Q E h => ?_) (fun f cdv A outer s H vs Q E hr h => ?_)
  · obtain ⟨v, p, l, rfl, hp, ok, hl, hs, q⟩ := h
    rfl
  obtain ⟨v, p, l, rfl, hp, ok, hl, hs, q⟩ := h
  have nd := sc_told_of_steps.nd
  refine ⟨_, (pss_cons (ps_expr (C8.pe_c c_check_plan hr (by decide) rfl (pa_cons (pv 0) pa_nil)))
    (pss_cons (ps_expr (C8.pe_c c_check_steps hr (by decide) rfl (pa_cons (pv 0) (pa_cons (pv 1) pa_nil))))
    (pss_one (ps_ret (C8.pe_c c_triple_of_steps hr (by decide) rfl (pa_cons (pv 0) (pa_cons (pv 1) pa_nil))))))), ?_⟩
  refine ⟨_, rfl, v, p, rfl, hp, ok, fun H1 s1 => ?_⟩
  refine ⟨_, rfl, _, rfl, v, p, l, rfl, hp.mono s1, ok, hl, hs, fun H2 s2 => ?_⟩
  exact ⟨_, rfl, _, rfl, v, p, l, rfl, hp.mono (s1.trans s2), ok, hs, fun H3 v3 s3 h3 => q H3 v3 (s1.trans (s2.trans s3)) h3⟩
theorem ok_done (D : Dn K mg "done" s_done P_done) (g : Gx mg) (c_check_plan : C8.Cal P w K mg base 3 "check_plan" spChPlan []) (c_check_triple : C8.Cal P w K mg base 3 "check_triple" spChTriple []) (c_check_stack : C8.Cal P w K mg base 3 "check_stack" spChStack []) (c_stack_behind : C8.Cal P w K mg base 2 "stack_behind" spBehind []) : C8.Cal P w K mg base 4 "done" spDone [] := by
  refine D.cal sc_done (fun vs H Q E h => ?_) (fun f cdv A outer s H vs Q E hr h => ?_)
  · obtain ⟨v, p, u, t, l, rfl, hp, ok, ht, tok, hl, hs, q⟩ := h
    rfl
  obtain ⟨v, p, u, t, l, rfl, hp, ok, ht, tok, hl, hs, q⟩ := h
  have nd := sc_done.nd
  refine ⟨_, (pss_cons (ps_expr (C8.pe_c c_check_plan hr (by decide) rfl (pa_cons (pv 0) pa_nil)))
    (pss_cons (ps_expr (C8.pe_c c_check_triple hr (by decide) rfl (pa_cons (pv 0) (pa_cons (pv 1) pa_nil))))
    (pss_cons (ps_expr (C8.pe_c c_check_stack hr (by decide) rfl (pa_cons (pv 0) (pa_cons (pv 2) pa_nil))))
    (pss_one (ps_ret (C8.pe_c c_stack_behind hr (by decide) rfl (pa_cons (pv 1) (pa_cons (pv 2) pa_nil)))))))), ?_⟩
  have hr9 := ok.r9
  have hk := tok.kl
  refine ⟨_, rfl, v, p, rfl, hp, ok, fun H1 s1 => ?_⟩
  refine ⟨_, rfl, _, rfl, v, p, u, t, rfl, hp.mono s1, ok, ht.mono s1, tok, fun H2 s2 => ?_⟩
  refine ⟨_, rfl, _, rfl, v, p, l, rfl, hp.mono (s1.trans s2), ok, hl, hs, fun H3 s3 => ?_⟩
  refine ⟨_, rfl, _, rfl, u, t, l, rfl, ht.mono (s1.trans (s2.trans s3)), by omega, by omega, fun H4 s4 => ?_⟩
  exact q H4 (s1.trans (s2.trans (s3.trans s4)))
theorem ok_law_take (D : Dn K mg "_law_take" s_law_take P_law_take) (g : Gx mg) : C8.Cal P w K mg base 1 "_law_take" spTake [] := by
  refine D.cal sc_law_take (fun vs H Q E h => ?_) (fun f cdv A outer s H vs Q E hr h => ?_)
  · obtain ⟨p, q, ns, z, n, rfl, B, h0, h9, kk⟩ := h
    rfl
  obtain ⟨p, q, ns, z, n, rfl, B, h0, h9, kk⟩ := h
  have nd := sc_law_take.nd
  refine ⟨_, (pss_cons (ps_if (pt_cmpR (op_eqD hr.units) (pe_ix ix_list (pv 0) pe_int (fun _ _ => rfl)) (pe_lst pa_nil) (nomark _)) (pss_cons (ps_asg (pe_op op_modN (pe_op op_mul (pe_ix ix_list (pv 0) pe_int (fun _ _ => rfl)) pe_int) pe_int) (pg_sub (pv 0) pe_int set_list))
    (pss_one (ps_ret (pe_op op_modN (pe_op op_fdivN (pe_ix ix_list (pv 0) pe_int (fun _ _ => rfl)) pe_int) (pv 1))))) pss_nil)
    (pss_cons (ps_set (i := 2) nd rfl (.inl rfl) (pe_ix ix_list (pe_ix ix_list (pv 0) pe_int (fun _ _ => rfl)) pe_int (fun _ _ => rfl)))
    (pss_cons (ps_asg (pe_op op_fdivW (pv 2) (pv 1)) (pg_sub (pe_ix ix_list (pv 0) pe_int (fun _ _ => rfl)) pe_int set_list))
    (pss_cons (ps_if (PW.pt (pw_or (pt_cmpR op_eq (pe_ix ix_list (pe_ix ix_list (pv 0) pe_int (fun _ _ => rfl)) pe_int (fun _ _ => rfl)) pe_int (nomark _)) (pw_or1 (pt_cmpR op_eq (pe_ix ix_list (pe_ix ix_list (pv 0) pe_int (fun _ _ => rfl)) pe_int (fun _ _ => rfl)) (pe_un un_neg pe_int) (nomark _))))) (pss_one (ps_expr (pe_bm PySem.F.plainAttrs_list PySem.F.slot_list_pop PySem.F.type_list_pop mt_popAt (pe_ix ix_list (pv 0) pe_int (fun _ _ => rfl)) (pa_cons pe_int pa_nil)))) pss_nil)
    (pss_one (ps_ret (pe_op op_modN (pv 2) (pv 1)))))))), ?_⟩
  refine ⟨_, rfl, p, _, 0, _, rfl, rfl, SqL.of B.b, rfl, by show 0 ≤ sizeLine; decide, fun D hD => ?_⟩
  have s1 : Same H (upd H D (.lst [])) := Same.new hD _
  have B1 := B.mono s1
  refine ⟨.list (ns.map PyData.int), .list [], .lst (SqL.of B1.l) (dpAll ns), .lst (SqL.of upd_same) .nil, shp ns, shp [], _, rfl, ?_⟩
  cases ns with
  | nil =>
    refine iteT ?_
    refine ⟨_, rfl, p, _, 1, _, rfl, rfl, SqL.of B1.b, rfl, _, _, rfl, rfl, .inr ⟨by decide, by decide⟩, _, _, rfl, rfl, by show ((2147483647 : Int) ≠ 0); decide, ?_⟩
    refine ⟨_, rfl, p, _, 1, 1, rfl, rfl, B1.b, rfl, ?_⟩
    refine ⟨_, rfl, p, _, 1, _, rfl, rfl, SqL.of upd_same, rfl, _, _, rfl, rfl, ⟨by decide, by decide⟩, _, rfl, _, _, rfl, rfl, by show n ≠ 0; omega, ?_⟩
    obtain ⟨f1, f2⟩ := fmod_in (x := ((z * 48271).fmod 2147483647).fdiv 7) h0
    refine kk _ [] ((z * 48271).fmod 2147483647) _ f1 f2 ⟨upd_same, by rw [upd_ne B.ne.symm]; exact B1.l, B.ne⟩ fun b o e e1 e2 => ?_
    rw [upd_ne e1]
    exact s1 _ _ e
  | cons x r =>
    refine iteF ?_
    refine ⟨_, rfl, p, _, 0, _, rfl, rfl, SqL.of B1.b, rfl, q, _, 0, _, rfl, rfl, SqL.of B1.l, at0, ?_⟩
    refine ⟨_, rfl, _, rfl, _, _, rfl, rfl, divW h0 h9, ?_⟩
    refine ⟨_, rfl, p, _, 0, _, rfl, rfl, SqL.of B1.b, rfl, q, _, 0, 0, rfl, rfl, B1.l, ix0, ?_⟩
    have B2 : BoxAt (upd (upd H D (.lst [])) q (.lst (((x / n) :: r).map V.int))) p q ((x / n) :: r) z := ⟨by rw [upd_ne B.ne]; exact B1.b, upd_same, B.ne⟩
    have k2 : Keep p q H (upd (upd H D (.lst [])) q (.lst (((x / n) :: r).map V.int))) := fun b o e e1 e2 => by
      rw [upd_ne e2]
      exact s1 _ _ e
    obtain ⟨f1, f2⟩ := fmod_in (x := x) h0
    have pop : ∀ (T : Prop), (∀ (ns' : List Int) (H' : Hp), BoxAt H' p q ns' z → Keep p q H H' → T) → T := fun T h => h _ _ B2 k2
    have fin : ∀ (ns' : List Int) (H' : Hp), BoxAt H' p q ns' z → Keep p q H H' → tRet (tOp (rI (fun _ j => j ≠ 0) fun i j => V.int (i.fmod j)) (tVar 2) (tVar 1)) { nx := fun _ H' => Q V.non H', rt := Q } [some (.ref p), some (.int n), some (.int x)] H' := fun ns' H' b k =>
      ⟨_, rfl, _, rfl, _, _, rfl, rfl, by show n ≠ 0; omega, kk _ ns' z H' f1 f2 b k⟩
    have B3 : BoxAt (upd (upd (upd H D (.lst [])) q (.lst (((x / n) :: r).map V.int))) q (.lst (r.map V.int))) p q r z := ⟨by rw [upd_ne B.ne]; exact B2.b, upd_same, B.ne⟩
    have k3 : Keep p q H (upd (upd (upd H D (.lst [])) q (.lst (((x / n) :: r).map V.int))) q (.lst (r.map V.int))) := fun b o e e1 e2 => by
      rw [upd_ne e2]
      exact k2 _ _ e e1 e2
    refine ⟨_, rfl, p, _, 0, _, rfl, rfl, SqL.of B2.b, rfl, q, _, 0, _, rfl, rfl, SqL.of B2.l, at0, rfl, _, rfl, ite2 (fun c => ?_) (fun c => ?_)⟩
    · refine iteT ?_
      refine ⟨_, rfl, p, _, 0, _, rfl, rfl, SqL.of B2.b, rfl, .inl ⟨rfl, _, SqL.of B2.l⟩, q, _, 0, 0, _, rfl, rfl, B2.l, by decide, by decide, sq0, rfl, ?_⟩
      exact fin r _ B3 k3
    · refine ⟨_, rfl, p, _, 0, _, rfl, rfl, SqL.of B2.b, rfl, q, _, 0, _, rfl, rfl, SqL.of B2.l, at0, _, rfl, rfl, _, rfl, ite2 (fun c2 => ?_) (fun c2 => ?_)⟩
      · refine ⟨_, rfl, p, _, 0, _, rfl, rfl, SqL.of B2.b, rfl, .inl ⟨rfl, _, SqL.of B2.l⟩, q, _, 0, 0, _, rfl, rfl, B2.l, by decide, by decide, sq0, rfl, ?_⟩
        exact fin r _ B3 k3
      · exact fin _ _ B2 k2
theorem ok_law_begun (D : Dn K mg "_law_begun" s_law_begun P_law_begun) (g : Gx mg) : C8.Cal P w K mg base 1 "_law_begun" (spLBegun K) [] := by
  refine D.cal sc_law_begun (fun vs H Q E h => ?_) (fun f cdv A outer s H vs Q E hr h => ?_)
  · obtain ⟨a, ns, rfl, hS, h63, kk⟩ := h
    rfl
  obtain ⟨a, ns, rfl, hS, h63, kk⟩ := h
  have nd := sc_law_begun.nd
  refine ⟨_, (pss_cons (ps_set (i := 1) nd rfl (.inl rfl) pe_int)
    (pss_cons (ps_for PassesOwn.never rfl (pi_list (pv 0)) (pg_name (i := 2) nd rfl (.inl rfl)) (pss_one (ps_set (i := 1) nd rfl (.inl rfl) (pe_op op_modN (pe_op op_add (pe_op op_add (pe_op op_mul (pv 1) pe_int) (pe_op op_mul (pv 2) pe_int)) pe_int) pe_int))))
    (pss_one (ps_ret (pe_lst (pa_cons (pe_callTy call_list_of rfl g.list b_list (pa_cons (pv 0) pa_nil)) (pa_cons (pe_op op_mul (pv 1) (pe_callTy call_int1 rfl g.int b_int (pa_cons (pe_cmpR op_gt (pe_callB call_len_seq rfl g.len PySem.boot_len (pa_cons (pv 0) pa_nil)) pe_int (nomark _)) pa_nil))) pa_nil))))))), ?_⟩
  have hc : ∀ k : Bool, -(2 ^ 64) < (if k = true then (1 : Int) else 0) ∧ (if k = true then (1 : Int) else 0) < 2 ^ 64 := fun k => by
    cases k <;> decide
  refine ⟨_, rfl, a, rfl, ⟨_, hS⟩, for_list (K := K) (a := a) (xs := ns.map V.int) (fun i σ H2 => (∃ (z : Int) (o : Option V), σ = [some (.ref a), some (.int z), o]) ∧ H2 = H)
    ⟨⟨0, none, rfl⟩, rfl⟩ (fun i σ H2 _ h2 => by rw [h2.2]; exact hS) ?_ ?_⟩
  · rintro i x σ H2 hx ⟨⟨z, o, rfl⟩, rfl⟩
    rw [List.getElem?_map] at hx
    obtain ⟨y, hy, rfl⟩ := Option.map_eq_some_iff.mp hx
    refine ⟨_, rfl, _, _, rfl, rfl, .inr ⟨by decide, by decide⟩, _, rfl, _, _, rfl, rfl, .inr ⟨by decide, by decide⟩, _, _, rfl, rfl, _, _, rfl, rfl, _, _, rfl, rfl, by show ((2147483647 : Int) ≠ 0); decide, ?_⟩
    exact ⟨⟨_, _, rfl⟩, rfl⟩
  · rintro σ H2 ⟨⟨z, o, rfl⟩, rfl⟩
    refine ⟨_, rfl, a, _, rfl, .inl hS, fun l hl => ?_⟩
    refine ⟨_, rfl, _, rfl, a, _, rfl, .inl ((Same.new hl _).seq hS), _, _, rfl, rfl, .inr ⟨_, rfl, _, _, rfl, rfl, .inr (hc _), by show 2 ≤ sizeLine; decide, fun D hD => ?_⟩⟩
    have s1 := Same.new hl (.lst (ns.map V.int))
    have hD0 : H2 D = none := s1.free hD
    refine kk D l _ _ (s1.trans (Same.new hD _)) ⟨upd_same, (Same.new hD _) _ _ upd_same, fun e => ?_⟩ hD0 hl
    subst e
    rw [upd_same] at hD
    cases hD
theorem ok_law_step (D : Dn K mg "_law_step" s_law_step P_law_step) (g : Gx mg) : C8.Cal P w K mg base 1 "_law_step" spLStep [] := by
  refine D.cal sc_law_step (fun vs H Q E h => ?_) (fun f cdv A outer s H vs Q E hr h => ?_)
  · obtain ⟨v, p, l, c, rfl, ⟨a, b, rfl, ha, hb⟩, ok, hl, q⟩ := h
    rfl
  obtain ⟨v, p, l, c, rfl, ⟨a, b, rfl, ha, hb⟩, ok, hl, q⟩ := h
  have nd := sc_law_step.nd
  refine ⟨_, (pss_cons (ps_if (pt_cmpR op_eq (pv 2) pe_str (nomark _)) (pss_one (ps_ret (pe_slice sl_str (pv 1) po_none (po_some (pe_un un_neg pe_int))))) pss_nil)
    (pss_one (ps_ret (pe_slice sl_str (pe_op op_add_str (pv 1) (pv 2)) (po_some (pe_un un_neg (pe_ix ix_tup (pv 0) pe_int (fun _ _ => rfl)))) po_none)))), ?_⟩
  have h1 := ok.r1
  have h9 := ok.r9
  refine ⟨_, rfl, rfl, _, rfl, ite2 (fun z => ?_) (fun z => ?_)⟩
  · have z' : c = 45 := by
      have z1 := of_decide_eq_true z
      injection z1 with z2
      exact List.head_eq_of_cons_eq (str_inj.mp (z2.trans s_minus))
    refine ⟨_, rfl, _, rfl, _, rfl, _, rfl, by rw [tx_len]; exact sz (by omega), ?_⟩
    have e : cutS (tx l) none (some (-1)) = tx (step p.room l c) := by
      unfold step
      rw [if_pos z']
      exact cut_but (l := l) (n := 1) (by omega)
    have q1 := q H (Same.refl H)
    rw [← e] at q1
    exact q1
  · have z' : ¬ c = 45 := fun y => by
      subst y
      exact z (decide_eq_true (congrArg V.str s_minus.symm))
    refine ⟨_, rfl, _, rfl, _, _, rfl, rfl, by rw [tx_len, tx_len]; exact sz (by simp; omega), ?_⟩
    rw [tx_app]
    refine ⟨_, rfl, a, _, 0, _, rfl, rfl, SqT.of ha, rfl, _, rfl, _, rfl, _, rfl, by rw [tx_len]; exact sz (by simp; omega), ?_⟩
    have e : cutS (tx (l ++ [c])) (some (-(p.room : Int))) none = tx (step p.room l c) := by
      unfold step
      rw [if_neg z']
      exact cut_back (l := l ++ [c]) (n := p.room) (by omega)
    have q1 := q H (Same.refl H)
    rw [← e] at q1
    exact q1
theorem ok_law_gone (D : Dn K mg "_law_gone" s_law_gone P_law_gone) (g : Gx mg) (c_law_step : C8.Cal P w K mg base 1 "_law_step" spLStep []) : C8.Cal P w K mg base 2 "_law_gone" spLGone [] := by
  refine D.cal sc_law_gone (fun vs H Q E h => ?_) (fun f cdv A outer s H vs Q E hr h => ?_)
  · obtain ⟨v, p, l, st, rfl, ⟨a, b, rfl, ha, hb⟩, ok, hl, q⟩ := h
    rfl
  obtain ⟨v, p, l, st, rfl, ⟨a, b, rfl, ha, hb⟩, ok, hl, q⟩ := h
  have nd := sc_law_gone.nd
  refine ⟨_, (pss_cons (ps_for PassesOwn.never rfl (pi_str (pv 2)) (pg_name (i := 3) nd rfl (.inl rfl)) (pss_one (ps_set (i := 1) nd rfl (.inl rfl) (C8.pe_c c_law_step hr (by decide) rfl (pa_cons (pv 0) (pa_cons (pv 1) (pa_cons (pv 3) pa_nil)))))))
    (pss_one (ps_ret (pv 1)))), ?_⟩
  have h9 := ok.r9
  have hn : (tx st).cps.size = st.length := tx_len st
  refine ⟨_, rfl, _, rfl, for_it (walk_str (z := tx st)) (fun i σ H2 => ∃ (o : Option V), σ = [some (.ref a), some (.str (tx (gone p.room l (st.take i)))), some (.str (tx st)), o] ∧ Same H H2)
    ⟨none, rfl, Same.refl H⟩ (fun _ _ _ _ _ => trivial) ?_ ?_⟩
  · rintro i x σ H2 H3 hi ⟨o, rfl, s2⟩ ⟨rfl, c, hc, rfl⟩
    have hc' : st[i]? = some c := by
      rw [← hc]
      simp [tx]
    have hlen := gone_len (room := p.room) (st.take i) l hl
    refine ⟨_, rfl, _, rfl, _, rfl, _, p, gone p.room l (st.take i), c, rfl, ⟨a, b, rfl, s2 _ _ ha, PrAt.mono hb s2⟩, ok, by omega, fun H4 s4 => ?_⟩
    refine ⟨some (.str ⟨#[c]⟩), ?_, s2.trans s4⟩
    have e : gone p.room l (st.take (i + 1)) = step p.room (gone p.room l (st.take i)) c := by
      unfold gone
      rw [List.take_add_one, hc', List.foldl_append]
      rfl
    rw [e]
    rfl
  · rintro σ H2 ⟨o, rfl, s2⟩
    rw [hn, List.take_of_length_le (Nat.le_refl _)]
    exact ⟨_, rfl, q H2 s2⟩
theorem ok_law_by (D : Dn K mg "_law_by" s_law_by P_law_by) (g : Gx mg) : C8.Cal P w K mg base 1 "_law_by" spLBy [] := by
  refine D.cal sc_law_by (fun vs H Q E h => ?_) (fun f cdv A outer s H vs Q E hr h => ?_)
  · obtain ⟨u, t, l, rfl, ⟨a, rfl, ha⟩, hl, ht, q⟩ := h
    rfl
  obtain ⟨u, t, l, rfl, ⟨a, rfl, ha⟩, hl, ht, q⟩ := h
  have nd := sc_law_by.nd
  refine ⟨_, (pss_cons (ps_asg (pv 0) (pg_tup (by rfl) (pgs_cons (pg_name (i := 2) nd rfl (.inl rfl)) (pgs_cons (pg_name (i := 3) nd rfl (.inl rfl)) (pgs_cons (pg_name (i := 4) nd rfl (.inl rfl)) pgs_nil)))))
    (pss_cons (ps_set (i := 5) nd rfl (.inl rfl) (pe_slice sl_str (pv 1) po_none (po_some (pe_callB (call_max2 rfl) rfl g.max b_max (pa_cons pe_int (pa_cons (pe_op op_sub (pe_callB call_len_str rfl g.len PySem.boot_len (pa_cons (pv 1) pa_nil)) (pv 2)) pa_nil))))))
    (pss_one (ps_ret (pe_op op_add_str (pe_slice sl_str (pv 5) (po_some (pe_callB (call_max2 rfl) rfl g.max b_max (pa_cons pe_int (pa_cons (pe_op op_sub (pe_callB call_len_str rfl g.len PySem.boot_len (pa_cons (pv 5) pa_nil)) (pv 3)) pa_nil)))) po_none) (pv 4)))))), ?_⟩
  refine ⟨_, rfl, a, _, rfl, SqT.of ha, rfl, _, _, rfl, _, _, rfl, _, _, rfl, rfl, ?_⟩
  have e : ∀ (m : Nat) (x : List Nat), (if (((tx x).length : Nat) : Int) - (m : Int) > 0 then (((tx x).length : Nat) : Int) - (m : Int) else 0) = ((x.length - m : Nat) : Int) := fun m x => by
    rw [tx_len]
    split <;> omega
  refine ⟨_, rfl, _, rfl, _, rfl, by rw [tx_len]; exact sz (by omega), _, rfl, _, _, rfl, rfl, _, _, rfl, ?_⟩
  rw [e]
  refine ⟨_, rfl, _, rfl, by rw [tx_len]; exact sz (by omega), ?_⟩
  rw [cut_to (Nat.sub_le ..)]
  have hc := len_ct t.g l
  have e2 : l.take (l.length - t.g) = ct t.g l := rfl
  rw [e2]
  refine ⟨_, rfl, _, rfl, _, rfl, by rw [tx_len]; exact sz (by omega), _, rfl, _, _, rfl, rfl, _, _, rfl, ?_⟩
  rw [e]
  refine ⟨_, rfl, _, rfl, by rw [tx_len]; exact sz (by omega), ?_⟩
  rw [cut_from (Nat.sub_le ..)]
  have e3 : (ct t.g l).drop ((ct t.g l).length - t.k) = tp t.k (ct t.g l) := rfl
  rw [e3]
  have hp := len_tp t.k (ct t.g l)
  refine ⟨_, rfl, _, _, rfl, rfl, by rw [tx_len, tx_len]; exact sz (by omega), ?_⟩
  rw [tx_app]
  exact q H (Same.refl H)
/-- [a, b][take(box, 2)] -/
theorem pick2 {K : PySem.W.Frag} {i : Nat} {σ : L2.St} {H : Hp} {Q : VK} {p q : Addr} {ns : List Int} {z : Int} {x y : V} {t1 t2 : TE} (hσ : σ[i]? = some (some (.ref p))) (B : BoxAt H p q ns z)
    (h1 : ∀ H Q, Q x H → t1 σ H Q) (h2 : ∀ H Q, Q y H → t2 σ H Q)
    (h : ∀ (v : V) (ns' : List Int) (z' : Int) (H' : Hp), (v = x ∨ v = y) → BoxAt H' p q ns' z' → Keep p q H H' → Q v H') :
    tOp (rIxL K) (tLst (tCons t1 (tCons t2 tNil))) (tCall spTake [] C8.E0 (tCons (tVar i) (tCons (tC (.int 2)) tNil))) σ H Q := by
  refine h1 _ _ (h2 _ _ ⟨by show 2 ≤ sizeLine; decide, fun D hD => ?_⟩)
  have s1 : Same H (upd H D (.lst [x, y])) := Same.new hD _
  refine ⟨_, hσ, p, q, ns, z, 2, rfl, B.mono s1, by decide, p9 (by decide), fun r ns' z' H' r0 r1 B' k' => ?_⟩
  have k2 : Keep p q H H' := (Keep.of s1).trans k'
  have hf := B.fresh hD
  have hL : H' D = some (.lst [x, y]) := k' _ _ upd_same hf.1 hf.2
  have hr : r = 0 ∨ r = 1 := by omega
  rcases hr with rfl | rfl
  · exact ⟨D, _, 0, x, rfl, rfl, SqL.of hL, rfl, h _ _ _ _ (.inl rfl) B' k2⟩
  · exact ⟨D, _, 1, y, rfl, rfl, SqL.of hL, rfl, h _ _ _ _ (.inr rfl) B' k2⟩
theorem tC_q {v : V} {σ : L2.St} : ∀ (H : Hp) (Q : VK), Q v H → tC v σ H Q := fun _ _ h => h
theorem ok_law_plan (D : Dn K mg "_law_plan" s_law_plan P_law_plan) (g : Gx mg) (c_law_take : C8.Cal P w K mg base 1 "_law_take" spTake []) : C8.Cal P w K mg base 2 "_law_plan" spLPlan [] := by
  refine D.cal sc_law_plan (fun vs H Q E h => ?_) (fun f cdv A outer s H vs Q E hr h => ?_)
  · obtain ⟨p, q, ns, z, r, s0, rfl, B, r1, r9, s1, s4, kk⟩ := h
    rfl
  obtain ⟨p, q, ns, z, r, s0, rfl, B, r1, r9, s1, s4, kk⟩ := h
  have nd := sc_law_plan.nd
  refine ⟨_, (pss_cons (ps_set (i := 3) nd rfl (.inl rfl) (pe_op op_add pe_int (C8.pe_c c_law_take hr (by decide) rfl (pa_cons (pv 0) (pa_cons (pv 2) pa_nil)))))
    (pss_cons (ps_set (i := 4) nd rfl (.inl rfl) (pe_callTy call_tupleF rfl g.tuple b_tuple (pa_cons (pe_lc (own := [("_law_k", 5)]) rfl nd (pi_range1 (by rfl) g.range (pa_cons (pv 3) pa_nil)) (blkOk_by (own := [("_law_k", 5)]) (N := N_law_plan) (sc := defScope s_law_plan) (by decide +kernel)) (fun _ _ _ _ _ => (pg_name (i := 5) nd rfl (.inl rfl))) (fun _ _ _ _ _ => pts_nil) (fun _ _ _ _ _ => (pe_op op_add pe_int (C8.pe_c c_law_take (by exact hr) (by decide) rfl (pa_cons (pv 0) (pa_cons (pe_ix (r := rIxL K) ix_list (pe_lst (pa_cons pe_int (pa_cons pe_int pa_nil))) (C8.pe_c c_law_take (by exact hr) (by decide) rfl (pa_cons (pv 0) (pa_cons pe_int pa_nil))) (fun _ _ => rfl)) pa_nil)))))) pa_nil)))
    (pss_one (ps_ret (pe_tup (pa_cons (pe_op op_add pe_int (C8.pe_c c_law_take hr (by decide) rfl (pa_cons (pv 0) (pa_cons (pv 1) pa_nil)))) (pa_cons (pv 3) (pa_cons (pv 4) (pa_cons (pe_op op_add pe_int (C8.pe_c c_law_take hr (by decide) rfl (pa_cons (pv 0) (pa_cons (pe_ix ix_list (pe_lst (pa_cons pe_int (pa_cons pe_int pa_nil))) (C8.pe_c c_law_take hr (by decide) rfl (pa_cons (pv 0) (pa_cons pe_int pa_nil))) (fun _ _ => rfl)) pa_nil)))) pa_nil))))))))), ?_⟩
  refine ⟨_, rfl, _, rfl, p, q, ns, z, s0, rfl, B, by omega, p9 (by omega), fun m ns1 z1 H1 m0 m1 B1 k1 => ⟨_, _, rfl, rfl, ?_⟩⟩
  -- the prices
  obtain ⟨M, rfl⟩ : ∃ M : Nat, m = (M : Int) := ⟨m.toNat, by omega⟩
  refine ⟨_, rfl, ?_⟩
  refine ⟨1 + (M : Int), rfl, by omega, by omega, fun D hD => ?_⟩
  have hf := B1.fresh hD
  have sD := Same.new hD (.lst [])
  refine lc_range (lo := 0) (fun i H2 => ∃ (ps : List Int) (ns2 : List Int) (z2 : Int), BoxAt H2 p q ns2 z2 ∧ Keep p q H1 H2 ∧ H2 D = some (.lst (ps.map V.int)) ∧ ps.length = i ∧ ∀ x ∈ ps, 1 ≤ x ∧ x ≤ 99)
    ⟨[], ns1, z1, B1.mono sD, Keep.of sD, upd_same, rfl, fun x hx => by simp at hx⟩ ?_ ?_
  · rintro i H2 hi ⟨ps, ns2, z2, B2, k2, hD2, hl, hps⟩
    refine ⟨rfl, ?_⟩
    refine ⟨_, rfl, pick2 (x := .int 3) (y := .int 99) rfl B2 tC_q tC_q fun v ns3 z3 H3 hv B3 k3 => ?_⟩
    have hv' : ∃ n : Int, v = .int n ∧ 0 < n ∧ n ≤ 99 := by
      rcases hv with rfl | rfl
      · exact ⟨3, rfl, by decide, by decide⟩
      · exact ⟨99, rfl, by decide, by decide⟩
    obtain ⟨n, rfl, n0, n9⟩ := hv'
    refine ⟨p, q, ns3, z3, n, rfl, B3, n0, p9 (by omega), fun d ns4 z4 H4 d0 d1 B4 k4 => ⟨_, _, rfl, rfl, ?_⟩⟩
    have hD4 : H4 D = some (.lst (ps.map V.int)) := k4 _ _ (k3 _ _ hD2 hf.1 hf.2) hf.1 hf.2
    refine ⟨_, hD4, by rw [List.length_map, hl]; exact szl (by omega), ps ++ [1 + d], ns4, z4, ⟨by rw [upd_ne hf.1.symm]; exact B4.b, by rw [upd_ne hf.2.symm]; exact B4.l, B4.ne⟩, fun b o e e1 e2 => ?_, ?_, by simp [hl], fun x hx => ?_⟩
    · rw [upd_ne (ne_of_none e hD)]
      exact k4 _ _ (k3 _ _ (k2 _ _ e e1 e2) e1 e2) e1 e2
    · rw [upd_same, List.map_append]
      rfl
    · rcases List.mem_append.mp hx with h | h
      · exact hps x h
      · have : x = 1 + d := by simpa using h
        omega
  · rintro H2 ⟨ps, ns2, z2, B2, k2, hD2, hl, hps⟩
    have hl' : ps.length = M + 1 := by omega
    refine ⟨D, _, rfl, SqL.of hD2, fun T obT hobT hT => ?_⟩
    have sT := Same.new hT (.frz obT (.tup (ps.map V.int)))
    have BT := B2.mono sT
    refine ⟨_, rfl, _, rfl, p, q, ns2, z2, r, rfl, BT, by omega, p9 (by omega), fun a ns3 z3 H3 a0 a1 B3 k3 => ⟨_, _, rfl, rfl, ?_⟩⟩
    refine ⟨_, rfl, _, rfl, _, rfl, pick2 (x := .int 3) (y := .int 99) rfl B3 tC_q tC_q fun v ns4 z4 H4 hv B4 k4 => ?_⟩
    have hv' : ∃ n : Int, v = .int n ∧ 0 < n ∧ n ≤ 99 := by
      rcases hv with rfl | rfl
      · exact ⟨3, rfl, by decide, by decide⟩
      · exact ⟨99, rfl, by decide, by decide⟩
    obtain ⟨n, rfl, n0, n9⟩ := hv'
    refine ⟨p, q, ns4, z4, n, rfl, B4, n0, p9 (by omega), fun c ns5 z5 H5 c0 c1 B5 k5 => ⟨_, _, rfl, rfl, ?_⟩⟩
    refine ⟨by show 4 ≤ sizeLine; decide, fun U hU => ?_⟩
    have sU := Same.new hU (.tup [.int (1 + a), .int (1 + (M : Int)), .ref T, .int (1 + c)])
    obtain ⟨A0, rfl⟩ : ∃ A0 : Nat, a = (A0 : Int) := ⟨a.toNat, by omega⟩
    refine kk ⟨A0 + 1, M + 1, ps, 1 + c⟩ _ ns5 z5 _ ⟨by show 1 ≤ A0 + 1; omega, by show A0 + 1 ≤ 9; omega, by show 1 ≤ M + 1; omega, by show M + 1 ≤ 4; omega, hl', hps, by show 1 ≤ 1 + c; omega, by show 1 + c ≤ 99; omega⟩
      (by show A0 + 1 ≤ r; omega) (by show M + 1 ≤ s0; omega) ⟨U, T, rfl, ?_, ?_⟩ (B5.mono sU) ?_
    · rw [upd_same]
      have e1 : (1 : Int) + (A0 : Int) = ((A0 + 1 : Nat) : Int) := by omega
      have e2 : (1 : Int) + (M : Int) = ((M + 1 : Nat) : Int) := by omega
      show some (HO.tup [V.int (1 + (A0 : Int)), V.int (1 + (M : Int)), V.ref T, V.int (1 + c)]) = _
      rw [e1, e2]
    · exact ⟨obT, hobT, sU _ _ ((k5.tups B4).f _ _ _ ((k4.tups B3).f _ _ _ ((k3.tups BT).f _ _ _ upd_same)))⟩
    · refine (k1.trans (k2.trans ((Keep.of sT).trans (k3.trans (k4.trans (k5.trans (Keep.of sU)))))))
theorem ok_law_steps (D : Dn K mg "_law_steps" s_law_steps P_law_steps) (g : Gx mg) (c_law_take : C8.Cal P w K mg base 1 "_law_take" spTake []) : C8.Cal P w K mg base 2 "_law_steps" spLSteps [] := by
  refine D.cal sc_law_steps (fun vs H Q E h => ?_) (fun f cdv A outer s H vs Q E hr h => ?_)
  · obtain ⟨p, q, ns, z, v, pl, n, rfl, B, ⟨a, b, rfl, ha, hb⟩, ok, hn, kk⟩ := h
    rfl
  obtain ⟨p, q, ns, z, v, pl, n, rfl, B, ⟨a, b, rfl, ha, hb⟩, ok, hn, kk⟩ := h
  have nd := sc_law_steps.nd
  refine ⟨_, (pss_cons (ps_set (i := 3) nd rfl (.inl rfl) pe_str)
    (pss_cons (ps_for PassesOwn.never rfl (pi_range1 (by rfl) g.range (pa_cons (C8.pe_c c_law_take hr (by decide) rfl (pa_cons (pv 0) (pa_cons (pe_op op_add (pv 2) pe_int) pa_nil))) pa_nil)) (pg_name (i := 4) nd rfl (.inl rfl)) (pss_one (ps_set (i := 3) nd rfl (.inl rfl) (pe_op op_add_str (pv 3) (pe_ix ix_list (pe_lst (pa_cons (pe_ix ix_str pe_str (C8.pe_c c_law_take hr (by decide) rfl (pa_cons (pv 0) (pa_cons (pe_ix ix_tup (pv 1) pe_int (fun _ _ => rfl)) pa_nil))) (fun _ _ => rfl)) (pa_cons pe_str pa_nil))) (C8.pe_c c_law_take hr (by decide) rfl (pa_cons (pv 0) (pa_cons pe_int pa_nil))) (fun _ _ => rfl))))))
    (pss_one (ps_ret (pv 3))))), ?_⟩
  have hm1 := ok.m1
  have hm4 := ok.m4
  refine ⟨_, rfl, _, rfl, _, _, rfl, rfl, p, q, ns, z, (n : Int) + 1, rfl, B, by omega, p9 (by omega), fun m ns1 z1 H1 m0 m1 B1 k1 => ?_⟩
  refine ⟨m, rfl, by omega, by omega, ?_⟩
  refine for_range (lo := 0) (fun i σ H2 => ∃ (l : List Nat) (o : Option V) (ns2 : List Int) (z2 : Int), σ = [some (.ref p), some (.ref a), some (.int n), some (.str (tx l)), o] ∧ BoxAt H2 p q ns2 z2 ∧ Keep p q H H2 ∧ l.length = i ∧ ∀ c ∈ l, c = 45 ∨ c ∈ signs pl.many)
    ⟨[], none, ns1, z1, by rw [← s_empty]; rfl, B1, k1, rfl, fun c hc => by simp at hc⟩ ?_ ?_
  · rintro i σ H2 hi ⟨l, o, ns2, z2, rfl, B2, k2, hl, hs⟩
    refine ⟨_, rfl, _, rfl, _, rfl, a, _, 1, _, rfl, rfl, SqT.of (k2.tup B ha), rfl, p, q, ns2, z2, pl.many, rfl, B2, by omega, p9 (by omega), fun r ns3 z3 H3 r0 r1 B3 k3 => ?_⟩
    have hsg : ∃ c : Nat, c ∈ signs pl.many ∧ atI (("abcd" : Str).cps.toList) r = some c := by
      obtain ⟨R, rfl⟩ : ∃ R : Nat, r = (R : Int) := ⟨r.toNat, by omega⟩
      have hR : R < pl.many := by omega
      have hg : ∀ (M R : Nat), M ≤ 4 → R < M → ∃ c, c ∈ signs M ∧ ([97, 98, 99, 100] : List Nat)[R]? = some c := by
        intro M R h1 h2
        have h3 : R < ([97, 98, 99, 100] : List Nat).length := by show R < 4; omega
        refine ⟨([97, 98, 99, 100] : List Nat)[R], ?_, List.getElem?_eq_getElem h3⟩
        unfold signs
        exact List.mem_take_iff_getElem.mpr ⟨R, by rw [Nat.lt_min]; exact ⟨h2, h3⟩, rfl⟩
      obtain ⟨c, hc, hg⟩ := hg pl.many R hm4 hR
      exact ⟨c, hc, atI_nat (by rw [s_abcd]; exact hg)⟩
    obtain ⟨c, hc, hat⟩ := hsg
    refine ⟨("abcd" : Str), r, c, rfl, rfl, by rw [s_abcd, tx_len]; exact sz (by decide), hat, ?_⟩
    refine ⟨by show 2 ≤ sizeLine; decide, fun D hD => ?_⟩
    have sD := Same.new hD (.lst [.str ⟨#[c]⟩, .str "-"])
    refine ⟨_, rfl, p, q, ns3, z3, 2, rfl, B3.mono sD, by decide, p9 (by decide), fun w ns4 z4 H4 w0 w1 B4 k4 => ?_⟩
    have hf := B3.fresh hD
    have hL : H4 D = some (.lst [.str ⟨#[c]⟩, .str "-"]) := k4 _ _ upd_same hf.1 hf.2
    have k5 : Keep p q H H4 := k2.trans (k3.trans ((Keep.of sD).trans k4))
    have fin : ∀ d : Nat, (d = 45 ∨ d ∈ signs pl.many) → ∃ (l2 : List Nat) (o : Option V) (ns2 : List Int) (z2 : Int), [some (V.ref p), some (.ref a), some (.int n), some (.str (tx l ++ tx [d])), some (.int (0 + (i : Int)))] = [some (.ref p), some (.ref a), some (.int n), some (.str (tx l2)), o] ∧ BoxAt H4 p q ns2 z2 ∧ Keep p q H H4 ∧ l2.length = i + 1 ∧ ∀ c ∈ l2, c = 45 ∨ c ∈ signs pl.many := fun d hd =>
      ⟨l ++ [d], _, ns4, z4, by rw [tx_app], B4, k5, by simp [hl], fun e he => by
        rcases List.mem_append.mp he with h | h
        · exact hs e h
        · have : e = d := by simpa using h
          subst this
          exact hd⟩
    have hsz : l.length + 1 ≤ 100000 := by omega
    have hw : w = 0 ∨ w = 1 := by omega
    rcases hw with rfl | rfl
    · exact ⟨D, _, 0, _, rfl, rfl, SqL.of hL, rfl, _, _, rfl, rfl, by rw [tx_len]; exact sz hsz, fin c (.inr hc)⟩
    · refine ⟨D, _, 1, _, rfl, rfl, SqL.of hL, rfl, _, _, rfl, rfl, by rw [tx_len, s_minus, tx_len]; exact sz hsz, ?_⟩
      have f := fin 45 (.inl rfl)
      rw [← s_minus] at f
      exact f
  · rintro σ H2 ⟨l, o, ns2, z2, rfl, B2, k2, hl, hs⟩
    exact ⟨_, rfl, kk l ns2 z2 H2 (by omega) hs B2 k2⟩
theorem iteD {c A B : Prop} [Decidable c] (hc : c) (h : A) : if decide c = true then A else B := by
  rw [decide_eq_true hc]
  exact iteT h
theorem iteDF {c A B : Prop} [Decidable c] (hc : ¬ c) (h : B) : if decide c = true then A else B := by
  rw [decide_eq_false hc]
  exact iteF h
theorem givD {x : V} {H : Hp} {Q : VK} (q : giv (.bl true) H Q) : Q (.bl (decide (x = x))) H := by
  rw [decide_eq_true rfl]
  exact q H (Same.refl H)
theorem ok_law_alike (D : Dn K mg "_law_alike" s_law_alike P_law_alike) (g : Gx mg) : ∀ n, C8.Cal P w K mg base n "_law_alike" (spAlike n) []
  | 0 => by
    obtain ⟨f, fd, F, hm, b⟩ := D.ex
    have no : ∀ vs H Q E, ¬ spAlike 0 vs H Q E := fun vs H Q E h => by
      obtain ⟨v, w, _, h, _⟩ := h
      exact h
    exact ⟨f, fd, _, [], ⟨fun vs H Q E h => absurd h (no vs H Q E), fun A outer s H args us vs Q E _ _ _ _ h => absurd h (no vs H Q E)⟩, hm, F.kp, b, .nil⟩
  | n + 1 => by
    have c_law_alike := ok_law_alike D g n
    refine D.cal sc_law_alike (fun vs H Q E h => ?_) (fun f cdv A outer s H vs Q E hr h => ?_)
    · obtain ⟨v, w, rfl, _⟩ := h
      rfl
    obtain ⟨v, w, rfl, al, q⟩ := h
    have nd := sc_law_alike.nd
    refine ⟨_, (pss_cons (ps_if (pt_cmpR op_isN (pv 1) pe_non (nomark _)) (pss_one (ps_ret (pe_cmpR op_isN (pv 0) pe_non (nomark _)))) pss_nil)
    (pss_cons (ps_if (pt_val (pe_callB call_isi rfl g.isi b_isi (pa_cons (pv 1) (pa_cons (pe_bltn (v := .ty "bool") rfl g.bool b_bool rfl) pa_nil)))) (pss_one (ps_ret (pe_and (pe_callB call_isi rfl g.isi b_isi (pa_cons (pv 0) (pa_cons (pe_bltn (v := .ty "bool") rfl g.bool b_bool rfl) pa_nil))) (pe_one (pe_cmpR op_eq (pv 0) (pv 1) (nomark _)))))) pss_nil)
    (pss_cons (ps_if (pt_val (pe_callB call_isi rfl g.isi b_isi (pa_cons (pv 1) (pa_cons (pe_bltn (v := .ty "int") rfl g.int b_int rfl) pa_nil)))) (pss_one (ps_ret (pe_and (pe_callB call_isi rfl g.isi b_isi (pa_cons (pv 0) (pa_cons (pe_bltn (v := .ty "int") rfl g.int b_int rfl) pa_nil))) (pe_and (pe_not (pe_callB call_isi rfl g.isi b_isi (pa_cons (pv 0) (pa_cons (pe_bltn (v := .ty "bool") rfl g.bool b_bool rfl) pa_nil)))) (pe_one (pe_cmpR op_eq (pv 0) (pv 1) (nomark _))))))) pss_nil)
    (pss_cons (ps_if (pt_val (pe_callB call_isi rfl g.isi b_isi (pa_cons (pv 1) (pa_cons (pe_bltn (v := .ty "str") rfl g.str b_str rfl) pa_nil)))) (pss_one (ps_ret (pe_and (pe_callB call_isi rfl g.isi b_isi (pa_cons (pv 0) (pa_cons (pe_bltn (v := .ty "str") rfl g.str b_str rfl) pa_nil))) (pe_one (pe_cmpR op_eq (pv 0) (pv 1) (nomark _)))))) pss_nil)
    (pss_cons (ps_if (PW.pt (pw_or (pt_cmpR op_ne (pe_callB call_isi rfl g.isi b_isi (pa_cons (pv 1) (pa_cons (pe_bltn (v := .ty "tuple") rfl g.tuple b_tuple rfl) pa_nil))) (pe_callB call_isi rfl g.isi b_isi (pa_cons (pv 0) (pa_cons (pe_bltn (v := .ty "tuple") rfl g.tuple b_tuple rfl) pa_nil))) (nomark _)) (pw_or1 (pt_cmpR op_ne (pe_callB call_isi rfl g.isi b_isi (pa_cons (pv 1) (pa_cons (pe_bltn (v := .ty "list") rfl g.list b_list rfl) pa_nil))) (pe_callB call_isi rfl g.isi b_isi (pa_cons (pv 0) (pa_cons (pe_bltn (v := .ty "list") rfl g.list b_list rfl) pa_nil))) (nomark _))))) (pss_one (ps_ret pe_bl)) pss_nil)
    (pss_cons (ps_if (pt_cmpR op_ne (pe_callB call_len rfl g.len PySem.boot_len (pa_cons (pv 0) pa_nil)) (pe_callB call_len rfl g.len PySem.boot_len (pa_cons (pv 1) pa_nil)) (nomark _)) (pss_one (ps_ret pe_bl)) pss_nil)
    (pss_cons (ps_for PassesOwn.never rfl (pi_range1 (by rfl) g.range (pa_cons (pe_callB call_len rfl g.len PySem.boot_len (pa_cons (pv 1) pa_nil)) pa_nil)) (pg_name (i := 2) nd rfl (.inl rfl)) (pss_one (ps_if (pt_not (pt_val (C8.pe_c c_law_alike hr (Nat.le_refl _) rfl (pa_cons (pe_ix ix_seq (pv 0) (pv 2) (fun _ _ => rfl)) (pa_cons (pe_ix ix_seq (pv 1) (pv 2) (fun _ _ => rfl)) pa_nil))))) (pss_one (ps_ret pe_bl)) pss_nil)))
    (pss_one (ps_ret pe_bl))))))))), ?_⟩
    rcases al with ⟨rfl, hs⟩ | ⟨a, b, xs, ys, rfl, rfl, ⟨ha, hb⟩ | ⟨ha, hb⟩, hl, hy, he⟩
    · cases v with
      | non =>
        refine ⟨_, rfl, rfl, _, rfl, iteD rfl ?_⟩
        exact ⟨_, rfl, rfl, givD q⟩
      | bl x =>
        refine ⟨_, rfl, rfl, _, rfl, iteDF (by intro z; cases z) ?_⟩
        refine ⟨_, rfl, _, _, _, _, _, rfl, .ty "bool", ty_bl, kit_ty k_bool_bool, _, rfl, iteT ?_⟩
        exact ⟨_, rfl, _, _, _, _, _, rfl, .ty "bool", ty_bl, kit_ty k_bool_bool, _, rfl, iteT ⟨_, rfl, _, rfl, rfl, givD q⟩⟩
      | int x =>
        refine ⟨_, rfl, rfl, _, rfl, iteDF (by intro z; cases z) ?_⟩
        refine ⟨_, rfl, _, _, _, _, _, rfl, .ty "bool", ty_int, kit_ty k_int_bool, _, rfl, iteF ?_⟩
        refine ⟨_, rfl, _, _, _, _, _, rfl, .ty "int", ty_int, kit_ty k_int_int, _, rfl, iteT ?_⟩
        refine ⟨_, rfl, _, _, _, _, _, rfl, .ty "int", ty_int, kit_ty k_int_int, _, rfl, iteT ?_⟩
        exact ⟨_, rfl, _, _, _, _, _, rfl, .ty "bool", ty_int, kit_ty k_int_bool, _, rfl, _, rfl, iteT ⟨_, rfl, _, rfl, rfl, givD q⟩⟩
      | str x =>
        refine ⟨_, rfl, rfl, _, rfl, iteDF (by intro z; cases z) ?_⟩
        refine ⟨_, rfl, _, _, _, _, _, rfl, .ty "bool", ty_str, kit_ty k_str_bool, _, rfl, iteF ?_⟩
        refine ⟨_, rfl, _, _, _, _, _, rfl, .ty "int", ty_str, kit_ty k_str_int, _, rfl, iteF ?_⟩
        refine ⟨_, rfl, _, _, _, _, _, rfl, .ty "str", ty_str, kit_ty k_str_str, _, rfl, iteT ?_⟩
        exact ⟨_, rfl, _, _, _, _, _, rfl, .ty "str", ty_str, kit_ty k_str_str, _, rfl, iteT ⟨_, rfl, _, rfl, rfl, givD q⟩⟩
      | ref x => exact hs.elim
      | ty x => exact hs.elim
      | flt x => exact hs.elim
      | byt x => exact hs.elim
    · -- tuples
      refine ⟨_, rfl, rfl, _, rfl, iteDF (by intro z; cases z) ?_⟩
      refine ⟨_, rfl, _, _, _, _, _, rfl, .ty "bool", ty_tup hb, kit_ty k_tup_bool, _, rfl, iteF ?_⟩
      refine ⟨_, rfl, _, _, _, _, _, rfl, .ty "int", ty_tup hb, kit_ty k_tup_int, _, rfl, iteF ?_⟩
      refine ⟨_, rfl, _, _, _, _, _, rfl, .ty "str", ty_tup hb, kit_ty k_tup_str, _, rfl, iteF ?_⟩
      refine ⟨_, rfl, _, _, _, _, _, rfl, .ty "tuple", ty_tup hb, kit_ty k_tup_tup, _, rfl, _, _, _, _, _, rfl, .ty "tuple", ty_tup ha, kit_ty k_tup_tup, rfl, _, rfl, iteNS rfl ?_⟩
      refine ⟨_, rfl, _, _, _, _, _, rfl, .ty "list", ty_tup hb, kit_ty k_tup_lst, _, rfl, _, _, _, _, _, rfl, .ty "list", ty_tup ha, kit_ty k_tup_lst, rfl, _, rfl, iteNS rfl ?_⟩
      refine ⟨_, rfl, _, _, rfl, .inr ⟨xs, SqT.of ha, rfl⟩, _, rfl, _, _, rfl, .inr ⟨ys, SqT.of hb, rfl⟩, rfl, _, rfl, iteNS (by rw [hl]) ?_⟩
      refine ⟨_, rfl, _, _, rfl, .inr ⟨ys, SqT.of hb, rfl⟩, _, rfl, by omega, by omega, ?_⟩
      refine for_range (lo := 0) (fun i σ H2 => ∃ (o : Option V), σ = [some (.ref a), some (.ref b), o] ∧ Same H H2) ⟨none, rfl, Same.refl H⟩ ?_ ?_
      · rintro i σ H2 hi ⟨o, rfl, s2⟩
        have hi' : i < ys.length := by omega
        have ex : xs[i]? = some xs[i] := List.getElem?_eq_getElem (by omega)
        have ey : ys[i]? = some ys[i] := List.getElem?_eq_getElem hi'
        refine ⟨_, rfl, _, rfl, .inr <| .inl ⟨a, xs, 0 + (i : Int), _, rfl, rfl, SqT.of (s2 _ _ ha), (by rw [Int.zero_add]; exact atI_nat ex), ?_⟩⟩
        refine ⟨_, rfl, _, rfl, .inr <| .inl ⟨b, ys, 0 + (i : Int), _, rfl, rfl, SqT.of (s2 _ _ hb), (by rw [Int.zero_add]; exact atI_nat ey), ?_⟩⟩
        refine ⟨_, _, rfl, Alk.mono s2 (he i _ _ ex ey), fun H3 s3 => ⟨_, rfl, iteF ?_⟩⟩
        exact ⟨_, rfl, s2.trans s3⟩
      · rintro σ H2 ⟨o, rfl, s2⟩
        exact q H2 s2
    · -- lists
      refine ⟨_, rfl, rfl, _, rfl, iteDF (by intro z; cases z) ?_⟩
      refine ⟨_, rfl, _, _, _, _, _, rfl, .ty "bool", ty_lst hb, kit_ty k_lst_bool, _, rfl, iteF ?_⟩
      refine ⟨_, rfl, _, _, _, _, _, rfl, .ty "int", ty_lst hb, kit_ty k_lst_int, _, rfl, iteF ?_⟩
      refine ⟨_, rfl, _, _, _, _, _, rfl, .ty "str", ty_lst hb, kit_ty k_lst_str, _, rfl, iteF ?_⟩
      refine ⟨_, rfl, _, _, _, _, _, rfl, .ty "tuple", ty_lst hb, kit_ty k_lst_tup, _, rfl, _, _, _, _, _, rfl, .ty "tuple", ty_lst ha, kit_ty k_lst_tup, rfl, _, rfl, iteNS rfl ?_⟩
      refine ⟨_, rfl, _, _, _, _, _, rfl, .ty "list", ty_lst hb, kit_ty k_lst_lst, _, rfl, _, _, _, _, _, rfl, .ty "list", ty_lst ha, kit_ty k_lst_lst, rfl, _, rfl, iteNS rfl ?_⟩
      refine ⟨_, rfl, _, _, rfl, .inl ⟨xs, SqL.of ha, rfl⟩, _, rfl, _, _, rfl, .inl ⟨ys, SqL.of hb, rfl⟩, rfl, _, rfl, iteNS (by rw [hl]) ?_⟩
      refine ⟨_, rfl, _, _, rfl, .inl ⟨ys, SqL.of hb, rfl⟩, _, rfl, by omega, by omega, ?_⟩
      refine for_range (lo := 0) (fun i σ H2 => ∃ (o : Option V), σ = [some (.ref a), some (.ref b), o] ∧ Same H H2) ⟨none, rfl, Same.refl H⟩ ?_ ?_
      · rintro i σ H2 hi ⟨o, rfl, s2⟩
        have hi' : i < ys.length := by omega
        have ex : xs[i]? = some xs[i] := List.getElem?_eq_getElem (by omega)
        have ey : ys[i]? = some ys[i] := List.getElem?_eq_getElem hi'
        refine ⟨_, rfl, _, rfl, .inl ⟨a, xs, 0 + (i : Int), _, rfl, rfl, SqL.of (s2 _ _ ha), (by rw [Int.zero_add]; exact atI_nat ex), ?_⟩⟩
        refine ⟨_, rfl, _, rfl, .inl ⟨b, ys, 0 + (i : Int), _, rfl, rfl, SqL.of (s2 _ _ hb), (by rw [Int.zero_add]; exact atI_nat ey), ?_⟩⟩
        refine ⟨_, _, rfl, Alk.mono s2 (he i _ _ ex ey), fun H3 s3 => ⟨_, rfl, iteF ?_⟩⟩
        exact ⟨_, rfl, s2.trans s3⟩
      · rintro σ H2 ⟨o, rfl, s2⟩
        exact q H2 s2
def ext (many : Nat) (l : List Nat) : List (List Nat) := (signs many).map fun c => l ++ [c]
abbrev fv (l : List Nat) : V := V.str (tx l)
theorem fm_len (many : Nat) (xs : List (List Nat)) : (xs.flatMap (ext many)).length = xs.length * (signs many).length := by
  induction xs with
  | nil => simp
  | cons x r ih =>
    rw [List.flatMap_cons, List.length_append, ih]
    unfold ext
    rw [List.length_map, List.length_cons, Nat.succ_mul, Nat.add_comm]
theorem fm_le (many : Nat) {i : Nat} (h : i + 1 ≤ 9) (j : Nat) : (((lay many i).take j).flatMap (ext many)).length ≤ 262144 := by
  have h1 := lay_le many h
  have h2 : (lay many (i + 1)).length = (lay many i).length * (signs many).length := fm_len many (lay many i)
  rw [fm_len, List.length_take]
  exact Nat.le_trans (Nat.mul_le_mul_right _ (Nat.min_le_right ..)) (by omega)
theorem big {n : Nat} (h : n ≤ 3000000) : n ≤ sizeLine := Nat.le_trans h (by decide)
theorem ok_law_stacks (D : Dn K mg "_law_stacks" s_law_stacks P_law_stacks) (g : Gx mg) : C8.Cal P w K mg base 1 "_law_stacks" spLStacks [] := by
  refine D.cal sc_law_stacks (fun vs H Q E h => ?_) (fun f cdv A outer s H vs Q E hr h => ?_)
  · obtain ⟨v, p, rfl, ⟨a, b, rfl, ha, hb⟩, ok, kk⟩ := h
    rfl
  obtain ⟨v, p, rfl, ⟨a, b, rfl, ha, hb⟩, ok, kk⟩ := h
  have nd := sc_law_stacks.nd
  refine ⟨_, (pss_cons (ps_par (i := 1) (j := 2) (by rfl) nd rfl rfl (by decide) rfl rfl (pa_cons (pe_lst (pa_cons pe_str pa_nil)) (pa_cons (pe_lst (pa_cons pe_str pa_nil)) pa_nil)) (by rfl))
    (pss_cons (ps_for PassesOwn.never rfl (pi_range1 (by rfl) g.range (pa_cons (pe_ix ix_tup (pv 0) pe_int (fun _ _ => rfl)) pa_nil)) (pg_name (i := 3) nd rfl (.inl rfl)) (pss_cons (ps_set (i := 4) nd rfl (.inl rfl) (pe_lst pa_nil))
    (pss_cons (ps_for PassesOwn.never rfl (pi_list (pv 2)) (pg_name (i := 5) nd rfl (.inr rfl)) (pss_one (ps_set (i := 4) nd rfl (.inl rfl) (pe_op op_cat (pv 4) (pe_lc (own := [("_law_sign", 6)]) rfl nd (pi_str (pe_slice sl_str pe_str po_none (po_some (pe_ix ix_tup (pv 0) pe_int (fun _ _ => rfl))))) (blkOk_by (own := [("_law_sign", 6)]) (N := N_law_stacks) (sc := defScope s_law_stacks) (by decide +kernel)) (fun _ _ _ _ _ => (pg_name (i := 6) nd rfl (.inl rfl))) (fun _ _ _ _ _ => pts_nil) (fun _ _ _ _ _ => (pe_op op_add_str (pv 5) (pv 6))))))))
    (pss_one (ps_par (i := 1) (j := 2) (by rfl) nd rfl rfl (by decide) rfl rfl (pa_cons (pe_op op_cat (pv 1) (pv 4)) (pa_cons (pv 4) pa_nil)) (by rfl))))))
    (pss_one (ps_ret (pv 1))))), ?_⟩
  have h9 := ok.r9
  have m4 := ok.m4
  have e0 : V.str "" = fv [] := congrArg V.str s_empty
  refine ⟨by show 1 ≤ sizeLine; decide, fun F0 hF0 => ⟨by show 1 ≤ sizeLine; decide, fun L0 hL0 => ⟨_, _, rfl, ?_⟩⟩⟩
  have sF := Same.new hF0 (.lst [.str ""])
  have sL := Same.new hL0 (.lst [.str ""])
  refine ⟨_, rfl, a, _, 0, _, rfl, rfl, SqT.of (sL _ _ (sF _ _ ha)), rfl, _, rfl, by omega, by omega, ?_⟩
  refine for_range (lo := 0) (fun i σ H2 => ∃ (F L : Addr) (o3 o4 o5 : Option V), σ = [some (.ref a), some (.ref F), some (.ref L), o3, o4, o5, none] ∧ Same H H2 ∧ H F = none ∧ H2 F = some (.lst ((stk p.many i).map fv)) ∧ H2 L = some (.lst ((lay p.many i).map fv)))
    ⟨F0, L0, none, none, none, rfl, sF.trans sL, hF0, by rw [sL _ _ upd_same, e0]; rfl, by rw [upd_same, e0]; rfl⟩ ?_ ?_
  · rintro i σ H2 hi ⟨F, L, o3, o4, o5, rfl, s2, nF, hF, hL⟩
    have hi9 : i + 1 ≤ 9 := by omega
    refine ⟨by show 0 ≤ sizeLine; decide, fun G0 hG0 => ?_⟩
    have sG := Same.new hG0 (.lst [])
    refine ⟨_, rfl, L, rfl, ⟨_, SqL.of (sG _ _ hL)⟩, for_list (K := K) (a := L) (xs := (lay p.many i).map fv)
      (fun j σ H3 => ∃ (G : Addr) (o5 : Option V), σ = [some (.ref a), some (.ref F), some (.ref L), some (.int (0 + (i : Int))), some (.ref G), o5, none] ∧ Same H2 H3 ∧ H3 G = some (.lst ((((lay p.many i).take j).flatMap (ext p.many)).map fv)))
      ⟨G0, o5, rfl, sG, upd_same⟩ (fun j σ H3 _ ⟨_, _, _, s3, _⟩ => SqL.of (s3 _ _ hL)) ?_ ?_⟩
    · rintro j x σ H3 hx ⟨G, o5, rfl, s3, hG⟩
      rw [List.getElem?_map] at hx
      obtain ⟨one, hone, rfl⟩ := Option.map_eq_some_iff.mp hx
      have hlen : one.length = i := (lay_mem (List.mem_of_getElem? hone)).1
      refine ⟨_, rfl, _, rfl, a, _, 1, _, rfl, rfl, SqT.of (s3 _ _ (s2 _ _ ha)), rfl, _, rfl, _, rfl, by rw [s_abcd, tx_len]; exact sz (by decide), ?_⟩
      rw [s_abcd, cut_to (l := [97, 98, 99, 100]) (n := p.many) m4]
      refine ⟨_, rfl, fun D hD => ?_⟩
      have hn : (tx (signs p.many)).cps.size = (signs p.many).length := tx_len _
      have sl4 := signs_len p.many
      refine lc_it (walk_str (z := tx (signs p.many))) (fun k H4 => Same H3 H4 ∧ H4 D = some (.lst (((signs p.many).take k).map fun c => fv (one ++ [c])))) ⟨Same.new hD _, upd_same⟩ (fun _ _ _ _ => trivial) ?_ ?_
      · rintro k y H4 H5 hk ⟨s4, h4⟩ ⟨rfl, c, hc, rfl⟩
        have hc' : (signs p.many)[k]? = some c := by
          rw [← hc]
          simp [tx]
        refine ⟨rfl, ?_⟩
        refine ⟨_, rfl, _, rfl, _, _, rfl, rfl, by rw [tx_len]; exact sz (by show one.length + 1 ≤ _; omega), _, h4, ?_, fun b o e => ?_, ?_⟩
        · rw [List.length_map, List.length_take]
          exact szl (by omega)
        · rw [upd_ne (ne_of_none e hD)]
          exact s4 b o e
        · rw [upd_same, List.take_add_one, hc', List.map_append]
          exact congrArg (fun z => some (HO.lst (_ ++ [V.str z]))) (tx_app one [c])
      · rintro H4 ⟨s4, h4⟩
        rw [hn, List.take_of_length_le (Nat.le_refl _)] at h4
        have hfl := fm_le p.many hi9 j
        refine ⟨G, D, _, _, rfl, rfl, s4 _ _ hG, h4, by rw [List.length_map, List.length_map]; exact big (by omega), fun E hE => ?_⟩
        refine ⟨E, some (fv one), rfl, s3.trans (s4.trans (Same.new hE _)), ?_⟩
        rw [upd_same, List.take_add_one, hone, List.flatMap_append, List.map_append]
        simp [ext]
    · rintro σ H3 ⟨G, o5, rfl, s3, hG⟩
      rw [List.length_map, List.take_of_length_le (Nat.le_refl _)] at hG
      have hs := stk_le p.many (n := i) (by omega)
      have hl : ((lay p.many i).flatMap (ext p.many)).length ≤ 262144 := lay_le p.many hi9
      have h10 : (i + 1) * 262144 ≤ 9 * 262144 := Nat.mul_le_mul_right _ (by omega)
      refine ⟨_, rfl, _, rfl, F, G, _, _, rfl, rfl, s3 _ _ hF, hG, by rw [List.length_map, List.length_map]; exact big (by omega), fun U hU => ⟨_, rfl, _, _, rfl, ?_⟩⟩
      have sU := Same.new hU (.lst ((stk p.many i).map fv ++ ((lay p.many i).flatMap (ext p.many)).map fv))
      have nU : H U = none := (s2.trans s3).free hU
      refine ⟨U, G, _, _, _, rfl, s2.trans (s3.trans sU), nU, ?_, sU _ _ hG⟩
      rw [upd_same, ← List.map_append]
      rfl
  · rintro σ H2 ⟨F, L, o3, o4, o5, rfl, s2, nF, hF, hL⟩
    have e : ((p.room : Int)).toNat = p.room := by omega
    rw [e] at hF
    exact ⟨_, rfl, kk F H2 s2 nF hF⟩
theorem ifLt {tx1 : TE} {σ : L2.St} {H : Hp} {Q : VK} {i k x y : Int} (hx : ∀ Q : VK, Q (.int i) H → tx1 σ H Q) (h : ∀ m : Int, (m = x ∨ m = y) → Q (.int m) H) :
    tIf (tTest (tOp (rI0 fun i j => .bl (decide (i < j))) tx1 (tC (.int k)))) (tC (.int x)) (tC (.int y)) σ H Q := by
  refine hx _ ⟨_, _, rfl, rfl, _, rfl, ite2 (fun _ => ?_) (fun _ => ?_)⟩
  · exact h x (.inl rfl)
  · exact h y (.inr rfl)
theorem ok_law {f : Addr} {fd : FuncData} (F : L2.Fun K "law" "law" s_law f fd) (g : Gx mg) (c_law_begun : C8.Cal P w K mg base 1 "_law_begun" (spLBegun K) []) (c_law_take : C8.Cal P w K mg base 1 "_law_take" spTake []) (c_law_plan : C8.Cal P w K mg base 2 "_law_plan" spLPlan []) (c_law_steps : C8.Cal P w K mg base 2 "_law_steps" spLSteps []) (c_told_of_steps : C8.Cal P w K mg base 4 "told_of_steps" spToldSteps []) (c_law_alike : C8.Cal P w K mg base 2 "_law_alike" (spAlike 2) []) (c_law_stacks : C8.Cal P w K mg base 1 "_law_stacks" spLStacks []) (c_law_gone : C8.Cal P w K mg base 2 "_law_gone" spLGone []) (c_done : C8.Cal P w K mg base 4 "done" spDone []) (c_law_by : C8.Cal P w K mg base 1 "_law_by" spLBy []) : FnOk P w K mg base CX0 5 f fd P_law (spLaw K) := by
  refine F.ok sc_law (fun vs H Q E h => ?_) (fun cdv A outer s H vs Q E hr h => ?_)
  · obtain ⟨a, ns, rfl, hS, h63, kk⟩ := h
    rfl
  obtain ⟨a, ns, rfl, hS, h63, kk⟩ := h
  have nd := sc_law.nd
  refine ⟨_, (pss_cons (ps_set (i := 1) nd rfl (.inl rfl) (C8.pe_c c_law_begun hr (by decide) rfl (pa_cons (pv 0) pa_nil)))
    (pss_cons (ps_for PassesOwn.never rfl (pi_range1 (by rfl) g.range (pa_cons pe_int pa_nil)) (pg_name (i := 2) nd rfl (.inl rfl)) (pss_cons (ps_set (i := 3) nd rfl (.inl rfl) (C8.pe_c c_law_plan hr (by decide) rfl (pa_cons (pv 1) (pa_cons (pe_ix ix_list (pe_lst (pa_cons pe_int (pa_cons pe_int pa_nil))) (C8.pe_c c_law_take hr (by decide) rfl (pa_cons (pv 1) (pa_cons pe_int pa_nil))) (fun _ _ => rfl)) (pa_cons (pe_ifExp (pt_cmpR op_lt (pv 2) pe_int (nomark _)) pe_int pe_int) pa_nil)))))
    (pss_cons (ps_set (i := 3) nd rfl (.inl rfl) (pe_op op_catA (pe_tup (pa_cons (pe_callB (call_min2 rfl) rfl g.min b_min (pa_cons (pe_ix ix_tup (pv 3) pe_int (fun _ _ => rfl)) (pa_cons (pe_ifExp (pt_cmpR op_lt (pe_ix ix_tup (pv 3) pe_int (fun _ _ => rfl)) pe_int (nomark _)) pe_int pe_int) pa_nil))) pa_nil)) (pe_slice sl_tupA (pv 3) (po_some pe_int) po_none)))
    (pss_cons (ps_set (i := 4) nd rfl (.inl rfl) (C8.pe_c c_law_steps hr (by decide) rfl (pa_cons (pv 1) (pa_cons (pv 3) (pa_cons (pe_ix ix_list (pe_lst (pa_cons pe_int (pa_cons pe_int pa_nil))) (C8.pe_c c_law_take hr (by decide) rfl (pa_cons (pv 1) (pa_cons pe_int pa_nil))) (fun _ _ => rfl)) pa_nil)))))
    (pss_cons (ps_set (i := 5) nd rfl (.inl rfl) (C8.pe_c c_told_of_steps hr (by decide) rfl (pa_cons (pv 3) (pa_cons (pv 4) pa_nil))))
    (pss_cons (ps_asg (pv 5) (pg_tup (by rfl) (pgs_cons (pg_name (i := 6) nd rfl (.inl rfl)) (pgs_cons (pg_name (i := 7) nd rfl (.inl rfl)) (pgs_cons (pg_name (i := 8) nd rfl (.inl rfl)) pgs_nil)))))
    (pss_cons (ps_if (PW.pt (pw_or (pt_not (pt_val (C8.pe_c c_law_alike hr (by decide) rfl (pa_cons (C8.pe_c c_told_of_steps hr (by decide) rfl (pa_cons (pv 3) (pa_cons (pv 4) pa_nil))) (pa_cons (pv 5) pa_nil))))) (pw_or (pt_cmpR op_gt (pe_op op_add (pv 6) (pv 7)) (pe_ix ix_tup (pv 3) pe_int (fun _ _ => rfl)) (nomark _)) (pw_or1 (pt_cmpR op_gt (pe_op op_add (pv 7) (pe_callB call_len_str rfl g.len PySem.boot_len (pa_cons (pv 8) pa_nil))) (pe_ix ix_tup (pv 3) pe_int (fun _ _ => rfl)) (nomark _)))))) (pss_one (ps_ret pe_bl)) pss_nil)
    (pss_cons (ps_if (PW.pt (pw_or (pt_cmpR op_lt (pe_callB (call_min2 rfl) rfl g.min b_min (pa_cons (pv 6) (pa_cons (pv 7) pa_nil))) pe_int (nomark _)) (pw_or1 (PW.pt (pw_and (pt_cmpR op_eq (pv 7) pe_int (nomark _)) (pw_and1 (pt_cmpR op_ne (pv 6) pe_int (nomark _)))))))) (pss_one (ps_ret pe_bl)) pss_nil)
    (pss_one (ps_for PassesOwn.never rfl (pi_list (C8.pe_c c_law_stacks hr (by decide) rfl (pa_cons (pv 3) pa_nil))) (pg_name (i := 9) nd rfl (.inl rfl)) (pss_cons (ps_set (i := 10) nd rfl (.inl rfl) (C8.pe_c c_law_gone hr (by decide) rfl (pa_cons (pv 3) (pa_cons (pv 9) (pa_cons (pv 4) pa_nil)))))
    (pss_one (ps_if (pt_not (pt_val (C8.pe_c c_law_alike hr (by decide) rfl (pa_cons (pe_lst (pa_cons (C8.pe_c c_done hr (by decide) rfl (pa_cons (pv 3) (pa_cons (pv 5) (pa_cons (pv 9) pa_nil)))) (pa_cons (C8.pe_c c_law_by hr (by decide) rfl (pa_cons (pv 5) (pa_cons (pv 9) pa_nil))) pa_nil))) (pa_cons (pe_lst (pa_cons (pv 10) (pa_cons (pv 10) pa_nil))) pa_nil))))) (pss_one (ps_ret pe_bl)) pss_nil)))))))))))))
    (pss_one (ps_ret pe_bl)))), ?_⟩
  refine ⟨_, rfl, a, ns, rfl, hS, h63, fun p q z H1 s1 B1 np nq => ?_⟩
  refine ⟨4, rfl, by decide, by decide, for_range (lo := 0) (n := 4) (fun i σ H2 => ∃ (o2 o3 o4 o5 o6 o7 o8 o9 o10 : Option V) (ns2 : List Int) (z2 : Int), σ = [some (.ref a), some (.ref p), o2, o3, o4, o5, o6, o7, o8, o9, o10] ∧ BoxAt H2 p q ns2 z2)
    ⟨_, _, _, _, _, _, _, _, _, ns, z, rfl, B1⟩ ?_ (fun σ H2 _ => kk H2)⟩
  rintro i σ H2 hi ⟨o2, o3, o4, o5, o6, o7, o8, o9, o10, ns2, z2, rfl, B2⟩
  -- the plan
  refine ⟨_, rfl, pick2 (x := .int 5) (y := .int 3) rfl B2 tC_q tC_q fun v ns3 z3 H3 hv B3 k3 => ?_⟩
  obtain ⟨R, rfl, r1, r9⟩ : ∃ R : Nat, v = .int (R : Int) ∧ 1 ≤ R ∧ R ≤ 9 := by
    rcases hv with rfl | rfl
    · exact ⟨5, rfl, by decide, by decide⟩
    · exact ⟨3, rfl, by decide, by decide⟩
  refine ifLt (x := 3) (y := 2) (fun Q q => ⟨_, rfl, q⟩) fun m hm => ?_
  obtain ⟨M, rfl, m1, m4⟩ : ∃ M : Nat, m = (M : Int) ∧ 1 ≤ M ∧ M ≤ 4 := by
    rcases hm with rfl | rfl
    · exact ⟨3, rfl, by decide, by decide⟩
    · exact ⟨2, rfl, by decide, by decide⟩
  refine ⟨p, q, ns3, z3, R, M, rfl, B3, r1, r9, m1, m4, fun pl v ns4 z4 H4 ok hR hM hp B4 k4 => ?_⟩
  obtain ⟨a1, b1, rfl, ha1, hb1⟩ := hp
  -- the plan, less room
  refine ⟨_, rfl, a1, _, 0, _, rfl, rfl, SqT.of ha1, rfl, ifLt (x := 5) (y := 4) (fun Q q => ⟨_, rfl, a1, _, 1, _, rfl, rfl, SqT.of ha1, rfl, q⟩) fun c hc => ?_⟩
  have okr := ok.r1
  obtain ⟨R2, eR, R21, R2r⟩ : ∃ R2 : Nat, (if c < (pl.room : Int) then c else (pl.room : Int)) = (R2 : Int) ∧ 1 ≤ R2 ∧ R2 ≤ pl.room := by
    by_cases h : c < (pl.room : Int)
    · rw [if_pos h]
      exact ⟨c.toNat, by omega, by omega, by omega⟩
    · rw [if_neg h]
      exact ⟨pl.room, rfl, okr, Nat.le_refl _⟩
  refine ⟨_, _, rfl, by show 1 ≤ sizeLine; decide, fun T1 hT1 => ?_⟩
  rw [eR]
  have sT1 := Same.new hT1 (.tup [.int (R2 : Int)])
  refine ⟨_, rfl, _, rfl, a1, _, rfl, SqT.of (sT1 _ _ ha1), (fun w => absurd w.1 (show ¬ ((1 : Nat) = 0) by decide)), fun _ T2 hT2 => ?_⟩
  rw [show cutV [V.int (pl.room : Int), .int (pl.many : Int), .ref b1, .int pl.pop] (some 1) none = [.int (pl.many : Int), .ref b1, .int pl.pop] from rfl]
  have sT2 := Same.new hT2 (.tup [.int (pl.many : Int), .ref b1, .int pl.pop])
  refine ⟨T1, T2, [.int (R2 : Int)], [.int (pl.many : Int), .ref b1, .int pl.pop], rfl, rfl, SqT.of (sT2 _ _ upd_same), SqT.of upd_same, by show 4 ≤ sizeLine; decide, (fun e => nomatch e), (fun _ e => nomatch e), fun _ _ T3 hT3 => ?_⟩
  have sT3 := Same.new hT3 (.tup ([.int (R2 : Int)] ++ [.int (pl.many : Int), .ref b1, .int pl.pop]))
  have s7 := sT1.trans (sT2.trans sT3)
  generalize hH7 : upd (upd (upd H4 T1 (.tup [.int (R2 : Int)])) T2 (.tup [.int (pl.many : Int), .ref b1, .int pl.pop])) T3 (.tup ([.int (R2 : Int)] ++ [.int (pl.many : Int), .ref b1, .int pl.pop])) = H7
  have hT7 : H7 T3 = some (.tup [.int (R2 : Int), .int (pl.many : Int), .ref b1, .int pl.pop]) := by
    rw [← hH7, upd_same]
    rfl
  have s7' : Same H4 H7 := by
    rw [← hH7]
    exact s7
  have B7 : BoxAt H7 p q ns4 z4 := B4.mono s7'
  have ok2 : Pl.Ok ⟨R2, pl.many, pl.pr, pl.pop⟩ := ⟨R21, by show R2 ≤ 9; omega, ok.m1, ok.m4, ok.pl, ok.pr, ok.q1, ok.q9⟩
  have hp7 : PlanAt H7 (.ref T3) ⟨R2, pl.many, pl.pr, pl.pop⟩ := ⟨T3, b1, rfl, hT7, PrAt.mono (p := pl) hb1 s7'⟩
  generalize hpl : (⟨R2, pl.many, pl.pr, pl.pop⟩ : Pl) = pl2 at ok2 hp7
  have hR9 := ok2.r9
  -- the steps
  refine ⟨_, rfl, _, rfl, pick2 (x := .int 8) (y := .int 30) rfl B7 tC_q tC_q fun v ns8 z8 H8 hv B8 k8 => ?_⟩
  obtain ⟨N, rfl, n9⟩ : ∃ N : Nat, v = .int (N : Int) ∧ N ≤ 1000 := by
    rcases hv with rfl | rfl
    · exact ⟨8, rfl, by decide⟩
    · exact ⟨30, rfl, by decide⟩
  refine ⟨p, q, ns8, z8, .ref T3, pl2, N, rfl, B8, hp7.keep B7 k8, ok2, n9, fun l ns9 z9 H9 hl hs B9 k9 => ?_⟩
  have hp9 := (hp7.keep B7 k8).keep B8 k9
  -- the triple
  refine ⟨_, rfl, _, rfl, .ref T3, pl2, l, rfl, hp9, ok2, by omega, hs, fun H10 tv s10 ht => ?_⟩
  obtain ⟨ta, rfl, hta⟩ := ht
  have tok : TrOk pl2.room pl2.many (ttold pl2.room l) := ttold_ok ok2.r1 l _ tunt_ok hs
  have by_ := fun (x : List Nat) (hx : x.length ≤ pl2.room) => tby_told ok2.r1 l hx
  generalize htt : ttold pl2.room l = t at hta tok by_
  have hgk := tok.gk
  have hkl := tok.kl
  have hz := tok.z
  refine ⟨_, rfl, ta, _, rfl, SqT.of hta, rfl, _, _, rfl, _, _, rfl, _, _, rfl, rfl, ?_⟩
  -- once more
  refine ⟨_, rfl, _, rfl, .ref T3, pl2, l, rfl, hp9.mono s10, ok2, by omega, hs, fun H11 tv2 s11 ht2 => ?_⟩
  rw [htt] at ht2
  refine ⟨_, rfl, tv2, .ref ta, rfl, alk_trip (n := 0) ht2 ⟨ta, rfl, s11 _ _ hta⟩, fun H12 s12 => ⟨_, rfl, iteF ?_⟩⟩
  have hp12 := hp9.mono (s10.trans (s11.trans s12))
  obtain ⟨a3, b3, e3, ha3, hb3⟩ := id hp12
  cases e3
  have hta12 := s12 _ _ (s11 _ _ hta)
  refine ⟨_, rfl, _, rfl, _, _, rfl, rfl, _, rfl, T3, _, 0, _, rfl, rfl, SqT.of ha3, rfl, _, _, rfl, rfl, _, rfl, iteDF (by omega) ?_⟩
  refine ⟨_, rfl, _, rfl, _, rfl, by rw [tx_len]; exact sz (by omega), _, _, rfl, rfl, _, rfl, T3, _, 0, _, rfl, rfl, SqT.of ha3, rfl, _, _, rfl, rfl, _, rfl, iteDF (by rw [tx_len]; omega) ?_⟩
  -- min(gone, kept) < 0
  have emin : ¬ (if (t.k : Int) < (t.g : Int) then (t.k : Int) else (t.g : Int)) < 0 := by
    split <;> omega
  refine ⟨_, rfl, _, rfl, _, _, rfl, _, _, rfl, rfl, _, rfl, iteDF emin ?_⟩
  refine (fun rest => ⟨_, rfl, rfl, _, rfl, ite2 (fun c1 => ⟨_, rfl, rfl, _, rfl, iteNS (congrArg (fun x : Nat => V.int (x : Int)) (hz (by have c3 := of_decide_eq_true c1; injection c3 with c4; omega))) rest⟩) (fun c1 => iteF rest)⟩) ?_
  -- all stacks
  refine ⟨_, rfl, .ref T3, pl2, rfl, hp12, ok2, fun D H13 s13 nD hD => ?_⟩
  refine ⟨D, rfl, ⟨_, SqL.of hD⟩, for_list (K := K) (a := D) (xs := (stk pl2.many pl2.room).map fun l => V.str (tx l))
    (fun j σ H14 => ∃ (o9 o10 : Option V), σ = [some (.ref a), some (.ref p), some (.int (0 + (i : Int))), some (.ref T3), some (.str (tx l)), some (.ref ta), some (.int (t.g : Int)), some (.int (t.k : Int)), some (.str (tx t.l)), o9, o10] ∧ Same H13 H14)
    ⟨o9, o10, rfl, Same.refl _⟩ (fun j σ H14 _ ⟨_, _, _, s14⟩ => SqL.of (s14 _ _ hD)) ?_ ?_⟩
  · rintro j x σ H14 hx ⟨o9, o10, rfl, s14⟩
    rw [List.getElem?_map] at hx
    obtain ⟨st, hst, rfl⟩ := Option.map_eq_some_iff.mp hx
    obtain ⟨hlen, hsg⟩ := stk_mem (List.mem_of_getElem? hst)
    have s12_14 := s13.trans s14
    have hp14 := hp12.mono s12_14
    refine ⟨_, rfl, _, rfl, _, rfl, .ref T3, pl2, st, l, rfl, hp14, ok2, hlen, fun H15 s15 => ?_⟩
    have hp15 := hp14.mono s15
    have ht15 : TripAt H15 (.ref ta) t := ⟨ta, rfl, s15 _ _ (s12_14 _ _ hta12)⟩
    refine ⟨_, rfl, _, rfl, _, rfl, .ref T3, pl2, .ref ta, t, st, rfl, hp15, ok2, ht15, tok, hlen, hsg, fun H16 s16 => ?_⟩
    refine ⟨_, rfl, _, rfl, .ref ta, t, st, rfl, ht15.mono s16, by omega, by omega, fun H17 s17 => ?_⟩
    refine ⟨by show 2 ≤ sizeLine; decide, fun D1 hD1 => ?_⟩
    refine ⟨_, rfl, _, rfl, by show 2 ≤ sizeLine; decide, fun D2 hD2 => ?_⟩
    rw [by_ st hlen] at hD2 ⊢
    refine ⟨.ref D1, .ref D2, rfl, .inr ⟨D1, D2, _, _, rfl, rfl, .inr ⟨(Same.new hD2 _) _ _ upd_same, upd_same⟩, rfl, by show 2 ≤ 10000; decide, fun i x y e1 e2 => ?_⟩, fun H18 s18 => ⟨_, rfl, iteF ?_⟩⟩
    · have e : x = y := Option.some.inj (e1.symm.trans e2)
      subst e
      refine .inl ⟨rfl, ?_⟩
      match i, e1 with
      | 0, e1 => cases e1; trivial
      | 1, e1 => cases e1; trivial
    · exact ⟨_, _, rfl, s14.trans (s15.trans (s16.trans (s17.trans ((Same.new hD1 _).trans ((Same.new hD2 _).trans s18)))))⟩
  · rintro σ H14 ⟨o9, o10, rfl, s14⟩
    have s9_14 := (s10.trans (s11.trans s12)).trans (s13.trans s14)
    exact ⟨_, _, _, _, _, _, _, _, _, ns9, z9, rfl, B9.mono s9_14⟩
end
/-! ### the end -/
theorem gx_mk {K : PySem.W.Frag} {mg : Str → Option Value} {h : Heap} (X : K.In h) (G : h.Ns mainGlobals mg) {u0 : Value} (v0 : PySem.W.nsIn K mainGlobals "SIGNS" = some (some u0)) (r0 : RelV (.str (tx [97, 98, 99, 100])) u0) {u1 : Value} (v1 : PySem.W.nsIn K mainGlobals "POP_STEP" = some (some u1)) (r1 : RelV (.str (tx [45])) u1) {u2 : Value} (v2 : PySem.W.nsIn K mainGlobals "MOST_ROOM" = some (some u2)) (r2 : RelV (.int 9) u2) {u3 : Value} (v3 : PySem.W.nsIn K mainGlobals "MOST_PRICE" = some (some u3)) (r3 : RelV (.int 99) u3) (z0 : PySem.W.nsIn K mainGlobals "isinstance" = some none) (z1 : PySem.W.nsIn K mainGlobals "bool" = some none) (z2 : PySem.W.nsIn K mainGlobals "int" = some none) (z3 : PySem.W.nsIn K mainGlobals "str" = some none) (z4 : PySem.W.nsIn K mainGlobals "tuple" = some none) (z5 : PySem.W.nsIn K mainGlobals "len" = some none) (z6 : PySem.W.nsIn K mainGlobals "all" = some none) (z7 : PySem.W.nsIn K mainGlobals "max" = some none) (z8 : PySem.W.nsIn K mainGlobals "min" = some none) (z9 : PySem.W.nsIn K mainGlobals "range" = some none) (z10 : PySem.W.nsIn K mainGlobals "list" = some none) (z11 : PySem.W.nsIn K mainGlobals "reversed" = some none) (z12 : PySem.W.nsIn K mainGlobals "sum" = some none) (z13 : PySem.W.nsIn K mainGlobals "abs" = some none) : Gx mg :=
  ⟨⟨_, PySem.W.mg_of X G v0, r0⟩, ⟨_, PySem.W.mg_of X G v1, r1⟩, ⟨_, PySem.W.mg_of X G v2, r2⟩, ⟨_, PySem.W.mg_of X G v3, r3⟩, PySem.W.mg_none_of X G z0, PySem.W.mg_none_of X G z1, PySem.W.mg_none_of X G z2, PySem.W.mg_none_of X G z3, PySem.W.mg_none_of X G z4, PySem.W.mg_none_of X G z5, PySem.W.mg_none_of X G z6, PySem.W.mg_none_of X G z7, PySem.W.mg_none_of X G z8, PySem.W.mg_none_of X G z9, PySem.W.mg_none_of X G z10, PySem.W.mg_none_of X G z11, PySem.W.mg_none_of X G z12, PySem.W.mg_none_of X G z13⟩
theorem all_mk {l : PySem.W.OpenLaw} {w : World} {K : PySem.W.Frag} {h : Heap} {mg : Str → Option Value} {fa fL : Addr} (X : K.In h) (G : h.Ns mainGlobals mg) (hfa : mg "law" = some (.ref fa))
    {od an : Option Addr} {sl : Array (Option Value)} {oc kV dc pm cd ct : Value}
    (aL : PySem.W.nsIn K mainGlobals "law" = some (some (.ref fL))) (lL : K.lookup fL = some ⟨oc, od, .func (PySem.W.fnOf "law" "law" (defArgs s_law) (defBody s_law) (defScope s_law) .none kV dc pm an cd ct), sl⟩) (cL : PySem.W.codeIn K cd "law" = true) (kL : PySem.W.keepIn K (.ref fL) = true)
    (g : Gx mg)
    (D_signs_of : Dn K mg "signs_of" s_signs_of P_signs_of)
    (D_is_number : Dn K mg "is_number" s_is_number P_is_number)
    (D_is_text_of : Dn K mg "is_text_of" s_is_text_of P_is_text_of)
    (D_are_prices : Dn K mg "are_prices" s_are_prices P_are_prices)
    (D_check_plan : Dn K mg "check_plan" s_check_plan P_check_plan)
    (D_is_stack : Dn K mg "is_stack" s_is_stack P_is_stack)
    (D_check_stack : Dn K mg "check_stack" s_check_stack P_check_stack)
    (D_check_steps : Dn K mg "check_steps" s_check_steps P_check_steps)
    (D_is_triple : Dn K mg "is_triple" s_is_triple P_is_triple)
    (D_check_triple : Dn K mg "check_triple" s_check_triple P_check_triple)
    (D_without_top : Dn K mg "without_top" s_without_top P_without_top)
    (D_top_of : Dn K mg "top_of" s_top_of P_top_of)
    (D_stack_behind : Dn K mg "stack_behind" s_stack_behind P_stack_behind)
    (D_tidied : Dn K mg "tidied" s_tidied P_tidied)
    (D_untouched : Dn K mg "untouched" s_untouched P_untouched)
    (D_join_triples : Dn K mg "join_triples" s_join_triples P_join_triples)
    (D_triple_of_step : Dn K mg "triple_of_step" s_triple_of_step P_triple_of_step)
    (D_triple_of_steps : Dn K mg "triple_of_steps" s_triple_of_steps P_triple_of_steps)
    (D_told_of_steps : Dn K mg "told_of_steps" s_told_of_steps P_told_of_steps)
    (D_done : Dn K mg "done" s_done P_done)
    (D_law_take : Dn K mg "_law_take" s_law_take P_law_take)
    (D_law_begun : Dn K mg "_law_begun" s_law_begun P_law_begun)
    (D_law_step : Dn K mg "_law_step" s_law_step P_law_step)
    (D_law_gone : Dn K mg "_law_gone" s_law_gone P_law_gone)
    (D_law_by : Dn K mg "_law_by" s_law_by P_law_by)
    (D_law_plan : Dn K mg "_law_plan" s_law_plan P_law_plan)
    (D_law_steps : Dn K mg "_law_steps" s_law_steps P_law_steps)
    (D_law_alike : Dn K mg "_law_alike" s_law_alike P_law_alike)
    (D_law_stacks : Dn K mg "_law_stacks" s_law_stacks P_law_stacks) :
    ∃ fd : FuncData, (∀ (s : Shared) (v : Value), BindsTo s fd ⟨[v], []⟩ [("_law_script", v)]) ∧ ∀ base : Heap, K.In base → base.Ns mainGlobals mg → FnOk l.prog w K mg base CX0 5 fa fd ["_law_script"] (spLaw K) := by
  have e := hfa.symm.trans (PySem.W.mg_of X G aL)
  cases e
  have F := fun_mk (st := s_law) lL cL kL
  refine ⟨PySem.W.fnOf "law" "law" (defArgs s_law) (defBody s_law) (defScope s_law) .none kV dc pm an cd ct, fun s v => .of_eq rfl, fun base _ _ => ?_⟩
  have c_signs_of := ok_signs_of (P := l.prog) (w := w) (base := base) D_signs_of g
  have c_is_number := ok_is_number (P := l.prog) (w := w) (base := base) D_is_number g
  have c_is_text_of := ok_is_text_of (P := l.prog) (w := w) (base := base) D_is_text_of g
  have c_are_prices := ok_are_prices (P := l.prog) (w := w) (base := base) D_are_prices g c_is_number
  have c_check_plan := ok_check_plan (P := l.prog) (w := w) (base := base) D_check_plan g c_is_number c_are_prices
  have c_is_stack := ok_is_stack (P := l.prog) (w := w) (base := base) D_is_stack g c_signs_of c_is_text_of
  have c_check_stack := ok_check_stack (P := l.prog) (w := w) (base := base) D_check_stack g c_is_stack
  have c_check_steps := ok_check_steps (P := l.prog) (w := w) (base := base) D_check_steps g c_signs_of c_is_text_of
  have c_is_triple := ok_is_triple (P := l.prog) (w := w) (base := base) D_is_triple g c_is_number c_signs_of c_is_text_of
  have c_check_triple := ok_check_triple (P := l.prog) (w := w) (base := base) D_check_triple g c_is_triple
  have c_without_top := ok_without_top (P := l.prog) (w := w) (base := base) D_without_top g
  have c_top_of := ok_top_of (P := l.prog) (w := w) (base := base) D_top_of g
  have c_stack_behind := ok_stack_behind (P := l.prog) (w := w) (base := base) D_stack_behind g c_without_top c_top_of
  have c_tidied := ok_tidied (P := l.prog) (w := w) (base := base) D_tidied g
  have c_untouched := ok_untouched (P := l.prog) (w := w) (base := base) D_untouched g
  have c_join_triples := ok_join_triples (P := l.prog) (w := w) (base := base) D_join_triples g c_without_top c_top_of c_tidied
  have c_triple_of_step := ok_triple_of_step (P := l.prog) (w := w) (base := base) D_triple_of_step g c_tidied
  have c_triple_of_steps := ok_triple_of_steps (P := l.prog) (w := w) (base := base) D_triple_of_steps g c_untouched c_triple_of_step c_join_triples
  have c_told_of_steps := ok_told_of_steps (P := l.prog) (w := w) (base := base) D_told_of_steps g c_check_plan c_check_steps c_triple_of_steps
  have c_done := ok_done (P := l.prog) (w := w) (base := base) D_done g c_check_plan c_check_triple c_check_stack c_stack_behind
  have c_law_take := ok_law_take (P := l.prog) (w := w) (base := base) D_law_take g
  have c_law_begun := ok_law_begun (P := l.prog) (w := w) (base := base) D_law_begun g
  have c_law_step := ok_law_step (P := l.prog) (w := w) (base := base) D_law_step g
  have c_law_gone := ok_law_gone (P := l.prog) (w := w) (base := base) D_law_gone g c_law_step
  have c_law_by := ok_law_by (P := l.prog) (w := w) (base := base) D_law_by g
  have c_law_plan := ok_law_plan (P := l.prog) (w := w) (base := base) D_law_plan g c_law_take
  have c_law_steps := ok_law_steps (P := l.prog) (w := w) (base := base) D_law_steps g c_law_take
  have c_law_alike := ok_law_alike (P := l.prog) (w := w) (base := base) D_law_alike g 2
  have c_law_stacks := ok_law_stacks (P := l.prog) (w := w) (base := base) D_law_stacks g
  exact ok_law F g c_law_begun c_law_take c_law_plan c_law_steps c_told_of_steps c_law_alike c_law_stacks c_law_gone c_done c_law_by
theorem walk {l : PySem.W.OpenLaw} {q : Program} {loose : List Str} {XP : (Str → Option Value) → Heap → Prop} {YP : World → Heap → Prop} {d : DefRec} {K : Params → PySem.W.Frag} (hn : l.most = some 63) (hdf : d.params.defaults = [])
    (hY : ∀ (w : World) (h : Heap), YP w h → (K w.params).In h)
    (F : ∀ (w : World) (mg : Str → Option Value) (fa : Addr) (h : Heap), (K w.params).In h → h.Ns mainGlobals mg → mg d.name = some (.ref fa) →
      ∃ fd : FuncData, (∀ (s : Shared) (u : Value), BindsTo s fd ⟨[u], []⟩ [("_law_script", u)]) ∧ ∀ base : Heap, (K w.params).In base → base.Ns mainGlobals mg → FnOk l.prog w (K w.params) mg base CX0 5 fa fd ["_law_script"] (spLaw (K w.params))) :
    PySem.W.WalkO q loose XP YP l.row.toRowW d [] (fun f vs => PySem.call f vs) :=
  L2.walk_of (n := 63) (k := 5) (x := "_law_script") (CX := fun _ => CX0) (sp := fun w => spLaw (K w.params)) hn (by decide) hdf ⟨rfl, by decide, by decide⟩ hY F (fun _ _ a ns hl _ hS => ⟨a, ns, rfl, hS, hl, fun _ => rfl⟩) fun _ _ _ _ _ z => z
end SK
open PySem PySem.W PyProof.Rows
set_option maxRecDepth 100000 in
set_option maxHeartbeats 0 in
theorem PySem.Challenge.cw_sinkstack_k01_steps_are_triples_holds : PySem.Challenge.rw_sinkstack_k01_steps_are_triples.Holds := by
  w_on; o_law; k_head; (case hw => w_witness2)
  k_fill
  refine SK.walk (l := PySem.Challenge.rw_sinkstack_k01_steps_are_triples) rfl rfl (fun w h Y => PySem.W.kIn_of Y) ?F
  case F =>
    intro w mg fa h KX G hmg
    refine' SK.all_mk KX G hmg ?aL ?lL ?cL ?kL (SK.gx_mk KX G ?v0 ?r0 ?v1 ?r1 ?v2 ?r2 ?v3 ?r3 ?z0 ?z1 ?z2 ?z3 ?z4 ?z5 ?z6 ?z7 ?z8 ?z9 ?z10 ?z11 ?z12 ?z13)
      (SK.dn_mk KX G ?a0 ?l0 ?c0 ?k0 (fun _ _ _ _ _ _ us hl => match us, hl with | [_], _ => rfl))
      (SK.dn_mk KX G ?a1 ?l1 ?c1 ?k1 (fun _ _ _ _ _ _ us hl => match us, hl with | [_, _, _], _ => rfl))
      (SK.dn_mk KX G ?a2 ?l2 ?c2 ?k2 (fun _ _ _ _ _ _ us hl => match us, hl with | [_, _], _ => rfl))
      (SK.dn_mk KX G ?a3 ?l3 ?c3 ?k3 (fun _ _ _ _ _ _ us hl => match us, hl with | [_, _], _ => rfl))
      (SK.dn_mk KX G ?a4 ?l4 ?c4 ?k4 (fun _ _ _ _ _ _ us hl => match us, hl with | [_], _ => rfl))
      (SK.dn_mk KX G ?a5 ?l5 ?c5 ?k5 (fun _ _ _ _ _ _ us hl => match us, hl with | [_, _], _ => rfl))
      (SK.dn_mk KX G ?a6 ?l6 ?c6 ?k6 (fun _ _ _ _ _ _ us hl => match us, hl with | [_, _], _ => rfl))
      (SK.dn_mk KX G ?a7 ?l7 ?c7 ?k7 (fun _ _ _ _ _ _ us hl => match us, hl with | [_, _], _ => rfl))
      (SK.dn_mk KX G ?a8 ?l8 ?c8 ?k8 (fun _ _ _ _ _ _ us hl => match us, hl with | [_, _], _ => rfl))
      (SK.dn_mk KX G ?a9 ?l9 ?c9 ?k9 (fun _ _ _ _ _ _ us hl => match us, hl with | [_, _], _ => rfl))
      (SK.dn_mk KX G ?a10 ?l10 ?c10 ?k10 (fun _ _ _ _ _ _ us hl => match us, hl with | [_, _], _ => rfl))
      (SK.dn_mk KX G ?a11 ?l11 ?c11 ?k11 (fun _ _ _ _ _ _ us hl => match us, hl with | [_, _], _ => rfl))
      (SK.dn_mk KX G ?a12 ?l12 ?c12 ?k12 (fun _ _ _ _ _ _ us hl => match us, hl with | [_, _], _ => rfl))
      (SK.dn_mk KX G ?a13 ?l13 ?c13 ?k13 (fun _ _ _ _ _ _ us hl => match us, hl with | [_, _, _], _ => rfl))
      (SK.dn_mk KX G ?a14 ?l14 ?c14 ?k14 (fun _ _ _ _ _ _ us hl => match us, hl with | [_], _ => rfl))
      (SK.dn_mk KX G ?a15 ?l15 ?c15 ?k15 (fun _ _ _ _ _ _ us hl => match us, hl with | [_, _], _ => rfl))
      (SK.dn_mk KX G ?a16 ?l16 ?c16 ?k16 (fun _ _ _ _ _ _ us hl => match us, hl with | [_, _], _ => rfl))
      (SK.dn_mk KX G ?a17 ?l17 ?c17 ?k17 (fun _ _ _ _ _ _ us hl => match us, hl with | [_, _], _ => rfl))
      (SK.dn_mk KX G ?a18 ?l18 ?c18 ?k18 (fun _ _ _ _ _ _ us hl => match us, hl with | [_, _], _ => rfl))
      (SK.dn_mk KX G ?a19 ?l19 ?c19 ?k19 (fun _ _ _ _ _ _ us hl => match us, hl with | [_, _, _], _ => rfl))
      (SK.dn_mk KX G ?a20 ?l20 ?c20 ?k20 (fun _ _ _ _ _ _ us hl => match us, hl with | [_, _], _ => rfl))
      (SK.dn_mk KX G ?a21 ?l21 ?c21 ?k21 (fun _ _ _ _ _ _ us hl => match us, hl with | [_], _ => rfl))
      (SK.dn_mk KX G ?a22 ?l22 ?c22 ?k22 (fun _ _ _ _ _ _ us hl => match us, hl with | [_, _, _], _ => rfl))
      (SK.dn_mk KX G ?a23 ?l23 ?c23 ?k23 (fun _ _ _ _ _ _ us hl => match us, hl with | [_, _, _], _ => rfl))
      (SK.dn_mk KX G ?a24 ?l24 ?c24 ?k24 (fun _ _ _ _ _ _ us hl => match us, hl with | [_, _], _ => rfl))
      (SK.dn_mk KX G ?a25 ?l25 ?c25 ?k25 (fun _ _ _ _ _ _ us hl => match us, hl with | [_, _, _], _ => rfl))
      (SK.dn_mk KX G ?a26 ?l26 ?c26 ?k26 (fun _ _ _ _ _ _ us hl => match us, hl with | [_, _, _], _ => rfl))
      (SK.dn_mk KX G ?a27 ?l27 ?c27 ?k27 (fun _ _ _ _ _ _ us hl => match us, hl with | [_, _], _ => rfl))
      (SK.dn_mk KX G ?a28 ?l28 ?c28 ?k28 (fun _ _ _ _ _ _ us hl => match us, hl with | [_], _ => rfl))
    (case aL => k_is); (case lL => k_is); (case cL => k_is); (case kL => k_is)
    (case v0 => k_is); (case r0 => exact ⟨_, rfl⟩)
    (case v1 => k_is); (case r1 => exact ⟨_, rfl⟩)
    (case v2 => k_is); (case r2 => exact ⟨_, rfl⟩)
    (case v3 => k_is); (case r3 => exact ⟨_, rfl⟩)
    (case z0 => k_is)
    (case z1 => k_is)
    (case z2 => k_is)
    (case z3 => k_is)
    (case z4 => k_is)
    (case z5 => k_is)
    (case z6 => k_is)
    (case z7 => k_is)
    (case z8 => k_is)
    (case z9 => k_is)
    (case z10 => k_is)
    (case z11 => k_is)
    (case z12 => k_is)
    (case z13 => k_is)
    (case a0 => k_is); (case l0 => k_is); (case c0 => k_is); (case k0 => k_is)
    (case a1 => k_is); (case l1 => k_is); (case c1 => k_is); (case k1 => k_is)
    (case a2 => k_is); (case l2 => k_is); (case c2 => k_is); (case k2 => k_is)
    (case a3 => k_is); (case l3 => k_is); (case c3 => k_is); (case k3 => k_is)
    (case a4 => k_is); (case l4 => k_is); (case c4 => k_is); (case k4 => k_is)
    (case a5 => k_is); (case l5 => k_is); (case c5 => k_is); (case k5 => k_is)
    (case a6 => k_is); (case l6 => k_is); (case c6 => k_is); (case k6 => k_is)
    (case a7 => k_is); (case l7 => k_is); (case c7 => k_is); (case k7 => k_is)
    (case a8 => k_is); (case l8 => k_is); (case c8 => k_is); (case k8 => k_is)
    (case a9 => k_is); (case l9 => k_is); (case c9 => k_is); (case k9 => k_is)
    (case a10 => k_is); (case l10 => k_is); (case c10 => k_is); (case k10 => k_is)
    (case a11 => k_is); (case l11 => k_is); (case c11 => k_is); (case k11 => k_is)
    (case a12 => k_is); (case l12 => k_is); (case c12 => k_is); (case k12 => k_is)
    (case a13 => k_is); (case l13 => k_is); (case c13 => k_is); (case k13 => k_is)
    (case a14 => k_is); (case l14 => k_is); (case c14 => k_is); (case k14 => k_is)
    (case a15 => k_is); (case l15 => k_is); (case c15 => k_is); (case k15 => k_is)
    (case a16 => k_is); (case l16 => k_is); (case c16 => k_is); (case k16 => k_is)
    (case a17 => k_is); (case l17 => k_is); (case c17 => k_is); (case k17 => k_is)
    (case a18 => k_is); (case l18 => k_is); (case c18 => k_is); (case k18 => k_is)
    (case a19 => k_is); (case l19 => k_is); (case c19 => k_is); (case k19 => k_is)
    (case a20 => k_is); (case l20 => k_is); (case c20 => k_is); (case k20 => k_is)
    (case a21 => k_is); (case l21 => k_is); (case c21 => k_is); (case k21 => k_is)
    (case a22 => k_is); (case l22 => k_is); (case c22 => k_is); (case k22 => k_is)
    (case a23 => k_is); (case l23 => k_is); (case c23 => k_is); (case k23 => k_is)
    (case a24 => k_is); (case l24 => k_is); (case c24 => k_is); (case k24 => k_is)
    (case a25 => k_is); (case l25 => k_is); (case c25 => k_is); (case k25 => k_is)
    (case a26 => k_is); (case l26 => k_is); (case c26 => k_is); (case k26 => k_is)
    (case a27 => k_is); (case l27 => k_is); (case c27 => k_is); (case k27 => k_is)
    (case a28 => k_is); (case l28 => k_is); (case c28 => k_is); (case k28 => k_is)
