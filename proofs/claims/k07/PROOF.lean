import PyProof.Rows.All
import Wide.All
import OpenK.AllK
import Wide.FinOn
import HandS.Base
import HandS.Call
import HandS.List
import HandS.Comp
import HandS.Ends
import HandS.Iter
import HandS.Text
import HandS.Words
import HandS.WordsList
import HandS.Codes
import HandS.IsInst
import HandS.Walk
import HandS.TupAny
import HandS.Wide
import HandS.Rev
import HandS.Replace
import HandS.Style
import HandS.TupLe
import PySem.Challenge.RW_sinkstack_k07_befores
set_option Elab.async false
set_option linter.all false
set_option maxRecDepth 100000
set_option maxHeartbeats 4000000
/-! the mathematics of triples, over lists of numbers -/
namespace SK
def tp (k : Nat) (l : List Nat) : List Nat := l.drop (l.length - k)
def ct (g : Nat) (l : List Nat) : List Nat := l.take (l.length - g)
structure Tr where
  g : Nat
  k : Nat
  l : List Nat
def tby (t : Tr) (x : List Nat) : List Nat := tp t.k (ct t.g x) ++ t.l
def tidy (g k : Nat) (l : List Nat) : Tr := if k = 0 then ⟨0, 0, l⟩ else ⟨g, k, l⟩
def tjoin (t u : Tr) : Tr := tidy (t.g + (u.g - t.l.length)) (min (t.k - (u.g - t.l.length)) (u.k - (ct u.g t.l).length)) (tp u.k (ct u.g t.l) ++ u.l)
def tstep (room c : Nat) : Tr := if c = 45 then tidy 1 (room - 1) [] else ⟨0, room - 1, [c]⟩
def tunt (room : Nat) : Tr := ⟨0, room, []⟩
def ttold (room : Nat) (s : List Nat) : Tr := s.foldl (fun t c => tjoin t (tstep room c)) (tunt room)
def step (room : Nat) (x : List Nat) (c : Nat) : List Nat := if c = 45 then ct 1 x else tp room (x ++ [c])
def gone (room : Nat) (x : List Nat) (s : List Nat) : List Nat := s.foldl (step room) x
def signs (n : Nat) : List Nat := [97, 98, 99, 100].take n
structure TrOk (room many : Nat) (t : Tr) : Prop where
  gk : t.g + t.k ≤ room
  kl : t.k + t.l.length ≤ room
  z : t.k = 0 → t.g = 0
  s : ∀ c ∈ t.l, c ∈ signs many
theorem len_tp (k : Nat) (l : List Nat) : (tp k l).length = min k l.length := by
  unfold tp
  rw [List.length_drop]
  omega
theorem len_ct (g : Nat) (l : List Nat) : (ct g l).length = l.length - g := by
  unfold ct
  rw [List.length_take]
  omega
theorem tp_all {k : Nat} {l : List Nat} (h : l.length ≤ k) : tp k l = l := by
  unfold tp
  rw [Nat.sub_eq_zero_of_le h, List.drop_zero]
theorem tp_zero (l : List Nat) : tp 0 l = [] := by
  unfold tp
  rw [Nat.sub_zero, List.drop_length]
theorem ct_zero (l : List Nat) : ct 0 l = l := by
  unfold ct
  rw [Nat.sub_zero, List.take_length]
theorem ct_all {g : Nat} {l : List Nat} (h : l.length ≤ g) : ct g l = [] := by
  unfold ct
  rw [Nat.sub_eq_zero_of_le h, List.take_zero]
theorem tp_tp (a b : Nat) (l : List Nat) : tp a (tp b l) = tp (min a b) l := by
  unfold tp
  rw [List.drop_drop, List.length_drop]
  congr 1
  omega
theorem ct_ct (a b : Nat) (l : List Nat) : ct a (ct b l) = ct (b + a) l := by
  unfold ct
  rw [List.take_take, List.length_take]
  congr 1
  omega
theorem ct_tp (d k : Nat) (l : List Nat) : ct d (tp k l) = tp (k - d) (ct d l) := by
  unfold ct tp
  rw [List.length_drop, List.length_take, List.drop_take]
  by_cases h : l.length ≤ k
  · have e1 : l.length - k = 0 := by omega
    have e2 : min (l.length - d) l.length - (k - d) = 0 := by omega
    rw [e1, e2, List.drop_zero, Nat.sub_zero, Nat.sub_zero]
  · by_cases h2 : d ≤ k
    · have e2 : min (l.length - d) l.length - (k - d) = l.length - k := by omega
      rw [e2]
      congr 1
      omega
    · have e1 : l.length - (l.length - k) - d = 0 := by omega
      have e2 : l.length - d - (min (l.length - d) l.length - (k - d)) = 0 := by omega
      rw [e1, e2, List.take_zero, List.take_zero]
theorem ct_app_le {g : Nat} {a b : List Nat} (h : g ≤ b.length) : ct g (a ++ b) = a ++ ct g b := by
  unfold ct
  rw [List.length_append, List.take_append]
  have e1 : a.length + b.length - g - a.length = b.length - g := by omega
  rw [e1, List.take_of_length_le (by omega)]
theorem ct_app_ge {g : Nat} {a b : List Nat} (h : b.length ≤ g) : ct g (a ++ b) = ct (g - b.length) a := by
  unfold ct
  rw [List.length_append, List.take_append]
  have e1 : a.length + b.length - g - a.length = 0 := by omega
  rw [e1, List.take_zero, List.append_nil]
  congr 1
  omega
theorem tp_app (k : Nat) (a b : List Nat) : tp k (a ++ b) = tp (k - b.length) a ++ tp k b := by
  unfold tp
  rw [List.length_append, List.drop_append]
  have e1 : a.length + b.length - k - a.length = b.length - k := by omega
  by_cases h : b.length ≤ k
  · have e2 : a.length + b.length - k = a.length - (k - b.length) := by omega
    rw [e1, e2]
  · have e2 : a.length ≤ a.length + b.length - k := by omega
    have e3 : a.length - (k - b.length) = a.length := by omega
    rw [e1, e3, List.drop_eq_nil_of_le e2, List.drop_length]
theorem tby_tidy (g k : Nat) (l x : List Nat) : tby (tidy g k l) x = tby ⟨g, k, l⟩ x := by
  unfold tidy
  by_cases h : k = 0
  · rw [if_pos h]
    subst h
    simp only [tby, tp_zero]
  · rw [if_neg h]
theorem tby_join (t u : Tr) (x : List Nat) : tby (tjoin t u) x = tby u (tby t x) := by
  unfold tjoin
  rw [tby_tidy]
  simp only [tby]
  by_cases h : u.g ≤ t.l.length
  · have e : u.g - t.l.length = 0 := by omega
    rw [ct_app_le h, tp_app, tp_tp, e, Nat.add_zero, Nat.sub_zero, Nat.min_comm, List.append_assoc]
  · have h' : t.l.length ≤ u.g := by omega
    have e : ct u.g t.l = [] := ct_all h'
    rw [ct_app_ge h', e, ct_tp, ct_ct, tp_tp]
    simp only [List.length_nil, Nat.sub_zero]
    rw [tp_all (l := []) (by simp), List.nil_append, Nat.min_comm]
theorem tidy_ok {room many g k : Nat} {l : List Nat} (h1 : 0 < k → g + k ≤ room) (h2 : k + l.length ≤ room) (h3 : ∀ c ∈ l, c ∈ signs many) : TrOk room many (tidy g k l) := by
  unfold tidy
  by_cases h : k = 0
  · rw [if_pos h]
    exact ⟨by simp, by subst h; simpa using h2, fun _ => rfl, h3⟩
  · rw [if_neg h]
    exact ⟨h1 (by omega), h2, fun z => absurd z h, h3⟩
theorem mem_tp {k c : Nat} {l : List Nat} (h : c ∈ tp k l) : c ∈ l := List.mem_of_mem_drop h
theorem mem_ct {k c : Nat} {l : List Nat} (h : c ∈ ct k l) : c ∈ l := List.mem_of_mem_take h
theorem tjoin_ok {room many : Nat} {t u : Tr} (a : TrOk room many t) (b : TrOk room many u) : TrOk room many (tjoin t u) := by
  have := a.gk
  have := a.kl
  have := b.gk
  have := b.kl
  unfold tjoin
  refine tidy_ok (fun h => ?_) ?_ fun c hc => ?_
  · omega
  · rw [List.length_append, len_tp]
    omega
  · rcases List.mem_append.mp hc with h | h
    · exact a.s c (mem_ct (mem_tp h))
    · exact b.s c h
theorem tunt_ok {room many : Nat} : TrOk room many (tunt room) := ⟨by simp [tunt], by simp [tunt], fun _ => rfl, fun c h => by simp [tunt] at h⟩
theorem tstep_ok {room many c : Nat} (hr : 1 ≤ room) (hc : c = 45 ∨ c ∈ signs many) : TrOk room many (tstep room c) := by
  unfold tstep
  by_cases h : c = 45
  · rw [if_pos h]
    exact tidy_ok (fun _ => by omega) (by simp) fun c h => by simp at h
  · rw [if_neg h]
    refine ⟨by simp, by simp; omega, fun _ => rfl, fun d hd => ?_⟩
    have e : d = c := by simpa using hd
    subst e
    exact hc.resolve_left h
theorem ttold_ok {room many : Nat} (hr : 1 ≤ room) : ∀ (s : List Nat) (t : Tr), TrOk room many t → (∀ c ∈ s, c = 45 ∨ c ∈ signs many) → TrOk room many (s.foldl (fun t c => tjoin t (tstep room c)) t)
  | [], _, h, _ => h
  | c :: r, t, h, hs => ttold_ok hr r _ (tjoin_ok h (tstep_ok hr (hs c (List.mem_cons_self ..)))) fun d hd => hs d (List.mem_cons_of_mem _ hd)
theorem tby_step {room c : Nat} {x : List Nat} (hr : 1 ≤ room) (hx : x.length ≤ room) : tby (tstep room c) x = step room x c := by
  unfold tstep step
  by_cases h : c = 45
  · rw [if_pos h, if_pos h, tby_tidy]
    simp only [tby, List.append_nil]
    exact tp_all (by rw [len_ct]; omega)
  · rw [if_neg h, if_neg h, tp_app]
    simp only [tby, ct_zero, List.length_singleton]
    congr 1
    exact (tp_all (by simpa using hr)).symm
theorem step_len {room c : Nat} {x : List Nat} (hx : x.length ≤ room) : (step room x c).length ≤ room := by
  unfold step
  by_cases h : c = 45
  · rw [if_pos h, len_ct]
    omega
  · rw [if_neg h, len_tp]
    omega
theorem gone_len {room : Nat} : ∀ (s x : List Nat), x.length ≤ room → (gone room x s).length ≤ room
  | [], _, h => h
  | c :: r, x, h => gone_len r (step room x c) (step_len h)
theorem tby_fold {room : Nat} (hr : 1 ≤ room) : ∀ (s : List Nat) (t : Tr) (x y : List Nat), (tby t x).length ≤ room → tby (s.foldl (fun t c => tjoin t (tstep room c)) t) x = gone room (tby t x) s
  | [], _, _, _, _ => rfl
  | c :: r, t, x, y, h => by
    have e := tby_fold hr r (tjoin t (tstep room c)) x y (by rw [tby_join, tby_step hr h]; exact step_len h)
    rw [tby_join, tby_step hr h] at e
    exact e
theorem tby_unt {room : Nat} {x : List Nat} (hx : x.length ≤ room) : tby (tunt room) x = x := by
  simp only [tby, tunt, ct_zero, List.append_nil]
  exact tp_all hx
theorem tby_told {room : Nat} (hr : 1 ≤ room) (s : List Nat) {x : List Nat} (hx : x.length ≤ room) : tby (ttold room s) x = gone room x s := by
  have e := tby_fold hr s (tunt room) x [] (by rw [tby_unt hx]; exact hx)
  rw [tby_unt hx] at e
  exact e
end SK
namespace SK
open PySem PySem.Spec PyProof.Rows L2
/-! ### tuples whose object is known to have no dict -/
/-- a tuple, its object plain -/
def TupF (H : Hp) (a : Addr) (xs : List V) : Prop := ∃ ob : Obj, ob.dict = none ∧ H a = some (.frz ob (.tup xs))
theorem TupF.sq {K : PySem.W.Frag} {H : Hp} {a : Addr} {xs : List V} (h : TupF H a xs) : SqT K H a xs := by
  obtain ⟨ob, _, e⟩ := h
  exact .inl (.inr ⟨ob, e⟩)
section
variable {X : Cx} {es : List Expr} {t : TA} {pos cpos apos : Pos}
def tTupF (t : TA) : TE := fun σ H Q => t σ H fun xs H1 => xs.length ≤ sizeLine ∧ ∀ (p : Addr) (ob : Obj), ob.dict = none → H1 p = none → Q (.ref p) (upd H1 p (.frz ob (.tup xs)))
theorem tupF_ok {P : Program} {w : World} {H : Hp} {h : Heap} {us : List Value} {xs : List V} (r : Vals xs us) (z : xs.length ≤ sizeLine) : ObjOk P w H (h.push { cls := .type "tuple", data := .seq us.toArray }) h.objs.size (.frz { cls := .type "tuple", data := .seq us.toArray } (.tup xs)) :=
  ⟨Heap.get?_push_size _ rfl, z, us, r, ⟨_, Heap.get?_push_size _ rfl, rfl, _, rfl⟩⟩
theorem pe_tupF {x1} (h : PA X es t) : PE X (.Tuple es x1 pos) (tTupF t) := by
  refine ⟨fun pins s σ H Q I hq => ?_⟩
  refine wpAny_Tuple_spliced (thn (h.run pos pins s σ H _ I hq) fun us s1 ⟨xs, H1, I1, r, z, q⟩ => ⟨by rw [← r.length]; exact z, ?_⟩)
  have hf : H1 s1.heap.objs.size = none := I1.hok.fresh (Nat.le_refl _)
  exact ⟨.ref s1.heap.objs.size, upd H1 s1.heap.objs.size (.frz { cls := .type "tuple", data := .seq us.toArray } (.tup xs)), I1.laid (t' := s1.toks) (fun b u e => Heap.get?_push_of_some _ e) (Nat.le_refl _) (tupF_ok r z), rfl, q _ _ rfl hf⟩
theorem call_tupleF : CallR X (.type "tuple") (fun xs H Q => ∃ p ys, xs = [.ref p] ∧ SqL X.K H p ys ∧ ∀ (l : Addr) (ob : Obj), ob.dict = none → H l = none → Q (.ref l) (upd H l (.frz ob (.tup ys)))) := by
  intro pins s σ H xs us Q I r h
  obtain ⟨p, ys, rfl, hq, q⟩ := h
  obtain ⟨u, rfl, rx⟩ := vals1 r
  cases rx
  obtain ⟨its, r', pl, hz⟩ := I.list hq
  have hlen := r'.length
  refine call_tuple_list pl.isList (fun h' kp => ?_) (by simp only [List.size_toArray] <;> omega)
  have I1 : Inv X pins σ H { s with heap := h' } := I.kept (t' := s.toks) kp
  have I2 : Inv X pins σ (upd H h'.objs.size (.frz { cls := .type "tuple", data := .seq its.toArray } (.tup ys))) { s with heap := h'.push { cls := .type "tuple", data := .seq its.toArray } } :=
    I1.laid (t' := s.toks) (fun b o e => Heap.get?_push_of_some _ e) (Nat.le_refl _) (tupF_ok r' hz)
  exact ⟨.ref h'.objs.size, _, I2, rfl, q _ _ rfl (I1.hok.fresh (Nat.le_refl _))⟩
/-- t + u, t not empty -/
def rCatF (K : PySem.W.Frag) : R2 := fun x y H Q => ∃ a b xs ys, x = .ref a ∧ y = .ref b ∧ SqT K H a xs ∧ SqT K H b ys ∧ xs ≠ [] ∧ xs.length + ys.length ≤ sizeLine ∧
  (ys = [] → Q (.ref a) H) ∧ (ys ≠ [] → ∀ (p : Addr) (ob : Obj), ob.dict = none → H p = none → Q (.ref p) (upd H p (.frz ob (.tup (xs ++ ys)))))
theorem op_catF : OpR X (binaryOp .Add) (rCatF X.K) := by
  intro pins s σ H x y v u Q I rx ry h
  obtain ⟨a, b, xs, ys, rfl, rfl, ha, hb, hx, hz, q1, q2⟩ := h
  cases rx
  cases ry
  obtain ⟨its, r1, p1, _⟩ := I.tuple ha
  obtain ⟨its2, r2, p2, _⟩ := I.tuple hb
  refine HT.cat_tup p1 p2 (fun z => hx (r1.nil_iff.mp z)) (fun z => ⟨.ref a, H, I, rfl, q1 (r2.nil_iff.mp z)⟩) (fun z => ?_) (by rw [← r1.length, ← r2.length]; exact hz)
  exact ⟨.ref s.heap.objs.size, _, I.laid (t' := s.toks) (fun b ob q => Heap.get?_push_of_some _ q) (Nat.le_refl _) (tupF_ok (r1.append r2) (by rw [List.length_append]; exact hz)), rfl, q2 (fun w => z (r2.nil_iff.mpr w)) _ _ rfl (I.hok.fresh (Nat.le_refl _))⟩
/-- a method of such a tuple -/
def tBMT (r : V → List V → Hp → VK → Prop) (to : TE) (t : TA) : TE := fun σ H Q => to σ H fun x H1 => (∃ a xs, x = .ref a ∧ TupF H1 a xs) ∧ t σ H1 fun vs H2 => r x vs H2 Q
theorem pe_bmT {name : Str} {id : String} {o e : Expr} {to : TE} {r : V → List V → Hp → VK → Prop} (pa : PlainAttrs "tuple") (slot : Slot "tuple" name id) (hty : typeOf (.builtin id) = pure (.type "method_descriptor")) (hm : MtR X id r) (ho : PE X o to) (ha : PA X (e :: es) t)
    (hbase : attributeBase o name X.env (eval o X.env) = eval o X.env := by rfl)
    (hfew : ((backTo cpos (starEach (e :: es) X.env)).all (fun x => !x.1) && (backToKw cpos (keywordEach [] X.env)).all (fun x => x.1.isSome)
      && decide ((e :: es).length + ([] : List Keyword).length + (if ([] : List Keyword).isEmpty then 0 else 1) < 30)) = true := by rfl)
    (hline : (apos.endLine == cpos.line) = true := by rfl) (hs : starEach (e :: es) X.env = (false, eval e X.env) :: starEach es X.env := by rfl) (hplain : (backTo cpos (starEach es X.env)).any (·.1) = false := by rfl) :
    PE X (.Call (.Attribute o name apos) (e :: es) [] cpos) (tBMT r to t) := by
  refine ⟨fun pins s σ H Q I h => ?_⟩
  refine wpAny_Call_method_late hbase hfew hline rfl (thn (ho.run pins s σ H _ I h) fun v s1 ⟨x, H1, I1, r1, ty, q1⟩ => ?_)
  obtain ⟨a, xs, rfl, ob, hd, hH⟩ := ty
  cases r1
  obtain ⟨hob, hz, its, rv, hit⟩ := I1.hok a _ hH
  obtain ⟨o', ho', hc, _⟩ := hit
  rw [hob] at ho'
  cases ho'
  refine ⟨"tuple", id, pa, slot, hty, ⟨ob, hob, hc⟩, fun b e => ?_, ?_⟩
  · cases e
    exact ⟨ob, hob, hd⟩
  have hA := ha.run cpos pins s1 σ H1 _ I1 q1
  rw [hs] at hA ⊢
  refine Calls.callWith_builtin (by show (false || (backTo cpos (starEach es X.env)).any (·.1)) = false; rw [hplain] <;> rfl) (Calls.evalArgs_plain ?_)
  exact thn hA fun us s2 ⟨vs, H2, I2, r2, q2⟩ => hm pins s2 σ H2 (.ref a) vs (.ref a) us Q I2 rfl r2 q2
end
end SK
namespace SK
open PySem PySem.Spec PyProof.Rows L2
/-! ### a def of the module, by its name -/
structure Dn (K : PySem.W.Frag) (mg : Str → Option Value) (x : Str) (st : Stmt) (ps : List Str) : Prop where
  ex : ∃ (f : Addr) (fd : FuncData), L2.Fun K x x st f fd ∧ mg x = some (.ref f) ∧ Binds K fd ps []
abbrev Cal := @C8.Cal
section
variable {P : Program} {w : World} {K : PySem.W.Frag} {mg : Str → Option Value} {base : Heap}
theorem Dn.cal {x : Str} {st : Stmt} {N ps : List Str} {k : Nat} {sp : Sp} (D : Dn K mg x st ps) (S : FnScope N ps (defScope st)) (len : ∀ vs H Q E, sp vs H Q E → vs.length = ps.length)
    (hbody : ∀ (f : Addr) (cdv : Value) (A : Around) (outer : List Env) (s : Shared) (H : Hp) (vs : List V) (Q : VK) (E : XK), Room k (A.deeper (envOfC x (defScope st) s.heap.objs.size f cdv)) → sp vs H Q E →
      ∃ t, PSs (cxOf CX0 P w K mg base N x (defScope st) f cdv A outer s H E).nox (defBody st) t ∧ t { nx := fun _ H' => Q .non H', rt := Q } (start N vs) H) : C8.Cal P w K mg base (k + 1) x sp [] := by
  obtain ⟨f, fd, F, hm, b⟩ := D.ex
  exact ⟨f, fd, ps, [], F.ok S len (fun cdv A outer s H vs Q E => hbody f cdv A outer s H vs Q E), hm, F.kp, b, .nil⟩
theorem dn_mk {x : Str} {st : Stmt} {ps : List Str} {h : Heap} {f : Addr} {oc : Value} {od an : Option Addr} {osl : Array (Option Value)} {kV doc pm cd ct : Value} (X : K.In h) (G : h.Ns mainGlobals mg)
    (a : PySem.W.nsIn K mainGlobals x = some (some (.ref f))) (l : K.lookup f = some ⟨oc, od, .func (PySem.W.fnOf x x (defArgs st) (defBody st) (defScope st) .none kV doc pm an cd ct), osl⟩)
    (c : PySem.W.codeIn K cd x = true) (k : PySem.W.keepIn K (.ref f) = true)
    (hb : ∀ (kV doc pm : Value) (an : Option Addr) (cdv ct : Value) (us : List Value), us.length = ps.length → bindArgs (PySem.W.fnOf x x (defArgs st) (defBody st) (defScope st) .none kV doc pm an cdv ct) ⟨us, []⟩ = pure (ps.zip us)) : Dn K mg x st ps := by
  have F := fun_mk (st := st) l c k
  exact ⟨f, _, F, PySem.W.mg_of X G a, F.binds hb⟩
end
/-! ### heaps -/
theorem Same.new {H : Hp} {p : Addr} (h : H p = none) (o : HO) : Same H (upd H p o) := fun b u q => by rw [upd_ne (ne_of_none q h)]; exact q
theorem sz {n : Nat} (h : n ≤ 100000) : n ≤ sizeLine := Nat.le_trans h (by decide)
theorem szl {n : Nat} (h : n < 100000) : n < sizeLine := Nat.lt_of_lt_of_le h (by decide)
/-! ### texts -/
def tx (l : List Nat) : Str := ⟨l.toArray⟩
theorem tx_len (l : List Nat) : (tx l).length = l.length := by
  show l.toArray.size = _
  rw [List.size_toArray]
theorem tx_list (l : List Nat) : (tx l).cps.toList = l := rfl
theorem tx_app (a b : List Nat) : tx a ++ tx b = tx (a ++ b) := by
  show Str.append _ _ = _
  unfold Str.append tx
  simp
theorem cut_tx (l : List Nat) (lo hi : Option Int) : cutS (tx l) lo hi = tx ((l.drop (HT.sIx l.length 0 lo)).take (HT.sIx l.length l.length hi - HT.sIx l.length 0 lo)) := by
  unfold cutS
  rw [tx_len, tx_list]
  rfl
theorem cut_to {l : List Nat} {n : Nat} (h : n ≤ l.length) : cutS (tx l) none (some (n : Int)) = tx (l.take n) := by
  rw [cut_tx, HT.sIx_none, HT.sIx_nat, List.drop_zero, Nat.sub_zero, Nat.min_eq_left h]
theorem cut_from {l : List Nat} {n : Nat} (h : n ≤ l.length) : cutS (tx l) (some (n : Int)) none = tx (l.drop n) := by
  rw [cut_tx, HT.sIx_none, HT.sIx_nat, Nat.min_eq_left h, List.take_of_length_le (by rw [List.length_drop]; exact Nat.le_refl _)]
theorem cut_back {l : List Nat} {n : Nat} (h : 0 < n) : cutS (tx l) (some (-(n : Int))) none = tx (l.drop (l.length - n)) := by
  have e : HT.sIx l.length 0 (some (-(n : Int))) = l.length - n := by
    show (if (-(n : Int)) < 0 then (-(n : Int) + (l.length : Int)).toNat else _) = _
    rw [if_pos (by omega)]
    omega
  rw [cut_tx, HT.sIx_none, e, List.take_of_length_le (by rw [List.length_drop]; exact Nat.le_refl _)]
theorem cut_but {l : List Nat} {n : Nat} (h : 0 < n) : cutS (tx l) none (some (-(n : Int))) = tx (l.take (l.length - n)) := by
  have e : HT.sIx l.length l.length (some (-(n : Int))) = l.length - n := by
    show (if (-(n : Int)) < 0 then (-(n : Int) + (l.length : Int)).toNat else _) = _
    rw [if_pos (by omega)]
    omega
  rw [cut_tx, HT.sIx_none, e, List.drop_zero, Nat.sub_zero]
theorem str_inj {a b : List Nat} : tx a = tx b ↔ a = b := by
  constructor
  · intro h
    have := congrArg (fun z : Str => z.cps.toList) h
    simpa [tx] using this
  · intro h
    rw [h]
/-! ### plans and triples as they stand in the heap -/
structure Pl where
  room : Nat
  many : Nat
  pr : List Int
  pop : Int
structure Pl.Ok (p : Pl) : Prop where
  r1 : 1 ≤ p.room
  r9 : p.room ≤ 9
  m1 : 1 ≤ p.many
  m4 : p.many ≤ 4
  pl : p.pr.length = p.many
  pr : ∀ x ∈ p.pr, 1 ≤ x ∧ x ≤ 99
  q1 : 1 ≤ p.pop
  q9 : p.pop ≤ 99
/-- the prices as they stand -/
def PrAt (H : Hp) (b : Addr) (p : Pl) : Prop := TupF H b (p.pr.map V.int)
theorem PrAt.mono {H H' : Hp} {b : Addr} {p : Pl} (h : PrAt H b p) (s : Same H H') : PrAt H' b p := by
  obtain ⟨ob, h1, h2⟩ := h
  exact ⟨ob, h1, s _ _ h2⟩
theorem PrAt.ty {K : PySem.W.Frag} {H : Hp} {b : Addr} {p : Pl} (h : PrAt H b p) : TyX K H (.ref b) (.type "tuple") := by
  obtain ⟨ob, h1, h2⟩ := h
  exact .fTuple h2
def PlanAt (H : Hp) (v : V) (p : Pl) : Prop := ∃ a b, v = .ref a ∧ H a = some (.tup [.int p.room, .int p.many, .ref b, .int p.pop]) ∧ PrAt H b p
def TripAt (H : Hp) (v : V) (t : Tr) : Prop := ∃ a, v = .ref a ∧ H a = some (.tup [.int t.g, .int t.k, .str (tx t.l)])
theorem PlanAt.mono {H H' : Hp} {v : V} {p : Pl} (h : PlanAt H v p) (e : Same H H') : PlanAt H' v p := by
  obtain ⟨a, b, h1, h2, h3⟩ := h
  exact ⟨a, b, h1, e _ _ h2, h3.mono e⟩
theorem TripAt.mono {H H' : Hp} {v : V} {t : Tr} (h : TripAt H v t) (e : Same H H') : TripAt H' v t := by
  obtain ⟨a, h1, h2⟩ := h
  exact ⟨a, h1, e _ _ h2⟩
theorem signs_len (n : Nat) : (signs n).length ≤ 4 := by
  unfold signs
  rw [List.length_take]
  exact Nat.min_le_right ..
/-! ### kinds of values -/
theorem ty_int {K : PySem.W.Frag} {H : Hp} {i : Int} : TyX K H (.int i) (.type "int") := .base (.int i)
theorem ty_str {K : PySem.W.Frag} {H : Hp} {i : Str} : TyX K H (.str i) (.type "str") := .base (.str i)
theorem ty_tup {K : PySem.W.Frag} {H : Hp} {a : Addr} {xs : List V} (h : H a = some (.tup xs)) : TyX K H (.ref a) (.type "tuple") := .base (.tup h)
theorem ty_lst {K : PySem.W.Frag} {H : Hp} {a : Addr} {xs : List V} (h : H a = some (.lst xs)) : TyX K H (.ref a) (.type "list") := .base (.lst h)
theorem ty_non {K : PySem.W.Frag} {H : Hp} : TyX K H .non (.type "NoneType") := .base .non
theorem ty_bl {K : PySem.W.Frag} {H : Hp} {b : Bool} : TyX K H (.bl b) (.type "bool") := .base (.bl b)
theorem k_int_int : kitB "int" "int" = some true := by decide +kernel
theorem k_int_bool : kitB "int" "bool" = some false := by decide +kernel
theorem k_int_tup : kitB "int" "tuple" = some false := by decide +kernel
theorem k_int_lst : kitB "int" "list" = some false := by decide +kernel
theorem k_str_str : kitB "str" "str" = some true := by decide +kernel
theorem k_str_bool : kitB "str" "bool" = some false := by decide +kernel
theorem k_str_int : kitB "str" "int" = some false := by decide +kernel
theorem k_tup_tup : kitB "tuple" "tuple" = some true := by decide +kernel
theorem k_tup_int : kitB "tuple" "int" = some false := by decide +kernel
theorem k_tup_bool : kitB "tuple" "bool" = some false := by decide +kernel
theorem k_tup_str : kitB "tuple" "str" = some false := by decide +kernel
theorem k_tup_lst : kitB "tuple" "list" = some false := by decide +kernel
theorem k_lst_lst : kitB "list" "list" = some true := by decide +kernel
theorem k_lst_tup : kitB "list" "tuple" = some false := by decide +kernel
theorem k_lst_int : kitB "list" "int" = some false := by decide +kernel
theorem k_lst_bool : kitB "list" "bool" = some false := by decide +kernel
theorem k_lst_str : kitB "list" "str" = some false := by decide +kernel
theorem k_bool_bool : kitB "bool" "bool" = some true := by decide +kernel
theorem k_bool_int : kitB "bool" "int" = some true := by decide +kernel
theorem b_isi : bootBuiltins "isinstance" = some (.builtin "isinstance") := by decide +kernel
theorem b_all : bootBuiltins "all" = some (.builtin "all") := by decide +kernel
theorem b_max : bootBuiltins "max" = some (.builtin "max") := by decide +kernel
theorem b_min : bootBuiltins "min" = some (.builtin "min") := by decide +kernel
theorem b_bool : bootBuiltins "bool" = some (.type "bool") := by decide +kernel
theorem b_int : bootBuiltins "int" = some (.type "int") := by decide +kernel
theorem b_str : bootBuiltins "str" = some (.type "str") := by decide +kernel
theorem b_tuple : bootBuiltins "tuple" = some (.type "tuple") := by decide +kernel
theorem b_list : bootBuiltins "list" = some (.type "list") := by decide +kernel
theorem s_empty : ("" : Str) = tx [] := by decide +kernel
theorem s_minus : ("-" : Str) = tx [45] := by decide +kernel
theorem s_abcd : ("abcd" : Str) = tx [97, 98, 99, 100] := by decide +kernel
/-! ### promises of the program's defs -/
/-- hands back this value, all that stood stands -/
def giv (v : V) (H : Hp) (Q : VK) : Prop := ∀ H', Same H H' → Q v H'
def spSigns : Sp := fun vs H Q _ => ∃ v p, vs = [v] ∧ PlanAt H v p ∧ p.Ok ∧ giv (.str (tx (signs p.many))) H Q
def spNum : Sp := fun vs H Q _ => ∃ i lo hi : Int, vs = [.int i, .int lo, .int hi] ∧ giv (.bl (decide (lo ≤ i ∧ i ≤ hi))) H Q
def spTextOf : Sp := fun vs H Q _ => ∃ l sg : List Nat, vs = [.str (tx l), .str (tx sg)] ∧ l.length ≤ 10000 ∧ giv (.bl (decide (∀ c ∈ l, c ∈ sg))) H Q
def spChPlan : Sp := fun vs H Q _ => ∃ v p, vs = [v] ∧ PlanAt H v p ∧ p.Ok ∧ giv .non H Q
def spPrices : Sp := fun vs H Q _ => ∃ b p, vs = [.ref b, .int (p : Pl).many] ∧ PrAt H b p ∧ p.Ok ∧ giv (.bl true) H Q
def spChStack : Sp := fun vs H Q _ => ∃ v p l, vs = [v, .str (tx l)] ∧ PlanAt H v p ∧ p.Ok ∧ l.length ≤ p.room ∧ (∀ c ∈ l, c ∈ signs p.many) ∧ giv .non H Q
def spIsStack : Sp := fun vs H Q _ => ∃ v p l, vs = [v, .str (tx l)] ∧ PlanAt H v p ∧ p.Ok ∧ l.length ≤ p.room ∧ (∀ c ∈ l, c ∈ signs p.many) ∧ giv (.bl true) H Q
def spChSteps : Sp := fun vs H Q _ => ∃ v p l, vs = [v, .str (tx l)] ∧ PlanAt H v p ∧ p.Ok ∧ l.length ≤ 10000 ∧ (∀ c ∈ l, c = 45 ∨ c ∈ signs p.many) ∧ giv .non H Q
def spChTriple : Sp := fun vs H Q _ => ∃ v p u t, vs = [v, u] ∧ PlanAt H v p ∧ p.Ok ∧ TripAt H u t ∧ TrOk p.room p.many t ∧ giv .non H Q
def spIsTriple : Sp := fun vs H Q _ => ∃ v p u t, vs = [v, u] ∧ PlanAt H v p ∧ p.Ok ∧ TripAt H u t ∧ TrOk p.room p.many t ∧ giv (.bl true) H Q
/-- a new triple -/
def givT (t : Tr) (H : Hp) (Q : VK) : Prop := ∀ H' v, Same H H' → TripAt H' v t → Q v H'
def spWithout : Sp := fun vs H Q _ => ∃ (l : List Nat) (n : Nat), vs = [.str (tx l), .int n] ∧ l.length ≤ 10000 ∧ giv (.str (tx (ct n l))) H Q
def spTop : Sp := fun vs H Q _ => ∃ (l : List Nat) (n : Nat), vs = [.str (tx l), .int n] ∧ l.length ≤ 10000 ∧ giv (.str (tx (tp n l))) H Q
def spBehind : Sp := fun vs H Q _ => ∃ u t l, vs = [u, .str (tx l)] ∧ TripAt H u t ∧ l.length ≤ 1000 ∧ (t : Tr).l.length ≤ 1000 ∧ giv (.str (tx (tby t l))) H Q
def spTidied : Sp := fun vs H Q _ => ∃ (g k : Nat) (l : List Nat), vs = [.int g, .int k, .str (tx l)] ∧ givT (tidy g k l) H Q
def spJoin : Sp := fun vs H Q _ => ∃ a b t u, vs = [a, b] ∧ TripAt H a t ∧ TripAt H b u ∧ (t : Tr).l.length ≤ 1000 ∧ (u : Tr).l.length ≤ 1000 ∧ givT (tjoin t u) H Q
def spUnt : Sp := fun vs H Q _ => ∃ v p, vs = [v] ∧ PlanAt H v p ∧ givT (tunt p.room) H Q
def spTStep : Sp := fun vs H Q _ => ∃ v p c, vs = [v, .str (tx [c])] ∧ PlanAt H v p ∧ p.Ok ∧ givT (tstep p.room c) H Q
def spTSteps : Sp := fun vs H Q _ => ∃ v p l, vs = [v, .str (tx l)] ∧ PlanAt H v p ∧ p.Ok ∧ (∀ c ∈ l, c = 45 ∨ c ∈ signs p.many) ∧ givT (ttold p.room l) H Q
def spToldSteps : Sp := fun vs H Q _ => ∃ v p l, vs = [v, .str (tx l)] ∧ PlanAt H v p ∧ p.Ok ∧ l.length ≤ 10000 ∧ (∀ c ∈ l, c = 45 ∨ c ∈ signs p.many) ∧ givT (ttold p.room l) H Q
def spDone : Sp := fun vs H Q _ => ∃ v p u t l, vs = [v, u, .str (tx l)] ∧ PlanAt H v p ∧ p.Ok ∧ TripAt H u t ∧ TrOk p.room p.many t ∧ l.length ≤ p.room ∧ (∀ c ∈ l, c ∈ signs p.many) ∧ giv (.str (tx (tby t l))) H Q
end SK
namespace SK
open PySem PySem.Spec PyProof.Rows L2
/-! ### the box of draws -/
structure BoxAt (H : Hp) (p q : Addr) (ns : List Int) (z : Int) : Prop where
  b : H p = some (.lst [.ref q, .int z])
  l : H q = some (.lst (ns.map V.int))
  ne : p ≠ q
/-- all but the box stands -/
def Keep (p q : Addr) (H H' : Hp) : Prop := ∀ b o, H b = some o → b ≠ p → b ≠ q → H' b = some o
theorem Keep.refl (p q : Addr) (H : Hp) : Keep p q H H := fun _ _ h _ _ => h
theorem Keep.trans {p q : Addr} {H H1 H2 : Hp} (a : Keep p q H H1) (b : Keep p q H1 H2) : Keep p q H H2 := fun c o h h1 h2 => b c o (a c o h h1 h2) h1 h2
theorem Keep.of {p q : Addr} {H H' : Hp} (s : Same H H') : Keep p q H H' := fun b o h _ _ => s b o h
theorem BoxAt.mono {H H' : Hp} {p q : Addr} {ns : List Int} {z : Int} (h : BoxAt H p q ns z) (s : Same H H') : BoxAt H' p q ns z := ⟨s _ _ h.b, s _ _ h.l, h.ne⟩
theorem BoxAt.no {H : Hp} {p q : Addr} {ns : List Int} {z : Int} (h : BoxAt H p q ns z) {b : Addr} {o : HO} (e : H b = some o) (ho : ∀ xs, o ≠ .lst xs) : b ≠ p ∧ b ≠ q :=
  ⟨ne_of e h.b (ho _), ne_of e h.l (ho _)⟩
theorem Keep.tup {p q : Addr} {H H' : Hp} {ns : List Int} {z : Int} (k : Keep p q H H') (h : BoxAt H p q ns z) {a : Addr} {xs : List V} (e : H a = some (.tup xs)) : H' a = some (.tup xs) :=
  k a _ e (h.no e fun _ => by intro z; cases z).1 (h.no e fun _ => by intro z; cases z).2
theorem PlanAt.keep {p q : Addr} {H H' : Hp} {ns : List Int} {z : Int} {v : V} {pl : Pl} (h : PlanAt H v pl) (b : BoxAt H p q ns z) (k : Keep p q H H') : PlanAt H' v pl := by
  obtain ⟨a, c, e, h1, h2⟩ := h
  obtain ⟨ob, h3, h4⟩ := h2
  exact ⟨a, c, e, k.tup b h1, ob, h3, k _ _ h4 (b.no h4 fun _ => by intro z; cases z).1 (b.no h4 fun _ => by intro z; cases z).2⟩
theorem TripAt.keep {p q : Addr} {H H' : Hp} {ns : List Int} {z : Int} {v : V} {t : Tr} (h : TripAt H v t) (b : BoxAt H p q ns z) (k : Keep p q H H') : TripAt H' v t := by
  obtain ⟨a, e, h1⟩ := h
  exact ⟨a, e, k.tup b h1⟩
/-- a list made later than the box -/
theorem BoxAt.fresh {H : Hp} {p q D : Addr} {ns : List Int} {z : Int} (h : BoxAt H p q ns z) (e : H D = none) : D ≠ p ∧ D ≠ q := by
  constructor
  · intro x
    subst x
    rw [h.b] at e
    cases e
  · intro x
    subst x
    rw [h.l] at e
    cases e
/-- a draw -/
def spTake : Sp := fun vs H Q _ => ∃ (p q : Addr) (ns : List Int) (z n : Int), vs = [.ref p, .int n] ∧ BoxAt H p q ns z ∧ 0 < n ∧ n < 2 ^ 9000 ∧
  ∀ (r : Int) (ns' : List Int) (z' : Int) (H' : Hp), 0 ≤ r → r < n → BoxAt H' p q ns' z' → Keep p q H H' → Q (.int r) H'
theorem shp : ∀ ns : List Int, SeqAt.shaped (.list (ns.map PyData.int)) = true := by
  have h1 : ∀ ns : List Int, PyData.canLayAll0 (ns.map PyData.int) = true := fun ns => by
    induction ns with
    | nil => rfl
    | cons n r ih =>
      show (PyData.canLay0 (.int n) && PyData.canLayAll0 (r.map PyData.int)) = true
      rw [ih]
      rfl
  have h2 : ∀ ns : List Int, PyData.depthAll (ns.map PyData.int) = 0 := fun ns => by
    induction ns with
    | nil => rfl
    | cons n r ih =>
      show max (PyData.depth (.int n)) (PyData.depthAll (r.map PyData.int)) = 0
      rw [ih]
      rfl
  intro ns
  show (PyData.canLayAll0 (ns.map PyData.int) && decide (PyData.depthAll (ns.map PyData.int) + 1 ≤ 64)) = true
  rw [h1, h2]
  rfl
theorem dpAll {K : PySem.W.Frag} {H : Hp} : ∀ ns : List Int, DpAll K H (ns.map V.int) (ns.map PyData.int)
  | [] => .nil
  | n :: r => .cons (.int n) (dpAll r)
theorem fmod_in {x n : Int} (h : 0 < n) : 0 ≤ x.fmod n ∧ x.fmod n < n := by
  rw [Int.fmod_eq_emod_of_nonneg _ (by omega)]
  exact ⟨Int.emod_nonneg _ (by omega), Int.emod_lt_of_pos _ h⟩
theorem divW {i j : Int} (h : 0 < j) (h2 : j < 2 ^ 9000) : CDivW i j := wide_div (b := 9000) h (by
  have e : ((j.natAbs : Nat) : Int) = j := Int.natAbs_of_nonneg (by omega)
  have e2 : ((j.natAbs : Nat) : Int) < ((2 ^ 9000 : Nat) : Int) := by
    rw [e]
    exact_mod_cast h2
  exact Int.ofNat_lt.mp e2) (by decide) (by decide)
theorem p9 {n : Int} (h : n ≤ 2000000000000000000) : n < 2 ^ 9000 := Int.lt_of_le_of_lt h (by decide +kernel)
theorem at0 {x : V} {r : List V} : atI (x :: r) 0 = some x := atI_nat (j := 0) rfl
theorem ix0 {x : V} {r : List V} : ixN (x :: r).length 0 = some 0 := by
  unfold ixN
  simp
theorem sq0 {x : V} {r : List V} : seqIndex? 0 (x :: r).length = some 0 := by
  unfold seqIndex?
  simp
/-! ### what is alike -/
def Sc : V → Prop
  | .non => True
  | .bl _ => True
  | .int _ => True
  | .str _ => True
  | _ => False
def Alk (H : Hp) : Nat → V → V → Prop
  | 0, _, _ => False
  | n + 1, v, w => (v = w ∧ Sc v) ∨ ∃ (a b : Addr) (xs ys : List V), v = .ref a ∧ w = .ref b ∧ ((H a = some (.tup xs) ∧ H b = some (.tup ys)) ∨ (H a = some (.lst xs) ∧ H b = some (.lst ys))) ∧ xs.length = ys.length ∧ ys.length ≤ 10000 ∧
      ∀ (i : Nat) (x y : V), xs[i]? = some x → ys[i]? = some y → Alk H n x y
theorem Alk.mono {H H' : Hp} (s : Same H H') : ∀ {n : Nat} {v w : V}, Alk H n v w → Alk H' n v w
  | 0, _, _, h => h
  | n + 1, v, w, h => by
    rcases h with h | ⟨a, b, xs, ys, h1, h2, h3, h4, h5, h6⟩
    · exact .inl h
    · refine .inr ⟨a, b, xs, ys, h1, h2, ?_, h4, h5, fun i x y e1 e2 => Alk.mono s (h6 i x y e1 e2)⟩
      rcases h3 with ⟨u1, u2⟩ | ⟨u1, u2⟩
      · exact .inl ⟨s _ _ u1, s _ _ u2⟩
      · exact .inr ⟨s _ _ u1, s _ _ u2⟩
def spAlike (n : Nat) : Sp := fun vs H Q _ => ∃ v w, vs = [v, w] ∧ Alk H n v w ∧ giv (.bl true) H Q
theorem alk_trip {H : Hp} {n : Nat} {v w : V} {t : Tr} (hv : TripAt H v t) (hw : TripAt H w t) : Alk H (n + 2) v w := by
  obtain ⟨a, rfl, ha⟩ := hv
  obtain ⟨b, rfl, hb⟩ := hw
  refine .inr ⟨a, b, _, _, rfl, rfl, .inl ⟨ha, hb⟩, rfl, by show 3 ≤ 10000; decide, fun i x y e1 e2 => ?_⟩
  have e : x = y := Option.some.inj (e1.symm.trans e2)
  subst e
  refine .inl ⟨rfl, ?_⟩
  match i, e1 with
  | 0, e1 => cases e1; trivial
  | 1, e1 => cases e1; trivial
  | 2, e1 => cases e1; trivial
/-! ### the law's own promises -/
def spLStep : Sp := fun vs H Q _ => ∃ v p l c, vs = [v, .str (tx l), .str (tx [c])] ∧ PlanAt H v p ∧ p.Ok ∧ l.length ≤ 1000 ∧ giv (.str (tx (step p.room l c))) H Q
def spLGone : Sp := fun vs H Q _ => ∃ v p l s, vs = [v, .str (tx l), .str (tx s)] ∧ PlanAt H v p ∧ p.Ok ∧ l.length ≤ p.room ∧ giv (.str (tx (gone p.room l s))) H Q
def spLPlan : Sp := fun vs H Q _ => ∃ (p q : Addr) (ns : List Int) (z : Int) (r s : Nat), vs = [.ref p, .int r, .int s] ∧ BoxAt H p q ns z ∧ 1 ≤ r ∧ r ≤ 9 ∧ 1 ≤ s ∧ s ≤ 4 ∧
  ∀ (pl : Pl) (v : V) (ns' : List Int) (z' : Int) (H' : Hp), pl.Ok → pl.room ≤ r → pl.many ≤ s → PlanAt H' v pl → BoxAt H' p q ns' z' → Keep p q H H' → Q v H'
def spLSteps : Sp := fun vs H Q _ => ∃ (p q : Addr) (ns : List Int) (z : Int) (v : V) (pl : Pl) (n : Nat), vs = [.ref p, v, .int n] ∧ BoxAt H p q ns z ∧ PlanAt H v pl ∧ pl.Ok ∧ n ≤ 1000 ∧
  ∀ (l : List Nat) (ns' : List Int) (z' : Int) (H' : Hp), l.length ≤ n → (∀ c ∈ l, c = 45 ∨ c ∈ signs pl.many) → BoxAt H' p q ns' z' → Keep p q H H' → Q (.str (tx l)) H'
def spLSigns : Sp := fun vs H Q _ => ∃ (p q : Addr) (ns : List Int) (z : Int) (v : V) (pl : Pl) (n : Nat), vs = [.ref p, v, .int n] ∧ BoxAt H p q ns z ∧ PlanAt H v pl ∧ pl.Ok ∧ n ≤ 1000 ∧
  ∀ (l : List Nat) (ns' : List Int) (z' : Int) (H' : Hp), l.length ≤ n → (∀ c ∈ l, c ∈ signs pl.many) → BoxAt H' p q ns' z' → Keep p q H H' → Q (.str (tx l)) H'
def spLTriple : Sp := fun vs H Q _ => ∃ (p q : Addr) (ns : List Int) (z : Int) (v : V) (pl : Pl), vs = [.ref p, v] ∧ BoxAt H p q ns z ∧ PlanAt H v pl ∧ pl.Ok ∧
  ∀ (t : Tr) (u : V) (ns' : List Int) (z' : Int) (H' : Hp), TrOk pl.room pl.many t → TripAt H' u t → BoxAt H' p q ns' z' → Keep p q H H' → Q u H'
def spLBy : Sp := fun vs H Q _ => ∃ u t l, vs = [u, .str (tx l)] ∧ TripAt H u t ∧ l.length ≤ 1000 ∧ (t : Tr).l.length ≤ 1000 ∧ giv (.str (tx (tby t l))) H Q
def spLBegun (K : PySem.W.Frag) : Sp := fun vs H Q _ => ∃ (a : Addr) (ns : List Int), vs = [.ref a] ∧ SqL K H a (ns.map V.int) ∧ ns.length ≤ 63 ∧
  ∀ (p q : Addr) (z : Int) (H' : Hp), Same H H' → BoxAt H' p q ns z → H p = none → H q = none → Q (.ref p) H'
/-- all texts of so many signs, in turn; all stacks -/
def lay (many : Nat) : Nat → List (List Nat)
  | 0 => [[]]
  | n + 1 => (lay many n).flatMap fun l => (signs many).map fun c => l ++ [c]
def stk (many : Nat) : Nat → List (List Nat)
  | 0 => [[]]
  | n + 1 => stk many n ++ lay many (n + 1)
def spLStacks : Sp := fun vs H Q _ => ∃ v p, vs = [v] ∧ PlanAt H v p ∧ p.Ok ∧ ∀ (D : Addr) (H' : Hp), Same H H' → H D = none → H' D = some (.lst ((stk p.many p.room).map fun l => V.str (tx l))) → Q (.ref D) H'
def spLaw (K : PySem.W.Frag) : Sp := fun vs H Q _ => ∃ (a : Addr) (ns : List Int), vs = [.ref a] ∧ SqL K H a (ns.map V.int) ∧ ns.length ≤ 63 ∧ ∀ H', Q (.bl true) H'
theorem lay_len (many : Nat) : ∀ n, (lay many n).length = (signs many).length ^ n
  | 0 => rfl
  | n + 1 => by
    have h : ∀ xs : List (List Nat), (xs.flatMap fun l => (signs many).map fun c => l ++ [c]).length = xs.length * (signs many).length := fun xs => by
      induction xs with
      | nil => simp
      | cons x r ih =>
        rw [List.flatMap_cons, List.length_append, ih, List.length_map, List.length_cons, Nat.succ_mul, Nat.add_comm]
    show ((lay many n).flatMap _).length = _
    rw [h, lay_len many n, Nat.pow_succ]
theorem lay_le (many : Nat) {n : Nat} (h : n ≤ 9) : (lay many n).length ≤ 262144 := by
  rw [lay_len]
  have h1 := signs_len many
  calc (signs many).length ^ n ≤ 4 ^ n := Nat.pow_le_pow_left h1 n
    _ ≤ 4 ^ 9 := Nat.pow_le_pow_right (by decide) h
    _ = 262144 := by decide
theorem stk_le (many : Nat) : ∀ {n : Nat}, n ≤ 9 → (stk many n).length ≤ (n + 1) * 262144
  | 0, _ => by show 1 ≤ _; omega
  | n + 1, h => by
    have h1 := stk_le many (n := n) (by omega)
    have h2 := lay_le many h
    show (stk many n ++ lay many (n + 1)).length ≤ _
    rw [List.length_append]
    omega
theorem lay_mem {many : Nat} : ∀ {n : Nat} {l : List Nat}, l ∈ lay many n → l.length = n ∧ ∀ c ∈ l, c ∈ signs many
  | 0, l, h => by
    have e : l = [] := by simpa [lay] using h
    subst e
    exact ⟨rfl, fun c hc => by simp at hc⟩
  | n + 1, l, h => by
    obtain ⟨k, hk, h2⟩ := List.mem_flatMap.mp (show l ∈ (lay many n).flatMap _ from h)
    obtain ⟨c, hc, rfl⟩ := List.mem_map.mp h2
    obtain ⟨h3, h4⟩ := lay_mem hk
    refine ⟨by simp [h3], fun d hd => ?_⟩
    rcases List.mem_append.mp hd with h5 | h5
    · exact h4 d h5
    · have : d = c := by simpa using h5
      subst this
      exact hc
theorem stk_mem {many : Nat} : ∀ {n : Nat} {l : List Nat}, l ∈ stk many n → l.length ≤ n ∧ ∀ c ∈ l, c ∈ signs many
  | 0, l, h => by
    have := lay_mem (many := many) (n := 0) h
    exact ⟨Nat.le_of_eq this.1, this.2⟩
  | n + 1, l, h => by
    rcases List.mem_append.mp (show l ∈ stk many n ++ lay many (n + 1) from h) with h1 | h1
    · have := stk_mem h1
      exact ⟨by omega, this.2⟩
    · have := lay_mem h1
      exact ⟨Nat.le_of_eq this.1, this.2⟩
end SK
/-! works, their triples, their steps; the mathematics -/
namespace SK
/-! ### triples are told apart by what they do -/
theorem len_tby (t : Tr) (x : List Nat) : (tby t x).length = min t.k (x.length - t.g) + t.l.length := by
  simp only [tby]
  rw [List.length_append, len_tp, len_ct]
theorem tr_ext {room many : Nat} {t u : Tr} (a : TrOk room many t) (b : TrOk room many u) {c : Nat} (h : ∀ s, s ≤ room → tby t (List.replicate s c) = tby u (List.replicate s c)) : t = u := by
  have h0 := h 0 (Nat.zero_le _)
  have hl : t.l = u.l := by
    simp only [tby, List.replicate_zero, ct, tp, List.length_nil, List.take_nil, List.drop_nil, List.nil_append] at h0
    exact h0
  have hn : ∀ s, s ≤ room → min t.k (s - t.g) = min u.k (s - u.g) := fun s hs => by
    have e := congrArg List.length (h s hs)
    rw [len_tby, len_tby, List.length_replicate, hl] at e
    omega
  have := a.gk
  have := b.gk
  have ht := a.z
  have hu := b.z
  have hk : t.k = u.k := by
    have e := hn room (Nat.le_refl _)
    omega
  have hg : t.g = u.g := by
    by_cases h1 : t.k = 0
    · have := ht h1
      have := hu (by omega)
      omega
    · have e1 := hn (t.g + 1) (by omega)
      have e2 := hn (u.g + 1) (by omega)
      omega
  cases t
  cases u
  simp only at hl hk hg
  subst hl hk hg
  rfl
theorem tjoin_assoc {room many : Nat} {t u v : Tr} (a : TrOk room many t) (b : TrOk room many u) (c : TrOk room many v) : tjoin (tjoin t u) v = tjoin t (tjoin u v) :=
  tr_ext (c := 97) (tjoin_ok (tjoin_ok a b) c) (tjoin_ok a (tjoin_ok b c)) fun s _ => by rw [tby_join, tby_join, tby_join, tby_join]
theorem tby_len {room many : Nat} {t : Tr} (a : TrOk room many t) (x : List Nat) : (tby t x).length ≤ room := by
  rw [len_tby]
  have := a.kl
  omega
theorem tunt_left {room many : Nat} {t : Tr} (a : TrOk room many t) : tjoin (tunt room) t = t :=
  tr_ext (c := 97) (tjoin_ok tunt_ok a) a fun s hs => by rw [tby_join, tby_unt (by rw [List.length_replicate]; exact hs)]
theorem tunt_right {room many : Nat} {t : Tr} (a : TrOk room many t) : tjoin t (tunt room) = t :=
  tr_ext (c := 97) (tjoin_ok a tunt_ok) a fun s hs => by rw [tby_join, tby_unt (tby_len a _)]
/-- done so often -/
def tpw (room : Nat) (t : Tr) : Nat → Tr
  | 0 => tunt room
  | n + 1 => tjoin (tpw room t n) t
theorem tpw_ok {room many : Nat} {t : Tr} (a : TrOk room many t) : ∀ n, TrOk room many (tpw room t n)
  | 0 => tunt_ok
  | n + 1 => tjoin_ok (tpw_ok a n) a
theorem tpw_add {room many : Nat} {t : Tr} (a : TrOk room many t) (m : Nat) : ∀ n, tpw room t (m + n) = tjoin (tpw room t m) (tpw room t n)
  | 0 => (tunt_right (tpw_ok a m)).symm
  | n + 1 => by
    show tjoin (tpw room t (m + n)) t = tjoin (tpw room t m) (tjoin (tpw room t n) t)
    rw [tpw_add a m n, tjoin_assoc (tpw_ok a m) (tpw_ok a n) a]
theorem tpw_one {room many : Nat} {t : Tr} (a : TrOk room many t) : tpw room t 1 = t := tunt_left a
theorem tpw_two {room many : Nat} {t : Tr} (a : TrOk room many t) : ∀ n, tpw room (tjoin t t) n = tpw room t (2 * n)
  | 0 => rfl
  | n + 1 => by
    have e : 2 * (n + 1) = 2 * n + 2 := by omega
    have e2 : tpw room t 2 = tjoin t t := by
      show tjoin (tpw room t 1) t = _
      rw [tpw_one a]
    rw [e, tpw_add a, e2]
    show tjoin (tpw room (tjoin t t) n) (tjoin t t) = _
    rw [tpw_two a n]
/-- one turn of the doubling -/
theorem tpw_odd {room many : Nat} {t u : Tr} {n : Nat} (a : TrOk room many t) (b : TrOk room many u) (h : n % 2 = 1) : tjoin u (tpw room t n) = tjoin (tjoin u t) (tpw room (tjoin t t) (n / 2)) := by
  have e : n = 1 + 2 * (n / 2) := by omega
  rw [tpw_two a, tjoin_assoc b a (tpw_ok a _)]
  congr 1
  have e3 : tpw room t n = tpw room t (1 + 2 * (n / 2)) := by rw [← e]
  rw [e3, tpw_add a, tpw_one a]
theorem tpw_even {room many : Nat} {t u : Tr} {n : Nat} (a : TrOk room many t) (h : n % 2 = 0) : tjoin u (tpw room t n) = tjoin u (tpw room (tjoin t t) (n / 2)) := by
  rw [tpw_two a]
  have e : n = 2 * (n / 2) := by omega
  have e3 : tpw room t n = tpw room t (2 * (n / 2)) := by rw [← e]
  rw [e3]
/-! ### steps one behind another -/
theorem ttold_from {room many : Nat} {u : Tr} (hr : 1 ≤ room) (b : TrOk room many u) : ∀ (s : List Nat), (∀ c ∈ s, c = 45 ∨ c ∈ signs many) → ∀ t, TrOk room many t → s.foldl (fun t c => tjoin t (tstep room c)) (tjoin u t) = tjoin u (s.foldl (fun t c => tjoin t (tstep room c)) t)
  | [], _, _, _ => rfl
  | c :: r, hs, t, a => by
    have hc := tstep_ok (room := room) (many := many) hr (hs c (List.mem_cons_self ..))
    have ih := ttold_from hr b r (fun d hd => hs d (List.mem_cons_of_mem _ hd)) (tjoin t (tstep room c)) (tjoin_ok a hc)
    show r.foldl _ (tjoin (tjoin u t) (tstep room c)) = tjoin u (r.foldl _ (tjoin t (tstep room c)))
    rw [tjoin_assoc b a hc, ih]
theorem ttold_ok' {room many : Nat} (hr : 1 ≤ room) {s : List Nat} (hs : ∀ c ∈ s, c = 45 ∨ c ∈ signs many) : TrOk room many (ttold room s) := ttold_ok hr s _ tunt_ok hs
theorem ttold_app {room many : Nat} (hr : 1 ≤ room) {a b : List Nat} (ha : ∀ c ∈ a, c = 45 ∨ c ∈ signs many) (hb : ∀ c ∈ b, c = 45 ∨ c ∈ signs many) : ttold room (a ++ b) = tjoin (ttold room a) (ttold room b) := by
  have e : ttold room (a ++ b) = b.foldl (fun t c => tjoin t (tstep room c)) (ttold room a) := by
    unfold ttold
    rw [List.foldl_append]
  have h := ttold_from hr (ttold_ok' hr ha) b hb (tunt room) tunt_ok
  rw [tunt_right (ttold_ok' hr ha)] at h
  rw [e, h]
  rfl
theorem ttold_one {room many c : Nat} (hr : 1 ≤ room) (hc : c = 45 ∨ c ∈ signs many) : ttold room [c] = tstep room c := by
  show tjoin (tunt room) (tstep room c) = _
  exact tunt_left (tstep_ok (many := many) hr hc)
/-! ### works -/
mutual
inductive W where
  | push (c : Nat)
  | pop
  | row (ws : Ws)
  | times (n : Nat) (w : W)
inductive Ws where
  | nil
  | cons (w : W) (r : Ws)
end
mutual
def W.siz : W → Nat
  | .push _ => 1
  | .pop => 1
  | .row ws => 1 + ws.siz
  | .times _ w => 1 + w.siz
def Ws.siz : Ws → Nat
  | .nil => 0
  | .cons w r => w.siz + r.siz
end
mutual
def W.dep : W → Nat
  | .push _ => 1
  | .pop => 1
  | .row ws => 1 + ws.dep
  | .times _ w => 1 + w.dep
def Ws.dep : Ws → Nat
  | .nil => 0
  | .cons w r => max w.dep r.dep
end
mutual
def W.lng : W → List Nat
  | .push c => [c]
  | .pop => [45]
  | .row ws => ws.lng
  | .times n w => (List.replicate n w.lng).flatten
def Ws.lng : Ws → List Nat
  | .nil => []
  | .cons w r => w.lng ++ r.lng
end
mutual
/-- how many steps -/
def W.cnt : W → Nat
  | .push _ => 1
  | .pop => 1
  | .row ws => ws.cnt
  | .times n w => n * w.cnt
def Ws.cnt : Ws → Nat
  | .nil => 0
  | .cons w r => w.cnt + r.cnt
end
mutual
def W.prc (f : Nat → Int) : W → Int
  | .push c => f c
  | .pop => f 45
  | .row ws => ws.prc f
  | .times n w => (n : Int) * w.prc f
def Ws.prc (f : Nat → Int) : Ws → Int
  | .nil => 0
  | .cons w r => w.prc f + r.prc f
end
mutual
def W.tri (room : Nat) : W → Tr
  | .push c => tstep room c
  | .pop => tstep room 45
  | .row ws => ws.tri room (tunt room)
  | .times n w => tpw room (w.tri room) n
def Ws.tri (room : Nat) : Ws → Tr → Tr
  | .nil, t => t
  | .cons w r, t => r.tri room (tjoin t (w.tri room))
end
def Ws.len : Ws → Nat
  | .nil => 0
  | .cons _ r => r.len + 1
mutual
/-- can be: signs of the plan, counts to 10 ** 18 -/
def W.Can (many : Nat) : W → Prop
  | .push c => c ∈ signs many
  | .pop => True
  | .row ws => ws.len ≤ 1000 ∧ ws.Can many
  | .times n w => n ≤ 1000000000000000000 ∧ w.Can many
def Ws.Can (many : Nat) : Ws → Prop
  | .nil => True
  | .cons w r => w.Can many ∧ r.Can many
end
mutual
/-- few in a row, nothing done more often than so -/
def W.Tm (t : Nat) : W → Prop
  | .push _ => True
  | .pop => True
  | .row ws => ws.len ≤ 3 ∧ ws.Tm t
  | .times n w => n ≤ t ∧ w.Tm t
def Ws.Tm (t : Nat) : Ws → Prop
  | .nil => True
  | .cons w r => w.Tm t ∧ r.Tm t
end
mutual
theorem W.cnt_le : ∀ w : W, w.Tm 4 → w.cnt ≤ 4 ^ w.dep
  | .push _, _ => by show 1 ≤ 4 ^ 1; decide
  | .pop, _ => by show 1 ≤ 4 ^ 1; decide
  | .row ws, h => by
    have e := Ws.cnt_le ws h.2
    have e2 : ws.len * 4 ^ ws.dep ≤ 3 * 4 ^ ws.dep := Nat.mul_le_mul_right _ h.1
    show ws.cnt ≤ 4 ^ (1 + ws.dep)
    rw [Nat.pow_add]
    omega
  | .times n w, h => by
    have e := W.cnt_le w h.2
    show n * w.cnt ≤ 4 ^ (1 + w.dep)
    rw [Nat.pow_add]
    exact Nat.mul_le_mul h.1 e
theorem Ws.cnt_le : ∀ ws : Ws, ws.Tm 4 → ws.cnt ≤ ws.len * 4 ^ ws.dep
  | .nil, _ => Nat.zero_le _
  | .cons w r, h => by
    have e1 := W.cnt_le w h.1
    have e2 := Ws.cnt_le r h.2
    show w.cnt + r.cnt ≤ (r.len + 1) * 4 ^ (max w.dep r.dep)
    have p1 : 4 ^ w.dep ≤ 4 ^ (max w.dep r.dep) := Nat.pow_le_pow_right (by decide) (Nat.le_max_left ..)
    have p2 : r.len * 4 ^ r.dep ≤ r.len * 4 ^ (max w.dep r.dep) := Nat.mul_le_mul_left _ (Nat.pow_le_pow_right (by decide) (Nat.le_max_right ..))
    rw [Nat.succ_mul]
    omega
end
mutual
theorem W.siz_pos : ∀ w : W, 1 ≤ w.siz
  | .push _ => Nat.le_refl _
  | .pop => Nat.le_refl _
  | .row ws => by show 1 ≤ 1 + ws.siz; omega
  | .times _ w => by show 1 ≤ 1 + w.siz; omega
end
mutual
theorem W.dep_pos : ∀ w : W, 1 ≤ w.dep
  | .push _ => Nat.le_refl _
  | .pop => Nat.le_refl _
  | .row ws => by show 1 ≤ 1 + ws.dep; omega
  | .times _ w => by show 1 ≤ 1 + w.dep; omega
end
mutual
theorem W.tri_ok {room many : Nat} (hr : 1 ≤ room) : ∀ w : W, w.Can many → TrOk room many (w.tri room)
  | .push c, h => tstep_ok hr (.inr h)
  | .pop, _ => tstep_ok hr (.inl rfl)
  | .row ws, h => Ws.tri_ok hr ws _ h.2 tunt_ok
  | .times n w, h => tpw_ok (W.tri_ok hr w h.2) n
theorem Ws.tri_ok {room many : Nat} (hr : 1 ≤ room) : ∀ (ws : Ws) (t : Tr), ws.Can many → TrOk room many t → TrOk room many (ws.tri room t)
  | .nil, _, _, a => a
  | .cons w r, t, h, a => Ws.tri_ok hr r _ h.2 (tjoin_ok a (W.tri_ok hr w h.1))
end
mutual
theorem W.lng_in {many : Nat} : ∀ w : W, w.Can many → ∀ c ∈ w.lng, c = 45 ∨ c ∈ signs many
  | .push c, h, d, hd => by
    have e : d = c := by simpa [W.lng] using hd
    subst e
    exact .inr h
  | .pop, _, d, hd => .inl (by simpa [W.lng] using hd)
  | .row ws, h, d, hd => Ws.lng_in ws h.2 d hd
  | .times n w, h, d, hd => by
    obtain ⟨l, hl, hd⟩ := List.mem_flatten.mp (show d ∈ (List.replicate n w.lng).flatten from hd)
    have e := List.eq_of_mem_replicate hl
    subst e
    exact W.lng_in w h.2 d hd
theorem Ws.lng_in {many : Nat} : ∀ ws : Ws, ws.Can many → ∀ c ∈ ws.lng, c = 45 ∨ c ∈ signs many
  | .nil, _, d, hd => by simp [Ws.lng] at hd
  | .cons w r, h, d, hd => by
    rcases List.mem_append.mp (show d ∈ w.lng ++ r.lng from hd) with h1 | h1
    · exact W.lng_in w h.1 d h1
    · exact Ws.lng_in r h.2 d h1
end
mutual
theorem W.tri_lng {room many : Nat} (hr : 1 ≤ room) : ∀ w : W, w.Can many → w.tri room = ttold room w.lng
  | .push c, h => (ttold_one (many := many) hr (.inr h)).symm
  | .pop, _ => (ttold_one (many := many) hr (.inl rfl)).symm
  | .row ws, h => by
    have e := Ws.tri_lng (many := many) hr ws (tunt room) h.2 tunt_ok
    rw [tunt_left (ttold_ok' hr (Ws.lng_in ws h.2))] at e
    exact e
  | .times n w, h => by
    have e := W.tri_lng hr w h.2
    have hin := W.lng_in w h.2
    have hok := W.tri_ok (room := room) hr w h.2
    show tpw room (w.tri room) n = ttold room (List.replicate n w.lng).flatten
    have k : ∀ n, tpw room (w.tri room) n = ttold room (List.replicate n w.lng).flatten ∧ ∀ c ∈ (List.replicate n w.lng).flatten, c = 45 ∨ c ∈ signs many := fun n => by
      induction n with
      | zero => exact ⟨rfl, fun c hc => by simp at hc⟩
      | succ n ih =>
        have e2 : (List.replicate (n + 1) w.lng).flatten = (List.replicate n w.lng).flatten ++ w.lng := by
          rw [List.replicate_succ', List.flatten_append]
          simp
        have h2 : ∀ c ∈ (List.replicate (n + 1) w.lng).flatten, c = 45 ∨ c ∈ signs many := fun c hc => by
          rw [e2] at hc
          rcases List.mem_append.mp hc with h3 | h3
          · exact ih.2 c h3
          · exact hin c h3
        refine ⟨?_, h2⟩
        show tjoin (tpw room (w.tri room) n) (w.tri room) = _
        rw [e2, ttold_app (many := many) hr ih.2 hin, ih.1, ← e]
    exact (k n).1
theorem Ws.tri_lng {room many : Nat} (hr : 1 ≤ room) : ∀ (ws : Ws) (t : Tr), ws.Can many → TrOk room many t → ws.tri room t = tjoin t (ttold room ws.lng)
  | .nil, t, _, a => (tunt_right a).symm
  | .cons w r, t, h, a => by
    have e1 := W.tri_lng (many := many) hr w h.1
    have o1 := W.tri_ok (room := room) hr w h.1
    have e2 := Ws.tri_lng hr r (tjoin t (w.tri room)) h.2 (tjoin_ok a o1)
    show r.tri room (tjoin t (w.tri room)) = tjoin t (ttold room (w.lng ++ r.lng))
    rw [e2, ttold_app (many := many) hr (W.lng_in w h.1) (Ws.lng_in r h.2), ← e1, tjoin_assoc a o1 (ttold_ok' hr (Ws.lng_in r h.2))]
end
mutual
theorem W.cnt_lng : ∀ w : W, w.cnt = w.lng.length
  | .push _ => rfl
  | .pop => rfl
  | .row ws => Ws.cnt_lng ws
  | .times n w => by
    have e := W.cnt_lng w
    show n * w.cnt = (List.replicate n w.lng).flatten.length
    rw [List.length_flatten, List.map_replicate, List.sum_replicate_nat, e]
theorem Ws.cnt_lng : ∀ ws : Ws, ws.cnt = ws.lng.length
  | .nil => rfl
  | .cons w r => by
    have e1 := W.cnt_lng w
    have e2 := Ws.cnt_lng r
    show w.cnt + r.cnt = (w.lng ++ r.lng).length
    rw [List.length_append, e1, e2]
end
/-- what steps cost -/
def sprc (f : Nat → Int) (l : List Nat) : Int := (l.map f).sum
theorem sprc_app (f : Nat → Int) (a b : List Nat) : sprc f (a ++ b) = sprc f a + sprc f b := by
  unfold sprc
  rw [List.map_append, List.sum_append]
mutual
theorem W.prc_lng (f : Nat → Int) : ∀ w : W, w.prc f = sprc f w.lng
  | .push c => by simp [W.prc, W.lng, sprc]
  | .pop => by simp [W.prc, W.lng, sprc]
  | .row ws => Ws.prc_lng f ws
  | .times n w => by
    have e := W.prc_lng f w
    show (n : Int) * w.prc f = sprc f (List.replicate n w.lng).flatten
    have k : ∀ n : Nat, (n : Int) * w.prc f = sprc f (List.replicate n w.lng).flatten := fun n => by
      induction n with
      | zero => simp [sprc]
      | succ n ih =>
        rw [List.replicate_succ, List.flatten_cons, sprc_app, ← ih, ← e, Int.natCast_succ, Int.add_mul, Int.one_mul, Int.add_comm]
    exact k n
theorem Ws.prc_lng (f : Nat → Int) : ∀ ws : Ws, ws.prc f = sprc f ws.lng
  | .nil => rfl
  | .cons w r => by
    have e1 := W.prc_lng f w
    have e2 := Ws.prc_lng f r
    show w.prc f + r.prc f = sprc f (w.lng ++ r.lng)
    rw [sprc_app, e1, e2]
end
end SK
namespace SK
open PySem PySem.Spec PyProof.Rows L2
/-! ### two rules: list(text), text * int -/
theorem call_listS {X : Cx} (hc : X.calm = true) : CallR X (.type "list") (fun xs H Q => ∃ z : Str, xs = [.str z] ∧ z.length ≤ sizeLine ∧ ∀ l, H l = none → Q (.ref l) (upd H l (.lst (z.cps.toList.map fun c => V.str ⟨#[c]⟩)))) := by
  intro pins s σ H xs us Q I r h
  obtain ⟨z, rfl, hz, q⟩ := h
  obtain ⟨u, rfl, rx⟩ := vals1 r
  obtain ⟨t, rfl⟩ := rx
  have hn : z.cps.size ≤ sizeLine := hz
  refine PySem.call_list_str (I.ok.hd hc) z t (fun h' tk acc' c' kp e hi => ?_) hn
  have hlen : z.cps.toList.length = z.cps.size := Array.length_toList
  have rv : Vals (z.cps.toList.map fun c => V.str ⟨#[c]⟩) acc'.toList := by
    obtain ⟨h1, h2⟩ := hi
    have hx : ∀ (cs : List Nat) (as : List Value), as.length = cs.length → (∀ (j : Nat) (v : Value), as[j]? = some v → ∃ c u, cs[j]? = some c ∧ v = .str ⟨#[c]⟩ u) → Vals (cs.map fun c => V.str ⟨#[c]⟩) as := by
      intro cs
      induction cs with
      | nil =>
        intro as hl _
        have e : as = [] := List.length_eq_zero_iff.mp hl
        subst e
        exact .nil
      | cons c r ih =>
        intro as hl ha
        cases as with
        | nil => cases hl
        | cons v vs =>
          obtain ⟨c', u, e1, e2⟩ := ha 0 v rfl
          cases e1
          subst e2
          exact .cons ⟨u, rfl⟩ (ih vs (Nat.succ.inj hl) fun j v hj => ha (j + 1) v hj)
    refine hx _ _ ?_ fun j v hj => ?_
    · rw [Array.length_toList, h1, hlen]
    · rw [Array.getElem?_toList] at hj
      obtain ⟨c, u, e1, e2⟩ := h2 j v hj
      exact ⟨c, u, by rw [Array.getElem?_toList]; exact e1, e2⟩
  exact ⟨.ref s.heap.objs.size, _, I.laid (t' := tk) kp (Nat.le_refl _) (show ObjOk X.prog X.w _ h' _ (.lst _) from ⟨by rw [List.length_map, hlen]; exact hn, acc'.toList, c', rv, by simpa using e⟩), rfl, q _ (I.hok.fresh (Nat.le_refl _))⟩
theorem mulOk {z : Str} {n : Nat} (h : z.length * n ≤ 16777216) (hn : n ≤ 1000000000000000000) : MulOk z (n : Int) := by
  have hp : (2 : Int) ^ 63 = 9223372036854775808 := by decide
  refine ⟨?_, fun h1 h2 => ?_, fun h1 h2 => ?_⟩
  · rw [hp]
    rw [Bool.or_eq_false_iff]
    exact ⟨decide_eq_false (by omega), decide_eq_false (by omega)⟩
  · rw [hp]
    have h' : (z.length : Int) * (n : Int) ≤ 16777216 := by
      have h0 := Int.ofNat_le.mpr h
      rw [Int.natCast_mul] at h0
      exact h0
    have h3 : (z.length : Int) ≤ (9223372036854775808 - 1 : Int) / (n : Int) := Int.le_ediv_of_mul_le (by omega) (by omega)
    omega
  · rw [Int.toNat_natCast]
    unfold Builtin.Str.tooLong
    have h4 : z.length * n ≤ sizeLine := h
    simp only [gt_iff_lt, decide_eq_false_iff_not]
    omega
theorem foldl_reps (l : List Nat) : ∀ (n : Nat) (acc : Array Nat), (List.replicate n l.toArray).foldl (· ++ ·) acc = acc ++ ((List.replicate n l).flatten).toArray
  | 0, acc => by simp
  | n + 1, acc => by
    rw [List.replicate_succ, List.foldl_cons, foldl_reps l n, List.replicate_succ, List.flatten_cons]
    simp
theorem mul_tx (l : List Nat) (n : Nat) : Txt.mul (tx l) (n : Int) = tx (List.replicate n l).flatten := by
  unfold Txt.mul
  by_cases h : (n : Int) < 1
  · have e : n = 0 := by omega
    subst e
    rw [if_pos h]
    rfl
  · rw [if_neg h]
    by_cases h2 : ((n : Int) == 1 || (tx l).length == 0) = true
    · rw [if_pos h2]
      rw [Bool.or_eq_true] at h2
      rcases h2 with h2 | h2
      · have e : n = 1 := by
          have := eq_of_beq h2
          omega
        subst e
        simp
      · have e : l = [] := by
          have := eq_of_beq h2
          rw [tx_len] at this
          exact List.length_eq_zero_iff.mp this
        subst e
        simp
    · rw [if_neg h2]
      have e := foldl_reps l n #[]
      show (⟨(List.replicate (n : Int).toNat l.toArray).foldl (· ++ ·) #[]⟩ : Str) = _
      rw [Int.toNat_natCast, e]
      simp [tx]
/-- text * int -/
def rMulS : R2 := fun x y H Q => ∃ (l : List Nat) (n : Nat), x = .str (tx l) ∧ y = .int n ∧ l.length * n ≤ 16777216 ∧ n ≤ 1000000000000000000 ∧ Q (.str (tx (List.replicate n l).flatten)) H
theorem op_mulS {X : Cx} : OpR X (binaryOp .Mult) rMulS := by
  intro pins s σ H x y v u Q I rx ry h
  obtain ⟨l, n, rfl, rfl, hz, hn, q⟩ := h
  obtain ⟨t, rfl⟩ := rx
  obtain ⟨t', rfl⟩ := ry
  refine SB.mul (mulOk (by rw [tx_len]; exact hz) hn) fun t'' k => ?_
  rw [mul_tx]
  exact ⟨.str (tx (List.replicate n l).flatten), H, I.tok _, ⟨_, rfl⟩, q⟩
theorem join_tx (ls : List (List Nat)) : Txt.join (tx []) (ls.map tx) = tx ls.flatten := by
  have h : ∀ (r : List (List Nat)) (acc : Array Nat), (r.map tx).foldl (fun (acc : Array Nat) (p : Str) => acc ++ (tx []).cps ++ p.cps) acc = acc ++ r.flatten.toArray := by
    intro r
    induction r with
    | nil =>
      intro acc
      simp
    | cons x r ih =>
      intro acc
      rw [List.map_cons, List.foldl_cons, ih, List.flatten_cons]
      simp [tx]
  show Builtin.Str.glued (tx []) (ls.map tx) = _
  unfold Builtin.Str.glued
  cases ls with
  | nil => rfl
  | cons x r =>
    have e := h r x.toArray
    show (⟨(r.map tx).foldl (fun (acc : Array Nat) (p : Str) => acc ++ (tx []).cps ++ p.cps) x.toArray⟩ : Str) = _
    rw [e]
    simp [tx]
theorem b_sum : bootBuiltins "sum" = some (.builtin "sum") := by decide +kernel
/-! ### tuples stand -/
structure Tups (H H' : Hp) : Prop where
  t : ∀ (b : Addr) (xs : List V), H b = some (.tup xs) → H' b = some (.tup xs)
  f : ∀ (b : Addr) (o : Obj) (xs : List V), H b = some (.frz o (.tup xs)) → H' b = some (.frz o (.tup xs))
instance {H H' : Hp} : CoeFun (Tups H H') (fun _ => ∀ (b : Addr) (xs : List V), H b = some (.tup xs) → H' b = some (.tup xs)) := ⟨Tups.t⟩
theorem Tups.refl (H : Hp) : Tups H H := ⟨fun _ _ h => h, fun _ _ _ h => h⟩
theorem Tups.of {H H' : Hp} (s : Same H H') : Tups H H' := ⟨fun b xs h => s b _ h, fun b o xs h => s b _ h⟩
theorem Tups.trans {H H1 H2 : Hp} (a : Tups H H1) (b : Tups H1 H2) : Tups H H2 := ⟨fun c xs h => b.t c xs (a.t c xs h), fun c o xs h => b.f c o xs (a.f c o xs h)⟩
theorem Keep.tups {p q : Addr} {H H' : Hp} {ns : List Int} {z : Int} (k : Keep p q H H') (B : BoxAt H p q ns z) : Tups H H' := ⟨fun _ _ h => k.tup B h, fun b o xs h => k _ _ h (B.no h fun _ => by intro z; cases z).1 (B.no h fun _ => by intro z; cases z).2⟩
theorem Tups.lst {H : Hp} {a : Addr} {xs ys : List V} (h : H a = some (.lst xs)) : Tups H (upd H a (.lst ys)) := ⟨fun b zs e => by
  rw [upd_ne (ne_of e h (by intro z; cases z))]
  exact e, fun b o zs e => by
  rw [upd_ne (ne_of e h (by intro z; cases z))]
  exact e⟩
theorem PlanAt.tups {H H' : Hp} {v : V} {p : Pl} (h : PlanAt H v p) (e : Tups H H') : PlanAt H' v p := by
  obtain ⟨a, b, h1, h2, ob, h3, h4⟩ := h
  exact ⟨a, b, h1, e.t _ _ h2, ob, h3, e.f _ _ _ h4⟩
theorem TripAt.tups {H H' : Hp} {v : V} {t : Tr} (h : TripAt H v t) (e : Tups H H') : TripAt H' v t := by
  obtain ⟨a, h1, h2⟩ := h
  exact ⟨a, h1, e _ _ h2⟩
/-! ### works as they stand in the heap -/
mutual
def WAt (H : Hp) : W → V → Prop
  | .push c, v => ∃ a, v = .ref a ∧ H a = some (.tup [.str "push", .str (tx [c])])
  | .pop, v => ∃ a, v = .ref a ∧ H a = some (.tup [.str "pop"])
  | .row ws, v => ∃ a b vs, v = .ref a ∧ H a = some (.tup [.str "row", .ref b]) ∧ H b = some (.tup vs) ∧ WsAt H ws vs
  | .times n w, v => ∃ a u, v = .ref a ∧ H a = some (.tup [.str "times", .int (n : Int), u]) ∧ WAt H w u
def WsAt (H : Hp) : Ws → List V → Prop
  | .nil, vs => vs = []
  | .cons w r, vs => ∃ v s, vs = v :: s ∧ WAt H w v ∧ WsAt H r s
end
mutual
theorem WAt.tups {H H' : Hp} (e : Tups H H') : ∀ {w : W} {v : V}, WAt H w v → WAt H' w v
  | .push c, v, h => by
    obtain ⟨a, h1, h2⟩ := h
    exact ⟨a, h1, e _ _ h2⟩
  | .pop, v, h => by
    obtain ⟨a, h1, h2⟩ := h
    exact ⟨a, h1, e _ _ h2⟩
  | .row ws, v, h => by
    obtain ⟨a, b, vs, h1, h2, h3, h4⟩ := h
    exact ⟨a, b, vs, h1, e _ _ h2, e _ _ h3, WsAt.tups e h4⟩
  | .times n w, v, h => by
    obtain ⟨a, u, h1, h2, h3⟩ := h
    exact ⟨a, u, h1, e _ _ h2, WAt.tups e h3⟩
theorem WsAt.tups {H H' : Hp} (e : Tups H H') : ∀ {ws : Ws} {vs : List V}, WsAt H ws vs → WsAt H' ws vs
  | .nil, vs, h => h
  | .cons w r, vs, h => by
    obtain ⟨v, s, h1, h2, h3⟩ := h
    exact ⟨v, s, h1, WAt.tups e h2, WsAt.tups e h3⟩
end
def Ws.list : Ws → List W
  | .nil => []
  | .cons w r => w :: r.list
theorem Ws.len_list : ∀ ws : Ws, ws.list.length = ws.len
  | .nil => rfl
  | .cons w r => by
    show r.list.length + 1 = r.len + 1
    rw [r.len_list]
theorem WsAt.len {H : Hp} : ∀ {ws : Ws} {vs : List V}, WsAt H ws vs → vs.length = ws.list.length
  | .nil, vs, h => by
    cases h
    rfl
  | .cons w r, vs, h => by
    obtain ⟨v, s, rfl, h2, h3⟩ := h
    show s.length + 1 = r.list.length + 1
    rw [h3.len]
theorem WsAt.get {H : Hp} : ∀ {ws : Ws} {vs : List V}, WsAt H ws vs → ∀ {i : Nat} {x : V}, vs[i]? = some x → ∃ w, ws.list[i]? = some w ∧ WAt H w x
  | .nil, vs, h, i, x, e => by
    cases h
    cases e
  | .cons w r, vs, h, i, x, e => by
    obtain ⟨v, s, rfl, h2, h3⟩ := h
    cases i with
    | zero =>
      cases e
      exact ⟨w, rfl, h2⟩
    | succ i => exact h3.get (i := i) e
theorem Ws.siz_list : ∀ ws : Ws, ws.siz = (ws.list.map W.siz).sum
  | .nil => rfl
  | .cons w r => by
    show w.siz + r.siz = (w.siz :: r.list.map W.siz).sum
    rw [List.sum_cons, r.siz_list]
theorem Ws.cnt_list : ∀ ws : Ws, ws.cnt = (ws.list.map W.cnt).sum
  | .nil => rfl
  | .cons w r => by
    show w.cnt + r.cnt = (w.cnt :: r.list.map W.cnt).sum
    rw [List.sum_cons, r.cnt_list]
theorem Ws.prc_list (f : Nat → Int) : ∀ ws : Ws, ws.prc f = (ws.list.map (W.prc f)).sum
  | .nil => rfl
  | .cons w r => by
    show w.prc f + r.prc f = (w.prc f :: r.list.map (W.prc f)).sum
    rw [List.sum_cons, r.prc_list]
theorem Ws.lng_list : ∀ ws : Ws, ws.lng = (ws.list.map W.lng).flatten
  | .nil => rfl
  | .cons w r => by
    show w.lng ++ r.lng = (w.lng :: r.list.map W.lng).flatten
    rw [List.flatten_cons, r.lng_list]
theorem Ws.tri_list (room : Nat) : ∀ (ws : Ws) (t : Tr), ws.tri room t = ws.list.foldl (fun t w => tjoin t (w.tri room)) t
  | .nil, _ => rfl
  | .cons w r, t => r.tri_list room (tjoin t (w.tri room))
theorem Ws.dep_mem : ∀ {ws : Ws} {w : W}, w ∈ ws.list → w.dep ≤ ws.dep
  | .nil, w, h => by cases h
  | .cons w' r, w, h => by
    show w.dep ≤ max w'.dep r.dep
    rcases List.mem_cons.mp h with h | h
    · subst h
      exact Nat.le_max_left ..
    · exact Nat.le_trans (Ws.dep_mem h) (Nat.le_max_right ..)
theorem Ws.can_mem {many : Nat} : ∀ {ws : Ws} {w : W}, ws.Can many → w ∈ ws.list → w.Can many
  | .nil, w, _, h => by cases h
  | .cons w' r, w, c, h => by
    rcases List.mem_cons.mp h with h | h
    · subst h
      exact c.1
    · exact Ws.can_mem c.2 h
theorem Ws.tm_mem {t : Nat} : ∀ {ws : Ws} {w : W}, ws.Tm t → w ∈ ws.list → w.Tm t
  | .nil, w, _, h => by cases h
  | .cons w' r, w, c, h => by
    rcases List.mem_cons.mp h with h | h
    · subst h
      exact c.1
    · exact Ws.tm_mem c.2 h
theorem Ws.cnt_mem : ∀ {ws : Ws} {w : W}, w ∈ ws.list → w.cnt ≤ ws.cnt
  | .nil, w, h => by cases h
  | .cons w' r, w, h => by
    show w.cnt ≤ w'.cnt + r.cnt
    rcases List.mem_cons.mp h with h | h
    · subst h
      omega
    · have := Ws.cnt_mem h
      omega
theorem s_push : ¬ (("push" : Str) = "pop") := by decide +kernel
theorem s_pu_ro : ¬ (("push" : Str) = "row") := by decide +kernel
theorem s_pu_ti : ¬ (("push" : Str) = "times") := by decide +kernel
theorem s_po_pu : ¬ (("pop" : Str) = "push") := by decide +kernel
theorem s_po_ro : ¬ (("pop" : Str) = "row") := by decide +kernel
theorem s_po_ti : ¬ (("pop" : Str) = "times") := by decide +kernel
theorem s_ro_pu : ¬ (("row" : Str) = "push") := by decide +kernel
theorem s_ro_po : ¬ (("row" : Str) = "pop") := by decide +kernel
theorem s_ro_ti : ¬ (("row" : Str) = "times") := by decide +kernel
theorem s_ti_pu : ¬ (("times" : Str) = "push") := by decide +kernel
theorem s_ti_po : ¬ (("times" : Str) = "pop") := by decide +kernel
theorem s_ti_ro : ¬ (("times" : Str) = "row") := by decide +kernel
theorem vne {a b : Str} (h : ¬ a = b) : ¬ (V.str a = V.str b) := fun z => by
  injection z with z
  exact h z
theorem sign_at {M : Nat} {r : Int} (hm : M ≤ 4) (r0 : 0 ≤ r) (r1 : r < (M : Int)) : ∃ c : Nat, c ∈ signs M ∧ atI (("abcd" : Str).cps.toList) r = some c := by
  obtain ⟨R, rfl⟩ : ∃ R : Nat, r = (R : Int) := ⟨r.toNat, by omega⟩
  have hR : R < M := by omega
  have h3 : R < ([97, 98, 99, 100] : List Nat).length := by show R < 4; omega
  refine ⟨([97, 98, 99, 100] : List Nat)[R], ?_, ?_⟩
  · unfold signs
    exact List.mem_take_iff_getElem.mpr ⟨R, by rw [Nat.lt_min]; exact ⟨hR, h3⟩, rfl⟩
  · exact atI_nat (by rw [s_abcd]; exact List.getElem?_eq_getElem h3)
/-- what a work is made of -/
def W.within : W → Ws
  | .push _ => .nil
  | .pop => .nil
  | .row ws => ws
  | .times _ w => .cons w .nil
structure WOk (many : Nat) (w : W) : Prop where
  can : w.Can many
  siz : w.siz ≤ 60
  dep : w.dep ≤ 8
/-- what a step costs -/
def cst (p : Pl) (c : Nat) : Int := if c = 45 then p.pop else p.pr.getD (c - 97) 0
/-! ### promises -/
def spAlone : Sp := fun vs H Q _ => ∃ (w : W) (v : V) (D : Addr) (many : Nat), vs = [v, .ref D] ∧ WAt H w v ∧ H D = some (.lst ((signs many).map fun c => V.str (tx [c]))) ∧ w.Can many ∧ giv (.bl true) H Q
def spWithin : Sp := fun vs H Q _ => ∃ (w : W) (v : V), vs = [v] ∧ WAt H w v ∧ ∀ (H' : Hp) (u : Addr) (xs : List V), Same H H' → H' u = some (.tup xs) → WsAt H' w.within xs → Q (.ref u) H'
def spChWork : Sp := fun vs H Q _ => ∃ v p u w, vs = [v, u] ∧ PlanAt H v p ∧ p.Ok ∧ WAt H w u ∧ WOk p.many w ∧ giv .non H Q
def spTri (n : Nat) : Sp := fun vs H Q _ => ∃ v p u w, vs = [v, u] ∧ PlanAt H v p ∧ p.Ok ∧ WAt H w u ∧ w.Can p.many ∧ w.dep ≤ n ∧ givT (w.tri p.room) H Q
def spPower : Sp := fun vs H Q _ => ∃ (v : V) (p : Pl) (u : V) (t : Tr) (n : Nat), vs = [v, u, .int n] ∧ PlanAt H v p ∧ p.Ok ∧ TripAt H u t ∧ TrOk p.room p.many t ∧ n ≤ 1000000000000000000 ∧ givT (tpw p.room t n) H Q
def spTold : Sp := fun vs H Q _ => ∃ v p u w, vs = [v, u] ∧ PlanAt H v p ∧ p.Ok ∧ WAt H w u ∧ WOk p.many w ∧ givT (w.tri p.room) H Q
def spRun : Sp := fun vs H Q _ => ∃ v p u w l, vs = [v, u, .str (tx l)] ∧ PlanAt H v p ∧ p.Ok ∧ WAt H w u ∧ WOk p.many w ∧ l.length ≤ p.room ∧ (∀ c ∈ l, c ∈ signs p.many) ∧ giv (.str (tx (tby (w.tri p.room) l))) H Q
def spPStep : Sp := fun vs H Q _ => ∃ v p c, vs = [v, .str (tx [c])] ∧ PlanAt H v p ∧ p.Ok ∧ (c = 45 ∨ c ∈ signs p.many) ∧ giv (.int (cst p c)) H Q
def spPWork (n : Nat) : Sp := fun vs H Q _ => ∃ v p u w, vs = [v, u] ∧ PlanAt H v p ∧ p.Ok ∧ WAt H w u ∧ w.Can p.many ∧ w.dep ≤ n ∧ giv (.int (w.prc (cst p))) H Q
def spCost : Sp := fun vs H Q _ => ∃ v p u w, vs = [v, u] ∧ PlanAt H v p ∧ p.Ok ∧ WAt H w u ∧ WOk p.many w ∧ giv (.int (w.prc (cst p))) H Q
def spLTuples (n : Nat) : Sp := fun vs H Q _ => ∃ u w many, vs = [u] ∧ WAt H w u ∧ (w : W).Can many ∧ w.dep ≤ n ∧ giv (.int ((w : W).siz : Int)) H Q
def spLCount (n : Nat) : Sp := fun vs H Q _ => ∃ u w many, vs = [u] ∧ WAt H w u ∧ (w : W).Can many ∧ w.dep ≤ n ∧ giv (.int ((w : W).cnt : Int)) H Q
def spLLong (n : Nat) : Sp := fun vs H Q _ => ∃ u w many, vs = [u] ∧ WAt H w u ∧ (w : W).Can many ∧ w.dep ≤ n ∧ w.Tm 4 ∧ w.dep ≤ 8 ∧ giv (.str (tx w.lng)) H Q
def spLWork (n : Nat) : Sp := fun vs H Q _ => ∃ (p q : Addr) (ns : List Int) (z : Int) (v : V) (pl : Pl) (m tm : Nat), vs = [.ref p, v, .int (m : Int), .int (tm : Int)] ∧ BoxAt H p q ns z ∧ PlanAt H v pl ∧ pl.Ok ∧ 1 ≤ m ∧ m ≤ n ∧ tm ≤ 1000000000000000000 ∧
  ∀ (w : W) (u : V) (ns' : List Int) (z' : Int) (H' : Hp), w.Can pl.many → w.dep ≤ m → w.Tm tm → WAt H' w u → BoxAt H' p q ns' z' → Keep p q H H' → Q u H'
def spLSome (n : Nat) : Sp := fun vs H Q _ => ∃ (p q : Addr) (ns : List Int) (z : Int) (v : V) (pl : Pl) (m tm lim : Nat), vs = [.ref p, v, .int (m : Int), .int (tm : Int), .int (lim : Int)] ∧ BoxAt H p q ns z ∧ PlanAt H v pl ∧ pl.Ok ∧ 1 ≤ m ∧ m ≤ n ∧ 2 ≤ m ∧ 2 ≤ tm ∧ tm ≤ 1000000000000000000 ∧ 2 ≤ lim ∧
  ∀ (w : W) (u : V) (ns' : List Int) (z' : Int) (H' : Hp), w.Can pl.many → w.dep ≤ m → w.siz ≤ lim → w.Tm tm → WAt H' w u → BoxAt H' p q ns' z' → Keep p q H H' → Q u H'
def ofL : List W → Ws
  | [] => .nil
  | w :: r => .cons w (ofL r)
theorem ofL_len : ∀ l : List W, (ofL l).len = l.length
  | [] => rfl
  | w :: r => by
    show (ofL r).len + 1 = r.length + 1
    rw [ofL_len r]
theorem ofL_can {many : Nat} : ∀ l : List W, (∀ w ∈ l, w.Can many) → (ofL l).Can many
  | [], _ => trivial
  | w :: r, h => ⟨h w (List.mem_cons_self ..), ofL_can r fun x hx => h x (List.mem_cons_of_mem _ hx)⟩
theorem ofL_tm {t : Nat} : ∀ l : List W, (∀ w ∈ l, w.Tm t) → (ofL l).Tm t
  | [], _ => trivial
  | w :: r, h => ⟨h w (List.mem_cons_self ..), ofL_tm r fun x hx => h x (List.mem_cons_of_mem _ hx)⟩
theorem ofL_dep {n : Nat} : ∀ l : List W, (∀ w ∈ l, w.dep ≤ n) → (ofL l).dep ≤ n
  | [], _ => Nat.zero_le _
  | w :: r, h => by
    show max w.dep (ofL r).dep ≤ n
    exact Nat.max_le.mpr ⟨h w (List.mem_cons_self ..), ofL_dep r fun x hx => h x (List.mem_cons_of_mem _ hx)⟩
/-- works and their values, one by one -/
def W2 (H : Hp) : List W → List V → Prop
  | [], vs => vs = []
  | w :: r, vs => ∃ v s, vs = v :: s ∧ WAt H w v ∧ W2 H r s
theorem W2.ws {H : Hp} : ∀ {l : List W} {vs : List V}, W2 H l vs → WsAt H (ofL l) vs
  | [], _, h => h
  | _ :: _, _, h => by
    obtain ⟨v, s, h1, h2, h3⟩ := h
    exact ⟨v, s, h1, h2, h3.ws⟩
theorem W2.tups {H H' : Hp} (e : Tups H H') : ∀ {l : List W} {vs : List V}, W2 H l vs → W2 H' l vs
  | [], _, h => h
  | _ :: _, _, h => by
    obtain ⟨v, s, h1, h2, h3⟩ := h
    exact ⟨v, s, h1, h2.tups e, h3.tups e⟩
theorem W2.snoc {H : Hp} {w : W} {u : V} (hu : WAt H w u) : ∀ {l : List W} {vs : List V}, W2 H l vs → W2 H (l ++ [w]) (vs ++ [u])
  | [], _, h => by
    cases h
    exact ⟨u, [], rfl, hu, rfl⟩
  | _ :: _, _, h => by
    obtain ⟨v, s, rfl, h2, h3⟩ := h
    exact ⟨v, s ++ [u], rfl, h2, h3.snoc hu⟩
theorem W2.len {H : Hp} : ∀ {l : List W} {vs : List V}, W2 H l vs → vs.length = l.length
  | [], _, h => by
    cases h
    rfl
  | _ :: r, _, h => by
    obtain ⟨v, s, rfl, h2, h3⟩ := h
    show s.length + 1 = r.length + 1
    rw [h3.len]
theorem tx1_len : ∀ l : List Nat, ((l.map fun c => tx [c]).map (·.length)).sum = l.length
  | [] => rfl
  | c :: r => by
    show 1 + ((r.map fun c => tx [c]).map (·.length)).sum = r.length + 1
    rw [tx1_len r, Nat.add_comm]
theorem flat1 : ∀ l : List Nat, (l.map fun c => [c]).flatten = l
  | [] => rfl
  | c :: r => by
    show c :: (r.map fun c => [c]).flatten = c :: r
    rw [flat1 r]
end SK
namespace SK
theorem tpw_comm {room many : Nat} {t : Tr} (a : TrOk room many t) (n : Nat) : tpw room t (n + 1) = tjoin t (tpw room t n) := by
  have e := tpw_add a 1 n
  rw [tpw_one a, Nat.add_comm] at e
  exact e
/-- where nothing stays, whatever goes ahead -/
theorem tjoin_const {room many : Nat} {t u : Tr} (a : TrOk room many t) (b : TrOk room many u) (h : u.k = 0) : tjoin t u = u := by
  have hc : ∀ x, tby u x = u.l := fun x => by
    simp only [tby, h, tp_zero, List.nil_append]
  exact tr_ext (c := 97) (tjoin_ok a b) b fun s _ => by rw [tby_join, hc, hc]
theorem tidy_eq {g k : Nat} {l : List Nat} (h : k ≠ 0) : tidy g k l = ⟨g, k, l⟩ := by
  unfold tidy
  rw [if_neg h]
theorem tidy_k (g k : Nat) (l : List Nat) : (tidy g k l).k = k := by
  unfold tidy
  by_cases h : k = 0
  · rw [if_pos h]
    exact h.symm
  · rw [if_neg h]
theorem tjoin_k (t u : Tr) : (tjoin t u).k = min (t.k - (u.g - t.l.length)) (u.k - (ct u.g t.l).length) := tidy_k _ _ _
theorem tpw_k_le {room many : Nat} {t : Tr} (a : TrOk room many t) (n : Nat) : (tpw room t (n + 1)).k ≤ (tpw room t n).k := by
  show (tjoin (tpw room t n) t).k ≤ _
  rw [tjoin_k]
  omega
theorem tpw_same {room many : Nat} {t : Tr} (a : TrOk room many t) {n : Nat} (h : (tpw room t (n + 1)).k = (tpw room t n).k) (h0 : (tpw room t n).k ≠ 0) : tpw room t (n + 1) = tpw room t n := by
  have b := tpw_ok a n
  have e1 : tpw room t (n + 1) = tjoin (tpw room t n) t := rfl
  have e2 := tpw_comm a n
  generalize tpw room t n = u at h h0 b e1 e2
  have k1 : (tjoin u t).k = u.k := by rw [← e1]; exact h
  have k2 : (tjoin t u).k = u.k := by rw [← e2]; exact h
  rw [tjoin_k, len_ct] at k1 k2
  have g1 : t.g - u.l.length = 0 := by omega
  have g2 : t.l.length - u.g = 0 := by omega
  have x1 : tjoin u t = ⟨u.g, u.k, tp t.k (ct t.g u.l) ++ t.l⟩ := by
    unfold tjoin
    rw [tidy_eq (by rw [len_ct]; omega)]
    have e3 : min (u.k - (t.g - u.l.length)) (t.k - (ct t.g u.l).length) = u.k := by rw [len_ct]; exact k1
    rw [e3, g1, Nat.add_zero]
  have x2 : (tjoin t u).l = u.l := by
    unfold tjoin
    rw [tidy_eq (by rw [len_ct]; omega)]
    have e3 : ct u.g t.l = [] := ct_all (by omega)
    show tp u.k (ct u.g t.l) ++ u.l = u.l
    rw [e3]
    simp [tp]
  have x3 : tp t.k (ct t.g u.l) ++ t.l = u.l := by
    have e4 : tjoin u t = tjoin t u := e1.symm.trans e2
    rw [← e4, x1] at x2
    exact x2
  rw [e1, x1, x3]
theorem tpw_low {room many : Nat} {t : Tr} (a : TrOk room many t) (hr : 1 ≤ room) : ∀ n, 1 ≤ n → tpw room t (n + 1) = tpw room t n ∨ (tpw room t n).k + n ≤ room
  | 0, h => absurd h (by omega)
  | 1, _ => by
    by_cases h : t.k = room
    · refine .inl ?_
      have hg : t.g = 0 := by have := a.gk; omega
      have hl : t.l = [] := List.length_eq_zero_iff.mp (by have := a.kl; omega)
      have e : t = tunt room := by
        cases t
        simp only at h hg hl
        subst h hg hl
        rfl
      show tjoin (tpw room t 1) t = tpw room t 1
      rw [tpw_one a]
      have e5 : tjoin (tunt room) t = t := tunt_left a
      rw [← e] at e5
      exact e5
    · refine .inr ?_
      rw [tpw_one a]
      have := a.gk
      omega
  | n + 2, _ => by
    rcases tpw_low a hr (n + 1) (by omega) with h | h
    · refine .inl ?_
      show tjoin (tpw room t (n + 2)) t = tpw room t (n + 2)
      have h' : tpw room t (n + 2) = tpw room t (n + 1) := h
      rw [h']
      exact h'
    · have hle := tpw_k_le a (n + 1)
      have hle' : (tpw room t (n + 2)).k ≤ (tpw room t (n + 1)).k := hle
      by_cases h0 : (tpw room t (n + 1)).k = 0
      · refine .inl ?_
        have c1 : tpw room t (n + 2) = tpw room t (n + 1) := by
          rw [tpw_comm a (n + 1)]
          exact tjoin_const a (tpw_ok a _) h0
        show tjoin (tpw room t (n + 2)) t = tpw room t (n + 2)
        rw [c1]
        exact c1
      · by_cases h1 : (tpw room t (n + 2)).k = (tpw room t (n + 1)).k
        · refine .inl ?_
          have c1 : tpw room t (n + 2) = tpw room t (n + 1) := tpw_same a h1 h0
          show tjoin (tpw room t (n + 2)) t = tpw room t (n + 2)
          rw [c1]
          exact c1
        · exact .inr (by omega)
theorem tpw_next {room many : Nat} {t : Tr} (a : TrOk room many t) (hr : 1 ≤ room) {n : Nat} (h : room ≤ n) : tpw room t (n + 1) = tpw room t n := by
  rcases tpw_low a hr n (by omega) with e | e
  · exact e
  · rw [tpw_comm a n]
    exact tjoin_const a (tpw_ok a _) (by omega)
/-- from as many as there's room on -/
theorem tpw_far {room many : Nat} {t : Tr} (a : TrOk room many t) (hr : 1 ≤ room) : ∀ m, tpw room t (room + m) = tpw room t room
  | 0 => rfl
  | m + 1 => by
    have e := tpw_next a hr (n := room + m) (by omega)
    rw [tpw_far a hr m] at e
    exact e
theorem tpw_mul {room many : Nat} {t : Tr} (a : TrOk room many t) (m : Nat) : ∀ n, tpw room (tpw room t m) n = tpw room t (m * n)
  | 0 => rfl
  | n + 1 => by
    show tjoin (tpw room (tpw room t m) n) (tpw room t m) = _
    rw [tpw_mul a m n, Nat.mul_succ, tpw_add a]
end SK
namespace SK
open PySem PySem.Spec PyProof.Rows L2
/-! ### triples compared -/
def trD (t : Tr) : PyData := .tuple [.int t.g, .int t.k, .str (tx t.l)]
theorem dp_trip {K : PySem.W.Frag} {H : Hp} {v : V} {t : Tr} (h : TripAt H v t) : Dp K H v (trD t) := by
  obtain ⟨a, rfl, ha⟩ := h
  exact .tup (SqT.of ha) (.cons (.int _) (.cons (.int _) (.cons (.str _) .nil)))
theorem signs_lt {many c : Nat} (h : c ∈ signs many) : c < 1114112 := by
  have h4 := List.mem_of_mem_take (show c ∈ List.take many [97, 98, 99, 100] from h)
  have : c = 97 ∨ c = 98 ∨ c = 99 ∨ c = 100 := by simpa using h4
  omega
theorem strOk_tx {l : List Nat} (h : ∀ c ∈ l, c < 1114112) : PyData.strOk (tx l) = true := by
  show l.toArray.all (· < 0x110000) = true
  rw [Array.all_eq_true']
  intro c hc
  exact decide_eq_true (h c (by simpa using hc))
theorem trD_can {room many : Nat} {t : Tr} (a : TrOk room many t) : PyData.canLay0 (trD t) = true := by
  show (true && (true && (PyData.strOk (tx t.l) && true))) = true
  rw [strOk_tx fun c hc => signs_lt (a.s c hc)]
  rfl
theorem trD_shaped {room many : Nat} {t : Tr} (a : TrOk room many t) : SeqAt.shaped (trD t) = true := by
  show (PyData.canLay0 (trD t) && decide (PyData.depth (trD t) ≤ 64)) = true
  rw [trD_can a]
  rfl
theorem trD_eqv {room many : Nat} {t : Tr} (a : TrOk room many t) : PyData.eqv (trD t) (trD t) = true := SeqAt.eqv_refl _ (trD_can a)
/-- t != u of the same triple -/
theorem ne_trip {K : PySem.W.Frag} {H : Hp} {Q : VK} {v u : V} {room many : Nat} {t : Tr} (a : TrOk room many t) (hv : TripAt H v t) (hu : TripAt H u t) (q : Q (.bl false) H) : rNeD K v u H Q := by
  refine ⟨trD t, trD t, dp_trip hv, dp_trip hu, trD_shaped a, trD_shaped a, ?_⟩
  rw [trD_eqv a]
  exact q
def spTimes : Sp := fun vs H Q _ => ∃ n : Nat, vs = [.int (n : Int)] ∧ n ≤ 1000000000000000000 ∧ giv .non H Q
def spJoined : Sp := fun vs H Q _ => ∃ v p a b t u, vs = [v, a, b] ∧ PlanAt H v p ∧ p.Ok ∧ TripAt H a t ∧ TrOk p.room p.many t ∧ TripAt H b u ∧ TrOk p.room p.many u ∧ givT (tjoin t u) H Q
end SK
namespace SK
open PySem PySem.Spec PyProof.Rows L2
/-! ### the least stack that parts two triples -/
theorem tp_min {k j : Nat} {l : List Nat} (h : min k l.length = min j l.length) : tp k l = tp j l := by
  unfold tp
  congr 1
  omega
theorem same_upto {room many : Nat} {t u : Tr} (a : TrOk room many t) (b : TrOk room many u) {c : Nat} (st : List Nat) (h : ∀ s, s ≤ st.length → tby t (List.replicate s c) = tby u (List.replicate s c)) : tby t st = tby u st := by
  have h0 := h 0 (Nat.zero_le _)
  have hl : t.l = u.l := by
    simp only [tby, List.replicate_zero, ct, tp, List.length_nil, List.take_nil, List.drop_nil, List.nil_append] at h0
    exact h0
  have hn : ∀ s, s ≤ st.length → min t.k (s - t.g) = min u.k (s - u.g) := fun s hs => by
    have e := congrArg List.length (h s hs)
    rw [len_tby, len_tby, List.length_replicate, hl] at e
    omega
  have hv := hn st.length (Nat.le_refl _)
  simp only [tby]
  rw [hl]
  congr 1
  by_cases z : min t.k (st.length - t.g) = 0
  · have e1 : tp t.k (ct t.g st) = [] := List.length_eq_zero_iff.mp (by rw [len_tp, len_ct]; exact z)
    have e2 : tp u.k (ct u.g st) = [] := List.length_eq_zero_iff.mp (by rw [len_tp, len_ct]; omega)
    rw [e1, e2]
  · have x1 := hn (t.g + 1) (by omega)
    have x2 := hn (u.g + 1) (by omega)
    have hg : t.g = u.g := by omega
    rw [hg]
    refine tp_min ?_
    rw [len_ct]
    rw [hg] at hv
    exact hv
theorem rep_lay {many : Nat} (hm : 97 ∈ signs many) : ∀ n, ∃ r, lay many n = List.replicate n 97 :: r
  | 0 => ⟨[], rfl⟩
  | n + 1 => by
    obtain ⟨r, e⟩ := rep_lay hm n
    have hs : ∃ s, signs many = 97 :: s := by
      cases many with
      | zero => simp [signs] at hm
      | succ m => exact ⟨_, List.take_succ_cons ..⟩
    obtain ⟨s, es⟩ := hs
    refine ⟨(s.map fun c => List.replicate n 97 ++ [c]) ++ r.flatMap fun l => (signs many).map fun c => l ++ [c], ?_⟩
    show (lay many n).flatMap (fun l => (signs many).map fun c => l ++ [c]) = _
    rw [e, List.flatMap_cons, es, List.map_cons, List.cons_append, List.replicate_succ']
theorem rep_stk {many : Nat} (hm : 97 ∈ signs many) : ∀ {n s : Nat}, s ≤ n → List.replicate s 97 ∈ stk many n
  | 0, s, h => by
    have e : s = 0 := by omega
    subst e
    exact List.mem_singleton.mpr rfl
  | n + 1, s, h => by
    by_cases e : s = n + 1
    · subst e
      obtain ⟨r, er⟩ := rep_lay hm (n + 1)
      refine List.mem_append.mpr (.inr ?_)
      rw [er]
      exact List.mem_cons_self ..
    · exact List.mem_append.mpr (.inl (rep_stk hm (by omega)))
/-- the stacks ahead of the least of a size -/
theorem stk_split {many : Nat} (hm : 97 ∈ signs many) : ∀ {n s : Nat}, s ≤ n → ∃ a b, stk many n = a ++ List.replicate s 97 :: b ∧ ∀ x ∈ a, x.length < s
  | 0, s, h => by
    have e : s = 0 := by omega
    subst e
    exact ⟨[], [], rfl, fun x hx => by simp at hx⟩
  | n + 1, s, h => by
    by_cases e : s = n + 1
    · subst e
      obtain ⟨r, er⟩ := rep_lay hm (n + 1)
      refine ⟨stk many n, r, ?_, fun x hx => Nat.lt_succ_of_le (stk_mem hx).1⟩
      show stk many n ++ lay many (n + 1) = _
      rw [er]
    · obtain ⟨a, b, e1, e2⟩ := stk_split hm (n := n) (s := s) (by omega)
      refine ⟨a, b ++ lay many (n + 1), ?_, e2⟩
      show stk many n ++ lay many (n + 1) = _
      rw [e1]
      simp
def Unl (t u : Tr) (st : List Nat) : Bool := decide (tby t st ≠ tby u st)
theorem unl_first {room many : Nat} {t u : Tr} (a : TrOk room many t) (b : TrOk room many u) (hm : 97 ∈ signs many) {s : Nat} (hs : s ≤ room) (h1 : tby t (List.replicate s 97) ≠ tby u (List.replicate s 97))
    (h2 : ∀ s', s' < s → tby t (List.replicate s' 97) = tby u (List.replicate s' 97)) : ∃ r, (stk many room).filter (Unl t u) = List.replicate s 97 :: r := by
  obtain ⟨x, y, e1, e2⟩ := stk_split hm hs
  refine ⟨y.filter (Unl t u), ?_⟩
  rw [e1, List.filter_append]
  have e3 : x.filter (Unl t u) = [] := by
    rw [List.filter_eq_nil_iff]
    intro st hst
    have e4 := same_upto a b (c := 97) st fun s' hs' => h2 s' (by have := e2 st hst; omega)
    simp [Unl, e4]
  rw [e3, List.nil_append, List.filter_cons_of_pos]
  exact decide_eq_true h1
theorem unl_none {room many : Nat} {t u : Tr} (a : TrOk room many t) (b : TrOk room many u) (h : ∀ s, s ≤ room → tby t (List.replicate s 97) = tby u (List.replicate s 97)) : t = u := tr_ext (c := 97) a b h
theorem unl_nil {room many : Nat} {t u : Tr} (a : TrOk room many t) (b : TrOk room many u) (hm : 97 ∈ signs many) : (stk many room).filter (Unl t u) = [] ↔ t = u := by
  constructor
  · intro h
    refine tr_ext (c := 97) a b fun s hs => ?_
    by_cases e : tby t (List.replicate s 97) = tby u (List.replicate s 97)
    · exact e
    · have h2 := List.filter_eq_nil_iff.mp h _ (rep_stk hm hs)
      exact absurd (decide_eq_true e) h2
  · intro h
    subst h
    rw [List.filter_eq_nil_iff]
    intro st _
    simp [Unl]
/-! ### values compared -/
theorem eqv_trD {t u : Tr} : PyData.eqv (trD t) (trD u) = true ↔ t = u := by
  have e : PyData.eqv (trD t) (trD u) = (((t.g : Int) == (u.g : Int)) && (((t.k : Int) == (u.k : Int)) && ((tx t.l == tx u.l) && true))) := by
    simp [trD, PyData.eqv, PyData.eqvAll]
  rw [e]
  constructor
  · intro h
    simp only [Bool.and_eq_true, beq_iff_eq, Bool.and_true] at h
    obtain ⟨h1, h2, h3⟩ := h
    have h4 := str_inj.mp h3
    cases t
    cases u
    simp only at h1 h2 h4
    have h1' := Int.ofNat.inj h1
    have h2' := Int.ofNat.inj h2
    subst h1' h2' h4
    rfl
  · intro h
    subst h
    simp
theorem dpTx {K : PySem.W.Frag} {H : Hp} : ∀ ls : List (List Nat), DpAll K H (ls.map fun l => V.str (tx l)) (ls.map fun l => PyData.str (tx l))
  | [] => .nil
  | l :: r => .cons (.str _) (dpTx r)
theorem shTx : ∀ ls : List (List Nat), (∀ l ∈ ls, ∀ c ∈ l, c < 1114112) → SeqAt.shaped (.list (ls.map fun l => PyData.str (tx l))) = true := fun ls h => by
  have h1 : ∀ ls : List (List Nat), (∀ l ∈ ls, ∀ c ∈ l, c < 1114112) → PyData.canLayAll0 (ls.map fun l => PyData.str (tx l)) = true := fun ls h => by
    induction ls with
    | nil => rfl
    | cons l r ih =>
      show (PyData.strOk (tx l) && PyData.canLayAll0 (r.map _)) = true
      rw [strOk_tx (h l (List.mem_cons_self ..)), ih fun x hx => h x (List.mem_cons_of_mem _ hx)]
      rfl
  have h2 : ∀ ls : List (List Nat), PyData.depthAll (ls.map fun l => PyData.str (tx l)) = 0 := fun ls => by
    induction ls with
    | nil => rfl
    | cons l r ih =>
      show max 0 (PyData.depthAll (r.map _)) = 0
      rw [ih]
      rfl
  show (PyData.canLayAll0 _ && decide (PyData.depthAll _ + 1 ≤ 64)) = true
  rw [h1 ls h, h2]
  rfl
theorem eqNil {ls : List (List Nat)} : PyData.eqv (.list (ls.map fun l => PyData.str (tx l))) (.list []) = decide (ls = []) := by
  cases ls with
  | nil => rfl
  | cons l r =>
    show PyData.eqvAll _ _ = _
    simp [PyData.eqvAll]
/-- a list of texts == [] -/
theorem eq_nil {K : PySem.W.Frag} {H : Hp} {Q : VK} {a b : Addr} {ls : List (List Nat)} (ha : H a = some (.lst (ls.map fun l => V.str (tx l)))) (hb : H b = some (.lst [])) (hc : ∀ l ∈ ls, ∀ c ∈ l, c < 1114112) (q : Q (.bl (decide (ls = []))) H) : rEqD K (.ref a) (.ref b) H Q := by
  refine ⟨_, .list [], .lst (SqL.of ha) (dpTx ls), .lst (SqL.of hb) .nil, shTx ls hc, rfl, ?_⟩
  rw [eqNil]
  exact q
theorem ne_nil {K : PySem.W.Frag} {H : Hp} {Q : VK} {a b : Addr} {ls : List (List Nat)} (ha : H a = some (.lst (ls.map fun l => V.str (tx l)))) (hb : H b = some (.lst [])) (hc : ∀ l ∈ ls, ∀ c ∈ l, c < 1114112) (q : Q (.bl (!decide (ls = []))) H) : rNeD K (.ref a) (.ref b) H Q := by
  refine ⟨_, .list [], .lst (SqL.of ha) (dpTx ls), .lst (SqL.of hb) .nil, shTx ls hc, rfl, ?_⟩
  rw [eqNil]
  exact q
theorem eq_trip {K : PySem.W.Frag} {H : Hp} {Q : VK} {v u : V} {room many : Nat} {t s : Tr} (a : TrOk room many t) (b : TrOk room many s) (hv : TripAt H v t) (hu : TripAt H u s) (q : ∀ k : Bool, (k = true ↔ t = s) → Q (.bl k) H) : rEqD K v u H Q :=
  ⟨trD t, trD s, dp_trip hv, dp_trip hu, trD_shaped a, trD_shaped b, q _ eqv_trD⟩
/-! ### promises -/
def spAlikeW : Sp := fun vs H Q _ => ∃ v p a b t u, vs = [v, a, b] ∧ PlanAt H v p ∧ p.Ok ∧ WAt H t a ∧ WOk p.many t ∧ WAt H u b ∧ WOk p.many u ∧ ∀ (k : Bool) (H' : Hp), Same H H' → (k = true ↔ t.tri p.room = u.tri p.room) → Q (.bl k) H'
def spParting : Sp := fun vs H Q _ => ∃ v p a b t u, vs = [v, a, b] ∧ PlanAt H v p ∧ p.Ok ∧ WAt H t a ∧ WOk p.many t ∧ WAt H u b ∧ WOk p.many u ∧
  (∀ (s : Nat) (H' : Hp), Same H H' → s ≤ p.room → tby (t.tri p.room) (List.replicate s 97) ≠ tby (u.tri p.room) (List.replicate s 97) → (∀ s', s' < s → tby (t.tri p.room) (List.replicate s' 97) = tby (u.tri p.room) (List.replicate s' 97)) → Q (.str (tx (List.replicate s 97))) H') ∧
  (∀ H', Same H H' → (∀ s, s ≤ p.room → tby (t.tri p.room) (List.replicate s 97) = tby (u.tri p.room) (List.replicate s 97)) → Q .non H')
def asWork (s : List Nat) : List W := s.map fun c => if c = 45 then .pop else .push c
def spAsWork : Sp := fun vs H Q _ => ∃ l, vs = [.str (tx l)] ∧ l.length ≤ 40 ∧ ∀ (u : V) (H' : Hp), Same H H' → WAt H' (.row (ofL (asWork l))) u → Q u H'
end SK
/-! what comes ahead of a stack: the mathematics of row 7 -/
namespace SK
/-! ### all texts of one size, in turn -/
theorem lay_add (many a : Nat) : ∀ b, lay many (a + b) = (lay many a).flatMap fun x => (lay many b).map fun y => x ++ y
  | 0 => by
    show lay many a = (lay many a).flatMap fun x => [x ++ []]
    have e : (fun x : List Nat => [x ++ []]) = fun x => [x] := funext fun x => by rw [List.append_nil]
    rw [e]
    induction lay many a with
    | nil => rfl
    | cons x r ih => rw [List.flatMap_cons, ← ih]; rfl
  | b + 1 => by
    show (lay many (a + b)).flatMap (fun l => (signs many).map fun c => l ++ [c]) = _
    rw [lay_add many a b, List.flatMap_assoc]
    refine congrArg (fun f => (lay many a).flatMap f) (funext fun x => ?_)
    show _ = (((lay many b).flatMap fun l => (signs many).map fun c => l ++ [c])).map fun y => x ++ y
    rw [List.map_flatMap, List.flatMap_map]
    refine congrArg (fun f => (lay many b).flatMap f) (funext fun y => ?_)
    rw [List.map_map]
    refine congrArg (fun f => (signs many).map f) (funext fun c => ?_)
    show x ++ y ++ [c] = x ++ (y ++ [c])
    rw [List.append_assoc]
theorem lex_snoc {x y : List Nat} (h : x < y) (hl : x.length = y.length) (c d : Nat) : x ++ [c] < y ++ [d] := by
  induction x generalizing y with
  | nil =>
    cases y with
    | nil => exact absurd h (List.lt_irrefl _)
    | cons b y => cases hl
  | cons a x ih =>
    cases y with
    | nil => cases hl
    | cons b y =>
      rcases List.cons_lt_cons_iff.mp h with h1 | ⟨h1, h2⟩
      · exact List.cons_lt_cons_iff.mpr (.inl h1)
      · exact List.cons_lt_cons_iff.mpr (.inr ⟨h1, ih h2 (Nat.succ.inj hl)⟩)
theorem lex_last {x : List Nat} {c d : Nat} (h : c < d) : x ++ [c] < x ++ [d] := by
  induction x with
  | nil => exact List.cons_lt_cons_iff.mpr (.inl h)
  | cons a x ih => exact List.cons_lt_cons_iff.mpr (.inr ⟨rfl, ih⟩)
theorem signs_up (many : Nat) : (signs many).Pairwise (· < ·) := by
  unfold signs
  exact List.Pairwise.sublist (List.take_sublist _ _) (by decide)
theorem lay_up (many : Nat) : ∀ n, (lay many n).Pairwise (· < ·)
  | 0 => List.pairwise_singleton _ _
  | n + 1 => by
    show ((lay many n).flatMap fun l => (signs many).map fun c => l ++ [c]).Pairwise _
    rw [List.pairwise_flatMap]
    refine ⟨fun l _ => ?_, ?_⟩
    · rw [List.pairwise_map]
      exact (signs_up many).imp fun h => lex_last h
    · refine (List.Pairwise.and_mem.mp (lay_up many n)).imp fun {x y} h => ?_
      intro u hu v hv
      obtain ⟨c, _, rfl⟩ := List.mem_map.mp hu
      obtain ⟨d, _, rfl⟩ := List.mem_map.mp hv
      exact lex_snoc h.2.2 ((lay_mem h.1).1.trans (lay_mem h.2.1).1.symm) c d
theorem mem_lay {many : Nat} : ∀ {n : Nat} {l : List Nat}, l.length = n → (∀ c ∈ l, c ∈ signs many) → l ∈ lay many n
  | 0, l, h, _ => by
    have e := List.length_eq_zero_iff.mp h
    subst e
    exact List.mem_singleton.mpr rfl
  | n + 1, l, h, hs => by
    have hne : l ≠ [] := fun z => by
      subst z
      cases h
    show l ∈ (lay many n).flatMap fun l => (signs many).map fun c => l ++ [c]
    refine List.mem_flatMap.mpr ⟨l.dropLast, mem_lay (by rw [List.length_dropLast, h]; rfl) (fun c hc => hs c (List.dropLast_subset l hc)), ?_⟩
    refine List.mem_map.mpr ⟨l.getLast hne, hs _ (List.getLast_mem hne), List.dropLast_concat_getLast hne⟩
theorem mem_stk {many : Nat} : ∀ {n : Nat} {l : List Nat}, l.length ≤ n → (∀ c ∈ l, c ∈ signs many) → l ∈ stk many n
  | 0, l, h, hs => mem_lay (Nat.le_zero.mp h) hs
  | n + 1, l, h, hs => by
    show l ∈ stk many n ++ lay many (n + 1)
    by_cases h1 : l.length = n + 1
    · exact List.mem_append_right _ (mem_lay h1 hs)
    · exact List.mem_append_left _ (mem_stk (by omega) hs)
/-- by size, then as texts rise -/
def Bef (x y : List Nat) : Prop := x.length < y.length ∨ (x.length = y.length ∧ x < y)
theorem stk_up (many : Nat) : ∀ n, (stk many n).Pairwise Bef
  | 0 => List.pairwise_singleton _ _
  | n + 1 => by
    show (stk many n ++ lay many (n + 1)).Pairwise _
    rw [List.pairwise_append]
    refine ⟨stk_up many n, ?_, fun x hx y hy => .inl ?_⟩
    · exact (List.Pairwise.and_mem.mp (lay_up many (n + 1))).imp fun {x y} h => .inr ⟨(lay_mem h.1).1.trans (lay_mem h.2.1).1.symm, h.2.2⟩
    · have := (stk_mem hx).1
      have := (lay_mem hy).1
      omega
theorem filter_one {α : Type} {R : α → α → Prop} (irr : ∀ x, ¬ R x x) (p : α → Bool) {u : α} (hp : ∀ x, p x = true ↔ x = u) : ∀ {l : List α}, l.Pairwise R → u ∈ l → l.filter p = [u]
  | [], _, h => by cases h
  | x :: r, hw, h => by
    obtain ⟨h1, h2⟩ := List.pairwise_cons.mp hw
    by_cases hx : x = u
    · subst hx
      rw [List.filter_cons_of_pos ((hp x).mpr rfl)]
      have e : r.filter p = [] := List.filter_eq_nil_iff.mpr fun y hy hpy => by
        have := (hp y).mp hpy
        subst this
        exact irr _ (h1 _ hy)
      rw [e]
    · rw [List.filter_cons_of_neg (fun z => hx ((hp x).mp z))]
      rcases List.mem_cons.mp h with h | h
      · exact absurd h.symm hx
      · exact filter_one irr p hp h2 h
theorem lay_first (many : Nat) (h : 1 ≤ many) : ∀ n, (lay many n).head? = some (List.replicate n 97)
  | 0 => rfl
  | n + 1 => by
    have ih := lay_first many h n
    show ((lay many n).flatMap fun l => (signs many).map fun c => l ++ [c]).head? = _
    cases e : lay many n with
    | nil =>
      rw [e] at ih
      cases ih
    | cons x r =>
      rw [e] at ih
      have ex : x = List.replicate n 97 := Option.some.inj ih
      subst ex
      have es : ∃ r2, signs many = 97 :: r2 := by
        obtain ⟨m, rfl⟩ : ∃ m, many = m + 1 := ⟨many - 1, by omega⟩
        exact ⟨_, rfl⟩
      obtain ⟨r2, es⟩ := es
      rw [List.flatMap_cons, es, List.map_cons, List.cons_append, List.head?_cons, ← List.replicate_succ']
/-! ### how many -/
def tupto (many : Nat) : Nat → Nat
  | 0 => 1
  | n + 1 => tupto many n + many ^ (n + 1)
theorem signs_l {many : Nat} (h : many ≤ 4) : (signs many).length = many := by
  unfold signs
  rw [List.length_take]
  exact Nat.min_eq_left h
theorem lay_l {many : Nat} (h : many ≤ 4) (n : Nat) : (lay many n).length = many ^ n := by rw [lay_len, signs_l h]
theorem stk_l {many : Nat} (h : many ≤ 4) : ∀ n, (stk many n).length = tupto many n
  | 0 => rfl
  | n + 1 => by
    show (stk many n ++ lay many (n + 1)).length = _
    rw [List.length_append, stk_l h n, lay_l h]
    rfl
/-- the stacks that become this one -/
def bef (room many : Nat) (t : Tr) (s : List Nat) : List (List Nat) := (stk many room).filter fun x => decide (tby t x = s)
def bleft (room many g k u : Nat) : Nat := if k = 0 then tupto many room else if u = 0 then tupto many g else if u < k then many ^ g else many ^ g * tupto many (room - k - g)
def bfirst (g : Nat) (u : List Nat) : List Nat := if u = [] then [] else u ++ List.replicate g 97
theorem tby_iff {t : Tr} {u x : List Nat} : tby t x = u ++ t.l ↔ tp t.k (ct t.g x) = u := by
  unfold tby
  exact List.append_left_inj _
/-- parts of the stacks, size by size -/
theorem stk_filter_const {many : Nat} (p : List Nat → Bool) {c : Nat} {F : List (List Nat)} (h : ∀ m, m ≠ c → (lay many m).filter p = []) (hc : (lay many c).filter p = F) : ∀ n, (stk many n).filter p = if c ≤ n then F else []
  | 0 => by
    show (lay many 0).filter p = _
    by_cases h0 : c = 0
    · subst h0
      rw [if_pos (Nat.le_refl _)]
      exact hc
    · rw [if_neg (by omega)]
      exact h 0 (by omega)
  | n + 1 => by
    show (stk many n ++ lay many (n + 1)).filter p = _
    rw [List.filter_append, stk_filter_const p h hc n]
    by_cases h1 : c = n + 1
    · subst h1
      rw [if_neg (by omega), if_pos (Nat.le_refl _), List.nil_append, hc]
    · rw [h _ (fun z => h1 z.symm), List.append_nil]
      by_cases h2 : c ≤ n
      · rw [if_pos h2, if_pos (by omega)]
      · rw [if_neg h2, if_neg (by omega)]
theorem lay_filter_app {many : Nat} (p : List Nat → Bool) (a b : Nat) : (lay many (a + b)).filter p = (lay many a).flatMap fun x => ((lay many b).map fun y => x ++ y).filter p := by
  rw [lay_add, List.filter_flatMap]
theorem tp_nil_iff {k : Nat} (h : 0 < k) {x : List Nat} : tp k x = [] ↔ x = [] := by
  constructor
  · intro e
    have := congrArg List.length e
    rw [len_tp, List.length_nil] at this
    exact List.length_eq_zero_iff.mp (by omega)
  · intro e
    subst e
    exact tp_all (Nat.zero_le _)
theorem ct_nil_iff {g : Nat} {x : List Nat} : ct g x = [] ↔ x.length ≤ g := by
  constructor
  · intro e
    have := congrArg List.length e
    rw [len_ct] at this
    simp at this
    omega
  · exact ct_all
theorem ct_app_eq {g : Nat} {x y : List Nat} (h : y.length = g) : ct g (x ++ y) = x := by
  rw [ct_app_ge (by omega), h, Nat.sub_self, ct_zero]
theorem filter_all {α : Type} (p : α → Bool) (l : List α) (h : ∀ x ∈ l, p x = true) : l.filter p = l := List.filter_eq_self.mpr h
theorem filter_none {α : Type} (p : α → Bool) (l : List α) (h : ∀ x ∈ l, ¬ p x = true) : l.filter p = [] := List.filter_eq_nil_iff.mpr h
theorem flatMap_pick {α β : Type} (f : α → List β) (g : α → List β) : ∀ (l : List α), (∀ x ∈ l, f x = g x) → l.flatMap f = l.flatMap g
  | [], _ => rfl
  | x :: r, h => by
    rw [List.flatMap_cons, List.flatMap_cons, h x (List.mem_cons_self ..), flatMap_pick f g r fun y hy => h y (List.mem_cons_of_mem _ hy)]
theorem flatMap_if {α β : Type} (p : α → Bool) (g : α → List β) : ∀ (l : List α), (l.flatMap fun x => if p x = true then g x else []) = (l.filter p).flatMap g
  | [] => rfl
  | x :: r => by
    rw [List.flatMap_cons, flatMap_if p g r]
    by_cases h : p x = true
    · rw [if_pos h, List.filter_cons_of_pos h, List.flatMap_cons]
    · rw [if_neg h, List.filter_cons_of_neg h, List.nil_append]
theorem stk_filter_le {many : Nat} (g : Nat) (p : List Nat → Bool) (hp : ∀ x, p x = true ↔ x.length ≤ g) : ∀ n, (stk many n).filter p = stk many (min n g)
  | 0 => by
    show (lay many 0).filter p = _
    rw [Nat.zero_min]
    exact filter_all p _ fun x hx => (hp x).mpr (by have := (lay_mem hx).1; omega)
  | n + 1 => by
    show (stk many n ++ lay many (n + 1)).filter p = _
    rw [List.filter_append, stk_filter_le g p hp n]
    by_cases h : n + 1 ≤ g
    · rw [filter_all p (lay many (n + 1)) fun x hx => (hp x).mpr (by have := (lay_mem hx).1; omega), Nat.min_eq_left h, Nat.min_eq_left (by omega)]
      rfl
    · rw [filter_none p (lay many (n + 1)) fun x hx z => h (by have := (hp x).mp z; have := (lay_mem hx).1; omega), List.append_nil]
      congr 1
      omega
theorem stk_first (many : Nat) : ∀ n, (stk many n).head? = some []
  | 0 => rfl
  | n + 1 => by
    show (stk many n ++ lay many (n + 1)).head? = _
    rw [List.head?_append, stk_first many n]
    rfl
/-- where as many stay as can -/
theorem stk_filter_deep {many g : Nat} (hm : many ≤ 4) (h1 : 1 ≤ many) {u : List Nat} (u0 : u.length ≠ 0) (p : List Nat → Bool) (hu : ∀ c ∈ u, c ∈ signs many) (hp : ∀ x, p x = true ↔ tp u.length (ct g x) = u) : ∀ n,
    ((stk many n).filter p).length = (if n < u.length + g then 0 else many ^ g * tupto many (n - (u.length + g))) ∧ ((stk many n).filter p).head? = if n < u.length + g then none else some (u ++ List.replicate g 97) := by
  have hlow : ∀ m, m < u.length + g → (lay many m).filter p = [] := fun m hm => filter_none _ _ fun x hx z => by
    have e := congrArg List.length ((hp x).mp z)
    rw [len_tp, len_ct] at e
    have := (lay_mem hx).1
    omega
  have hat : ∀ j, (lay many (j + u.length + g)).filter p = (lay many j).flatMap fun w => (lay many g).map fun v => w ++ u ++ v := fun j => by
    rw [lay_filter_app]
    have e1 : ((lay many (j + u.length)).flatMap fun x => ((lay many g).map fun y => x ++ y).filter p) = (lay many (j + u.length)).flatMap fun x => if decide (tp u.length x = u) = true then (lay many g).map fun y => x ++ y else [] :=
      flatMap_pick _ _ _ fun x hx => by
        by_cases h : tp u.length x = u
        · rw [if_pos (decide_eq_true h)]
          refine filter_all _ _ fun z hz => ?_
          obtain ⟨y, hy, rfl⟩ := List.mem_map.mp hz
          exact (hp _).mpr (by rw [ct_app_eq (lay_mem hy).1]; exact h)
        · rw [if_neg (fun z => h (of_decide_eq_true z))]
          refine filter_none _ _ fun z hz hz2 => ?_
          obtain ⟨y, hy, rfl⟩ := List.mem_map.mp hz
          have := (hp _).mp hz2
          rw [ct_app_eq (lay_mem hy).1] at this
          exact h this
    rw [e1, flatMap_if (fun x => decide (tp u.length x = u)), lay_filter_app]
    have e2 : ((lay many j).flatMap fun x => ((lay many u.length).map fun y => x ++ y).filter fun x => decide (tp u.length x = u)) = (lay many j).flatMap fun x => [x ++ u] :=
      flatMap_pick _ _ _ fun x hx => by
        rw [List.filter_map]
        have e3 : (lay many u.length).filter ((fun x => decide (tp u.length x = u)) ∘ fun y => x ++ y) = (lay many u.length).filter fun y => decide (y = u) := List.filter_congr fun y hy => by
          have hy2 := (lay_mem hy).1
          show decide (tp u.length (x ++ y) = u) = decide (y = u)
          have e4 : tp u.length (x ++ y) = y := by
            rw [tp_app, hy2, Nat.sub_self, tp_zero, List.nil_append]
            exact tp_all (Nat.le_of_eq hy2)
          rw [e4]
        rw [e3, filter_one (R := (· < ·)) (fun x => List.lt_irrefl x) (fun y => decide (y = u)) (u := u) (fun x => decide_eq_true_iff) (lay_up many _) (mem_lay rfl hu)]
        rfl
    rw [e2, List.flatMap_assoc]
    exact flatMap_pick _ _ _ fun x hx => by simp
  have hlen : ∀ j, ((lay many (j + u.length + g)).filter p).length = many ^ j * many ^ g := fun j => by
    rw [hat]
    have : ∀ l : List (List Nat), (l.flatMap fun w => (lay many g).map fun v => w ++ u ++ v).length = l.length * many ^ g := fun l => by
      induction l with
      | nil => simp
      | cons w r ih => rw [List.flatMap_cons, List.length_append, ih, List.length_map, lay_l hm, List.length_cons, Nat.succ_mul, Nat.add_comm]
    rw [this, lay_l hm]
  intro n
  induction n with
  | zero =>
    show ((lay many 0).filter p).length = _ ∧ ((lay many 0).filter p).head? = _
    by_cases h : 0 < u.length + g
    · rw [hlow 0 h, if_pos h, if_pos h]
      exact ⟨rfl, rfl⟩
    · have e : u = [] := List.length_eq_zero_iff.mp (by omega)
      have e2 : g = 0 := by omega
      subst e e2
      rw [if_neg (by simp), if_neg (by simp)]
      have := hat 0
      simp only [List.length_nil, Nat.add_zero] at this
      rw [this]
      simp [lay, tupto]
  | succ n ih =>
    have e : (stk many (n + 1)).filter p = (stk many n).filter p ++ (lay many (n + 1)).filter p := by
      show (stk many n ++ lay many (n + 1)).filter p = _
      rw [List.filter_append]
    rw [e, List.length_append, List.head?_append, ih.1, ih.2]
    by_cases h : n + 1 < u.length + g
    · rw [if_pos h, if_pos h, if_pos (by omega), if_pos (by omega), hlow _ h]
      exact ⟨rfl, rfl⟩
    · rw [if_neg h, if_neg h]
      by_cases h2 : n < u.length + g
      · rw [if_pos h2, if_pos h2]
        have h3 : n + 1 = 0 + u.length + g := by omega
        rw [h3, hlen, hat]
        have e5 : 0 + u.length + g - (u.length + g) = 0 := by omega
        rw [e5]
        refine ⟨by simp [tupto], ?_⟩
        show (((lay many 0).flatMap fun w => (lay many g).map fun v => w ++ u ++ v)).head? = _
        show ((((lay many g).map fun v => [] ++ u ++ v)) ++ []).head? = _
        rw [List.append_nil, List.head?_map, lay_first many h1]
        simp
      · rw [if_neg h2, if_neg h2]
        have h3 : n + 1 = (n + 1 - (u.length + g)) + u.length + g := by omega
        have h4 : n + 1 - (u.length + g) = (n - (u.length + g)) + 1 := by omega
        have hl := hlen (n + 1 - (u.length + g))
        rw [← h3] at hl
        rw [hl, h4]
        refine ⟨?_, by simp⟩
        show _ = many ^ g * (tupto many (n - (u.length + g)) + many ^ (n - (u.length + g) + 1))
        rw [Nat.mul_add, Nat.mul_comm (many ^ (n - (u.length + g) + 1))]
theorem bef_is {room many : Nat} {t : Tr} (ok : TrOk room many t) (h1 : 1 ≤ many) (h4 : many ≤ 4) {u : List Nat} (hu : u.length ≤ t.k) (hs : ∀ c ∈ u, c ∈ signs many) :
    (bef room many t (u ++ t.l)).length = bleft room many t.g t.k u.length ∧ (bef room many t (u ++ t.l)).head? = some (bfirst t.g u) := by
  have gk := ok.gk
  have hz := ok.z
  unfold bef bleft
  have e0 : (stk many room).filter (fun x => decide (tby t x = u ++ t.l)) = (stk many room).filter (fun x => decide (tp t.k (ct t.g x) = u)) := List.filter_congr fun x _ => decide_eq_decide.mpr tby_iff
  rw [e0]
  by_cases k0 : t.k = 0
  · have eu : u = [] := List.length_eq_zero_iff.mp (by omega)
    subst eu
    rw [if_pos k0, filter_all _ _ fun x _ => decide_eq_true (by rw [k0, tp_zero]), stk_l h4, stk_first]
    exact ⟨rfl, rfl⟩
  · rw [if_neg k0]
    by_cases u0 : u.length = 0
    · have eu : u = [] := List.length_eq_zero_iff.mp u0
      subst eu
      rw [if_pos u0, stk_filter_le t.g _ (fun x => by rw [decide_eq_true_iff, tp_nil_iff (by omega), ct_nil_iff]), Nat.min_eq_right (by omega), stk_l h4, stk_first]
      exact ⟨rfl, rfl⟩
    · have une : u ≠ [] := fun z => u0 (by rw [z]; rfl)
      have ef : bfirst t.g u = u ++ List.replicate t.g 97 := by
        unfold bfirst
        rw [if_neg une]
      rw [if_neg u0, ef]
      by_cases uk : u.length < t.k
      · rw [if_pos uk]
        have hp : ∀ x : List Nat, tp t.k (ct t.g x) = u ↔ ct t.g x = u := fun x => by
          constructor
          · intro e
            have e2 := congrArg List.length e
            rw [len_tp] at e2
            rw [tp_all (by omega)] at e
            exact e
          · intro e
            rw [e]
            exact tp_all (by omega)
        have hF : ∀ m, m ≠ u.length + t.g → (lay many m).filter (fun x => decide (tp t.k (ct t.g x) = u)) = [] := fun m hm => filter_none _ _ fun x hx z => by
          have e := congrArg List.length ((hp x).mp (of_decide_eq_true z))
          rw [len_ct, (lay_mem hx).1] at e
          omega
        have hc : (lay many (u.length + t.g)).filter (fun x => decide (tp t.k (ct t.g x) = u)) = (lay many t.g).map fun v => u ++ v := by
          rw [lay_filter_app]
          have e1 : ((lay many u.length).flatMap fun x => ((lay many t.g).map fun y => x ++ y).filter fun x => decide (tp t.k (ct t.g x) = u)) = (lay many u.length).flatMap fun x => if decide (x = u) = true then (lay many t.g).map fun y => x ++ y else [] :=
            flatMap_pick _ _ _ fun x hx => by
              by_cases h : x = u
              · rw [if_pos (decide_eq_true h)]
                refine filter_all _ _ fun z hz => ?_
                obtain ⟨y, hy, rfl⟩ := List.mem_map.mp hz
                exact decide_eq_true ((hp _).mpr (by rw [ct_app_eq (lay_mem hy).1]; exact h))
              · rw [if_neg (fun z => h (of_decide_eq_true z))]
                refine filter_none _ _ fun z hz hz2 => ?_
                obtain ⟨y, hy, rfl⟩ := List.mem_map.mp hz
                have := (hp _).mp (of_decide_eq_true hz2)
                rw [ct_app_eq (lay_mem hy).1] at this
                exact h this
          rw [e1, flatMap_if (fun x => decide (x = u)), filter_one (R := (· < ·)) (fun x => List.lt_irrefl x) (fun y => decide (y = u)) (u := u) (fun x => decide_eq_true_iff) (lay_up many _) (mem_lay rfl hs)]
          simp
        rw [stk_filter_const _ hF hc room, if_pos (by omega), List.length_map, lay_l h4, List.head?_map, lay_first many h1]
        exact ⟨rfl, rfl⟩
      · have ek : t.k = u.length := by omega
        rw [if_neg uk]
        have d := stk_filter_deep (many := many) (g := t.g) h4 h1 u0 (fun x => decide (tp t.k (ct t.g x) = u)) hs (fun x => by rw [decide_eq_true_iff, ek]) room
        rw [if_neg (by omega), if_neg (by omega)] at d
        have e6 : room - (u.length + t.g) = room - t.k - t.g := by omega
        rw [e6] at d
        exact d
theorem bef_no {room many : Nat} {t : Tr} {s : List Nat} (h : ¬ ∃ u : List Nat, u.length ≤ t.k ∧ s = u ++ t.l) : bef room many t s = [] :=
  filter_none _ _ fun x _ z => h ⟨tp t.k (ct t.g x), by rw [len_tp]; exact Nat.min_le_left .., (of_decide_eq_true z).symm⟩
end SK
namespace SK
open PySem PySem.Spec PyProof.Rows L2
/-! ### (int, text) > (int, text) -/
theorem RcOp_gt_str {A : Around} {s : Shared} (a b : Str) (t u : Tok) : Ob.RcOp .Gt A s (.str a t) (.str b u) (decide (b.cps.toList < a.cps.toList)) := fun _ _ _ _ h => PySem.P.gt_str h
def rGtIS (K : PySem.W.Frag) : R2 := fun x y H Q => ∃ (a b : Addr) (i j : Int) (l m : List Nat), x = .ref a ∧ y = .ref b ∧ SqT K H a [.int i, .str (tx l)] ∧ SqT K H b [.int j, .str (tx m)] ∧
  Q (.bl (if i = j then (if l = m then false else decide (m < l)) else decide (j < i))) H
theorem op_gtIS {X : Cx} (hu : X.A.units < cLine) : OpR X (compareOp .Gt) (rGtIS X.K) := by
  intro pins s σ H x y v u Q I rx ry h
  obtain ⟨a, b, i, j, l, m, rfl, rfl, ha, hb, q⟩ := h
  cases rx
  cases ry
  obtain ⟨its, r1, p1, _⟩ := I.tuple ha
  obtain ⟨its2, r2, p2, _⟩ := I.tuple hb
  cases r1 with
  | cons x1 y1 =>
  cases y1 with
  | cons x2 y2 =>
  cases y2
  cases r2 with
  | cons w1 z1 =>
  cases z1 with
  | cons w2 z2 =>
  cases z2
  obtain ⟨t1, rfl⟩ := x1
  obtain ⟨t2, rfl⟩ := x2
  obtain ⟨t3, rfl⟩ := w1
  obtain ⟨t4, rfl⟩ := w2
  have R := Ob.RcOp.tuples_gt (A := X.A) (s := s) (e := fun n => if n = 0 then decide (i = j) else decide (l = m)) (r := fun n => if n = 0 then decide (j < i) else decide (m < l)) p1 p2 hu (fun n h1 h2 => by
    match n, h1, h2 with
    | 0, _, _ =>
      show SeqAt.EqAt _ _ (Value.int i t1) (.int j t3) (decide (i = j))
      have z : (i == j) = decide (i = j) := rfl
      rw [← z]
      exact SeqAt.EqAt.int_int _ _ _ _
    | 1, _, _ =>
      show SeqAt.EqAt _ _ (Value.str (tx l) t2) (.str (tx m) t4) (decide (l = m))
      have z : (tx l == tx m) = decide (l = m) := by
        by_cases e : l = m
        · subst e
          simp
        · rw [decide_eq_false e]
          exact beq_eq_false_iff_ne.mpr fun z => e (str_inj.mp z)
      rw [← z]
      exact SeqAt.EqAt.str_str _ _ _ _
    | n + 2, h1, _ => exact absurd h1 (by simp)) (fun n h1 h2 _ => by
    match n, h1, h2 with
    | 0, _, _ => exact Ob.RcOp.gt_int _ _ _ _
    | 1, _, _ => exact RcOp_gt_str _ _ _ _
    | n + 2, h1, _ => exact absurd h1 (by simp))
  refine R X.prog X.w _ _ ?_
  refine fin_bl I q ?_
  show _ = _
  simp [Ob.lexAt]
/-! ### what comes ahead -/
abbrev fz (l : List Nat) : V := V.str (tx l)
def hdV : Option (List Nat) → V
  | none => .non
  | some l => fz l
def BefAt (H : Hp) (v : V) (n : Nat) (o : Option (List Nat)) : Prop := ∃ a, v = .ref a ∧ H a = some (.tup [.int (n : Int), hdV o])
def spSize : Sp := fun vs H Q _ => ∃ many n : Nat, vs = [.int (many : Int), .int (n : Int)] ∧ many ≤ 4 ∧ n ≤ 9 ∧ giv (.int ((many ^ n : Nat) : Int)) H Q
def spUpto : Sp := fun vs H Q _ => ∃ many n : Nat, vs = [.int (many : Int), .int (n : Int)] ∧ many ≤ 4 ∧ n ≤ 9 ∧ giv (.int ((tupto many n : Nat) : Int)) H Q
def spLeft : Sp := fun vs H Q _ => ∃ (v : V) (p : Pl) (g k u : Nat), vs = [v, .int (g : Int), .int (k : Int), .int (u : Int)] ∧ PlanAt H v p ∧ p.Ok ∧ g + k ≤ p.room ∧ giv (.int ((bleft p.room p.many g k u : Nat) : Int)) H Q
def spBefores : Sp := fun vs H Q _ => ∃ v p u t l, vs = [v, u, .str (tx l)] ∧ PlanAt H v p ∧ p.Ok ∧ TripAt H u t ∧ TrOk p.room p.many t ∧ l.length ≤ p.room ∧ (∀ c ∈ l, c ∈ signs p.many) ∧
  ∀ (H' : Hp) (w : V), Same H H' → BefAt H' w (bef p.room p.many t l).length (bef p.room p.many t l).head? → Q w H'
theorem alk_bef {H : Hp} {k : Nat} {v w : V} {n : Nat} {o : Option (List Nat)} (hv : BefAt H v n o) (hw : BefAt H w n o) : Alk H (k + 2) v w := by
  obtain ⟨a, rfl, ha⟩ := hv
  obtain ⟨b, rfl, hb⟩ := hw
  refine .inr ⟨a, b, _, _, rfl, rfl, .inl ⟨ha, hb⟩, rfl, by show 2 ≤ 10000; decide, fun i x y e1 e2 => ?_⟩
  have e : x = y := Option.some.inj (e1.symm.trans e2)
  subst e
  refine .inl ⟨rfl, ?_⟩
  match i, e1 with
  | 0, e1 => cases e1; trivial
  | 1, e1 =>
    cases e1
    cases o with
    | none => trivial
    | some l => trivial
theorem mulZ {a b : Nat} (h : a ≤ 1000000000) : (-(2 ^ 64) < (a : Int) ∧ (a : Int) < 2 ^ 64) := by
  constructor <;> omega
theorem pow_le9 {many n : Nat} (h : many ≤ 4) (h9 : n ≤ 9) : many ^ n ≤ 262144 := by
  calc many ^ n ≤ 4 ^ n := Nat.pow_le_pow_left h n
    _ ≤ 4 ^ 9 := Nat.pow_le_pow_right (by decide) h9
    _ = 262144 := by decide
theorem tupto_sum (many : Nat) : ∀ n, ((List.range (n + 1)).map fun i => many ^ i).sum = tupto many n
  | 0 => by simp [tupto]
  | n + 1 => by
    rw [List.range_succ, List.map_append, List.sum_append, tupto_sum many n]
    simp [tupto]
theorem ends_app {a b : List Nat} : Txt.endswith (tx a) (tx b) = decide (b <:+ a) := by
  unfold Txt.endswith Builtin.Str.subAt
  rw [tx_len, tx_len, Nat.zero_add]
  by_cases h : b.length ≤ a.length
  · rw [decide_eq_true h, Bool.true_and]
    have e : (tx a).cps.extract (a.length - b.length) (a.length - b.length + b.length) = (a.drop (a.length - b.length)).toArray := by
      show a.toArray.extract _ _ = _
      have e1 : a.length - b.length + b.length = a.length := by omega
      rw [e1]
      simp
      rw [List.take_of_length_le (by rw [List.length_drop]; omega)]
    rw [e]
    show ((a.drop (a.length - b.length)).toArray == b.toArray) = _
    by_cases e2 : a.drop (a.length - b.length) = b
    · have hs : b <:+ a := ⟨a.take (a.length - b.length), by
        conv => rhs; rw [← List.take_append_drop (a.length - b.length) a, e2]⟩
      rw [e2, decide_eq_true hs]
      simp
    · have hs : ¬ b <:+ a := by
        rintro ⟨u, rfl⟩
        refine e2 ?_
        rw [List.length_append, Nat.add_sub_cancel, List.drop_left]
      rw [decide_eq_false hs]
      exact beq_eq_false_iff_ne.mpr fun z => e2 (by simpa using z)
  · have hs : ¬ b <:+ a := by
      rintro ⟨u, rfl⟩
      exact h (by rw [List.length_append]; omega)
    rw [decide_eq_false h, Bool.false_and, decide_eq_false hs]
theorem tby_in {room many : Nat} {t : Tr} (ok : TrOk room many t) {x : List Nat} (h : ∀ c ∈ x, c ∈ signs many) : ∀ c ∈ tby t x, c ∈ signs many := fun c hc => by
  rcases List.mem_append.mp (show c ∈ tp t.k (ct t.g x) ++ t.l from hc) with h1 | h1
  · exact h c (mem_ct (mem_tp h1))
  · exact ok.s c h1
theorem bef_mem {room many : Nat} {t : Tr} {s x : List Nat} : x ∈ bef room many t s ↔ x ∈ stk many room ∧ tby t x = s := by
  unfold bef
  rw [List.mem_filter, decide_eq_true_iff]
theorem head_le {α : Type} {R : α → α → Prop} {l : List α} {x y : α} (h : l.Pairwise R) (hx : l.head? = some x) (hy : y ∈ l) : y = x ∨ R x y := by
  cases l with
  | nil => cases hx
  | cons z r =>
    cases hx
    rcases List.mem_cons.mp hy with e | e
    · exact .inl e
    · exact .inr ((List.pairwise_cons.mp h).1 y e)
/-- the first of those is not behind any of them -/
theorem bef_least {room many : Nat} {t : Tr} {s x f : List Nat} (hf : (bef room many t s).head? = some f) (hx : x ∈ bef room many t s) : (if (f.length : Int) = (x.length : Int) then (if f = x then false else decide (x < f)) else decide ((x.length : Int) < (f.length : Int))) = false := by
  have hp : (bef room many t s).Pairwise Bef := (stk_up many room).filter _
  rcases head_le hp hf hx with e | e
  · subst e
    simp
  · rcases e with e | ⟨e1, e2⟩
    · rw [if_neg (by omega)]
      exact decide_eq_false (by omega)
    · rw [if_pos (by omega)]
      by_cases h : f = x
      · rw [if_pos h]
      · rw [if_neg h]
        exact decide_eq_false fun z => List.lt_irrefl _ (List.lt_trans e2 z)
end SK
namespace SK
open PySem PySem.Spec PyProof.Rows L2
theorem szl2 {n : Nat} (h : n ≤ 3000000) : n < sizeLine := Nat.lt_of_lt_of_le (show n < 16777216 by omega) (by decide)
end SK
namespace SK
open PySem PySem.Spec PyProof.Rows L2
/-- len of a list or a tuple, its frame named -/
def rLenS (K : PySem.W.Frag) : List V → Hp → VK → Prop := fun xs H Q => ∃ p ys, xs = [.ref p] ∧ (SqL K H p ys ∨ SqT K H p ys) ∧ Q (.int (ys.length : Int)) H
theorem call_lenS {X : Cx} : CallR X (.builtin "len") (rLenS X.K) := call_len_seq
end SK
namespace SK
open PySem PySem.Spec PyProof.Rows L2
def top (i : Nat) : Stmt := PySem.Challenge.pw_sinkstack_k07_befores.main.body.getD i (.Pass ⟨0, 0, 0, 0⟩)
abbrev s_signs_of : Stmt := top 9
abbrev N_signs_of : List Str := ["plan"]
abbrev P_signs_of : List Str := ["plan"]
theorem sc_signs_of : FnScope N_signs_of P_signs_of (defScope s_signs_of) := ⟨rfl, rfl, rfl, by decide +kernel, rfl, by decide +kernel, by decide +kernel⟩
abbrev s_is_number : Stmt := top 10
abbrev N_is_number : List Str := ["value", "low", "high"]
abbrev P_is_number : List Str := ["value", "low", "high"]
theorem sc_is_number : FnScope N_is_number P_is_number (defScope s_is_number) := ⟨rfl, rfl, rfl, by decide +kernel, rfl, by decide +kernel, by decide +kernel⟩
abbrev s_is_text_of : Stmt := top 11
abbrev N_is_text_of : List Str := ["value", "signs", "sign"]
abbrev P_is_text_of : List Str := ["value", "signs"]
theorem sc_is_text_of : FnScope N_is_text_of P_is_text_of (defScope s_is_text_of) := ⟨rfl, rfl, rfl, by decide +kernel, rfl, by decide +kernel, by decide +kernel⟩
abbrev s_check_plan : Stmt := top 12
abbrev N_check_plan : List Str := ["plan", "room", "many", "prices", "pop_price"]
abbrev P_check_plan : List Str := ["plan"]
theorem sc_check_plan : FnScope N_check_plan P_check_plan (defScope s_check_plan) := ⟨rfl, rfl, rfl, by decide +kernel, rfl, by decide +kernel, by decide +kernel⟩
abbrev s_are_prices : Stmt := top 13
abbrev N_are_prices : List Str := ["prices", "many", "price"]
abbrev P_are_prices : List Str := ["prices", "many"]
theorem sc_are_prices : FnScope N_are_prices P_are_prices (defScope s_are_prices) := ⟨rfl, rfl, rfl, by decide +kernel, rfl, by decide +kernel, by decide +kernel⟩
abbrev s_check_stack : Stmt := top 14
abbrev N_check_stack : List Str := ["plan", "stack"]
abbrev P_check_stack : List Str := ["plan", "stack"]
theorem sc_check_stack : FnScope N_check_stack P_check_stack (defScope s_check_stack) := ⟨rfl, rfl, rfl, by decide +kernel, rfl, by decide +kernel, by decide +kernel⟩
abbrev s_is_stack : Stmt := top 15
abbrev N_is_stack : List Str := ["plan", "stack"]
abbrev P_is_stack : List Str := ["plan", "stack"]
theorem sc_is_stack : FnScope N_is_stack P_is_stack (defScope s_is_stack) := ⟨rfl, rfl, rfl, by decide +kernel, rfl, by decide +kernel, by decide +kernel⟩
abbrev s_check_triple : Stmt := top 16
abbrev N_check_triple : List Str := ["plan", "triple"]
abbrev P_check_triple : List Str := ["plan", "triple"]
theorem sc_check_triple : FnScope N_check_triple P_check_triple (defScope s_check_triple) := ⟨rfl, rfl, rfl, by decide +kernel, rfl, by decide +kernel, by decide +kernel⟩
abbrev s_is_triple : Stmt := top 17
abbrev N_is_triple : List Str := ["plan", "triple", "room", "gone", "kept", "laid"]
abbrev P_is_triple : List Str := ["plan", "triple"]
theorem sc_is_triple : FnScope N_is_triple P_is_triple (defScope s_is_triple) := ⟨rfl, rfl, rfl, by decide +kernel, rfl, by decide +kernel, by decide +kernel⟩
abbrev s_befores : Stmt := top 19
abbrev N_befores : List Str := ["plan", "triple", "stack", "gone", "kept", "laid", "stayed", "least"]
abbrev P_befores : List Str := ["plan", "triple", "stack"]
theorem sc_befores : FnScope N_befores P_befores (defScope s_befores) := ⟨rfl, rfl, rfl, by decide +kernel, rfl, by decide +kernel, by decide +kernel⟩
abbrev s_how_many_left : Stmt := top 20
abbrev N_how_many_left : List Str := ["plan", "gone", "kept", "stayed", "room", "many"]
abbrev P_how_many_left : List Str := ["plan", "gone", "kept", "stayed"]
theorem sc_how_many_left : FnScope N_how_many_left P_how_many_left (defScope s_how_many_left) := ⟨rfl, rfl, rfl, by decide +kernel, rfl, by decide +kernel, by decide +kernel⟩
abbrev s_texts_of_size : Stmt := top 21
abbrev N_texts_of_size : List Str := ["many", "size", "whole", "_"]
abbrev P_texts_of_size : List Str := ["many", "size"]
theorem sc_texts_of_size : FnScope N_texts_of_size P_texts_of_size (defScope s_texts_of_size) := ⟨rfl, rfl, rfl, by decide +kernel, rfl, by decide +kernel, by decide +kernel⟩
abbrev s_texts_up_to : Stmt := top 22
abbrev N_texts_up_to : List Str := ["many", "longest", "size"]
abbrev P_texts_up_to : List Str := ["many", "longest"]
theorem sc_texts_up_to : FnScope N_texts_up_to P_texts_up_to (defScope s_texts_up_to) := ⟨rfl, rfl, rfl, by decide +kernel, rfl, by decide +kernel, by decide +kernel⟩
abbrev s_law_begun : Stmt := top 24
abbrev N_law_begun : List Str := ["_law_script", "_law_stirred", "_law_cell"]
abbrev P_law_begun : List Str := ["_law_script"]
theorem sc_law_begun : FnScope N_law_begun P_law_begun (defScope s_law_begun) := ⟨rfl, rfl, rfl, by decide +kernel, rfl, by decide +kernel, by decide +kernel⟩
abbrev s_law_take : Stmt := top 25
abbrev N_law_take : List Str := ["_law_box", "_law_size", "_law_figure"]
abbrev P_law_take : List Str := ["_law_box", "_law_size"]
theorem sc_law_take : FnScope N_law_take P_law_take (defScope s_law_take) := ⟨rfl, rfl, rfl, by decide +kernel, rfl, by decide +kernel, by decide +kernel⟩
abbrev s_law_alike : Stmt := top 26
abbrev N_law_alike : List Str := ["_law_found", "_law_due", "_law_k"]
abbrev P_law_alike : List Str := ["_law_found", "_law_due"]
theorem sc_law_alike : FnScope N_law_alike P_law_alike (defScope s_law_alike) := ⟨rfl, rfl, rfl, by decide +kernel, rfl, by decide +kernel, by decide +kernel⟩
abbrev s_law_plan : Stmt := top 27
abbrev N_law_plan : List Str := ["_law_box", "_law_room", "_law_signs_here", "_law_size", "_law_prices", "_law_k"]
abbrev P_law_plan : List Str := ["_law_box", "_law_room", "_law_signs_here"]
theorem sc_law_plan : FnScope N_law_plan P_law_plan (defScope s_law_plan) := ⟨rfl, rfl, rfl, by decide +kernel, rfl, by decide +kernel, by decide +kernel⟩
abbrev s_law_signs : Stmt := top 28
abbrev N_law_signs : List Str := ["_law_box", "_law_plan_here", "_law_limit", "_law_k"]
abbrev P_law_signs : List Str := ["_law_box", "_law_plan_here", "_law_limit"]
theorem sc_law_signs : FnScope N_law_signs P_law_signs (defScope s_law_signs) := ⟨rfl, rfl, rfl, by decide +kernel, rfl, by decide +kernel, by decide +kernel⟩
abbrev s_law_triple : Stmt := top 33
abbrev N_law_triple : List Str := ["_law_box", "_law_plan_here", "_law_kept", "_law_laid"]
abbrev P_law_triple : List Str := ["_law_box", "_law_plan_here"]
theorem sc_law_triple : FnScope N_law_triple P_law_triple (defScope s_law_triple) := ⟨rfl, rfl, rfl, by decide +kernel, rfl, by decide +kernel, by decide +kernel⟩
abbrev s_law_by : Stmt := top 36
abbrev N_law_by : List Str := ["_law_triple_here", "_law_stack", "_law_gone_here", "_law_kept", "_law_laid", "_law_left"]
abbrev P_law_by : List Str := ["_law_triple_here", "_law_stack"]
theorem sc_law_by : FnScope N_law_by P_law_by (defScope s_law_by) := ⟨rfl, rfl, rfl, by decide +kernel, rfl, by decide +kernel, by decide +kernel⟩
abbrev s_law_stacks : Stmt := top 37
abbrev N_law_stacks : List Str := ["_law_plan_here", "_law_found", "_law_last", "_law_size", "_law_longer", "_law_one", "_law_sign"]
abbrev P_law_stacks : List Str := ["_law_plan_here"]
theorem sc_law_stacks : FnScope N_law_stacks P_law_stacks (defScope s_law_stacks) := ⟨rfl, rfl, rfl, by decide +kernel, rfl, by decide +kernel, by decide +kernel⟩
abbrev s_law : Stmt := top 39
abbrev N_law : List Str := ["_law_script", "_law_box", "_law_turn", "_law_plan_here", "_law_stacks_here", "_law_triple_here", "_law_ends", "_law_again", "_law_some_here", "_law_stack", "_law_found", "_law_due", "_law_wide", "_law_after", "_law_size", "_law_first", "_law_one", "_law_k"]
abbrev P_law : List Str := ["_law_script"]
theorem sc_law : FnScope N_law P_law (defScope s_law) := ⟨rfl, rfl, rfl, by decide +kernel, rfl, by decide +kernel, by decide +kernel⟩
/-! ### what the module's names hold -/
structure Gx (mg : Str → Option Value) : Prop where
  SIGNS : ∃ u, mg "SIGNS" = some u ∧ RelV (.str (tx [97, 98, 99, 100])) u
  MOST_ROOM : ∃ u, mg "MOST_ROOM" = some u ∧ RelV (.int 9) u
  MOST_PRICE : ∃ u, mg "MOST_PRICE" = some u ∧ RelV (.int 99) u
  isi : mg "isinstance" = none
  bool : mg "bool" = none
  int : mg "int" = none
  str : mg "str" = none
  tuple : mg "tuple" = none
  len : mg "len" = none
  all : mg "all" = none
  max : mg "max" = none
  min : mg "min" = none
  range : mg "range" = none
  list : mg "list" = none
  reversed : mg "reversed" = none
  sum : mg "sum" = none
  abs : mg "abs" = none
section
variable {P : Program} {w : World} {K : PySem.W.Frag} {mg : Str → Option Value} {base : Heap}
theorem ok_signs_of (D : Dn K mg "signs_of" s_signs_of P_signs_of) (g : Gx mg) : C8.Cal P w K mg base 1 "signs_of" spSigns [] := by
  refine D.cal sc_signs_of (fun vs H Q E h => ?_) (fun f cdv A outer s H vs Q E hr h => ?_)
  · obtain ⟨v, p, rfl, ⟨a, b, rfl, ha, hb⟩, ok, q⟩ := h
    rfl
  obtain ⟨v, p, rfl, ⟨a, b, rfl, ha, hb⟩, ok, q⟩ := h
  have nd := sc_signs_of.nd
  refine ⟨_, (pss_one (ps_ret (pe_slice sl_str (C8.pe_gc rfl g.SIGNS) po_none (po_some (pe_ix ix_tup (pv 0) pe_int (fun _ _ => rfl)))))), ?_⟩
  refine ⟨_, rfl, a, _, 1, _, rfl, rfl, SqT.of ha, rfl, _, rfl, _, rfl, sz (by decide), ?_⟩
  rw [cut_to (l := [97, 98, 99, 100]) (n := p.many) ok.m4]
  exact q H (Same.refl H)
theorem ok_is_number (D : Dn K mg "is_number" s_is_number P_is_number) (g : Gx mg) : C8.Cal P w K mg base 1 "is_number" spNum [] := by
  refine D.cal sc_is_number (fun vs H Q E h => ?_) (fun f cdv A outer s H vs Q E hr h => ?_)
  · obtain ⟨i, lo, hi, rfl, q⟩ := h
    rfl
  obtain ⟨i, lo, hi, rfl, q⟩ := h
  have nd := sc_is_number.nd
  refine ⟨_, (pss_one (ps_ret (pe_and (pe_callB call_isi rfl g.isi b_isi (pa_cons (pv 0) (pa_cons (pe_bltn (v := .ty "int") rfl g.int b_int rfl) pa_nil))) (pe_and (pe_not (pe_callB call_isi rfl g.isi b_isi (pa_cons (pv 0) (pa_cons (pe_bltn (v := .ty "bool") rfl g.bool b_bool rfl) pa_nil)))) (pe_one (pe_chain op_le op_le (pv 1) (pv 0) (pv 2))))))), ?_⟩
  refine ⟨_, rfl, _, _, _, _, _, rfl, .ty "int", ty_int, kit_ty k_int_int, _, rfl, iteT ?_⟩
  refine ⟨_, rfl, _, _, _, _, _, rfl, .ty "bool", ty_int, kit_ty k_int_bool, _, rfl, _, rfl, iteT ?_⟩
  refine ⟨_, rfl, _, rfl, _, _, rfl, rfl, _, rfl, ite2 (fun c => ?_) (fun c => ?_)⟩
  · have c1 : lo ≤ i := of_decide_eq_true c
    refine ⟨_, rfl, _, _, rfl, rfl, ?_⟩
    have e : decide (lo ≤ i ∧ i ≤ hi) = decide (i ≤ hi) := by simp [c1]
    have q1 := q H (Same.refl H)
    rw [e] at q1
    exact q1
  · have c1 : ¬ lo ≤ i := fun z => c (decide_eq_true z)
    have e : decide (lo ≤ i ∧ i ≤ hi) = false := by simp [c1]
    have q1 := q H (Same.refl H)
    rw [e] at q1
    exact q1
theorem ok_is_text_of (D : Dn K mg "is_text_of" s_is_text_of P_is_text_of) (g : Gx mg) : C8.Cal P w K mg base 1 "is_text_of" spTextOf [] := by
  refine D.cal sc_is_text_of (fun vs H Q E h => ?_) (fun f cdv A outer s H vs Q E hr h => ?_)
  · obtain ⟨l, sg, rfl, hl, q⟩ := h
    rfl
  obtain ⟨l, sg, rfl, hl, q⟩ := h
  have nd := sc_is_text_of.nd
  refine ⟨_, (pss_one (ps_ret (pe_and (pe_callB call_isi rfl g.isi b_isi (pa_cons (pv 0) (pa_cons (pe_bltn (v := .ty "str") rfl g.str b_str rfl) pa_nil))) (pe_one (pe_callB (cr_all rfl) rfl g.all b_all (pa_cons (pe_lc (own := [("sign", 2)]) rfl nd (pi_str (pv 0)) (blkOk_by (own := [("sign", 2)]) (N := N_is_text_of) (sc := defScope s_is_text_of) (by decide +kernel)) (fun _ _ _ _ _ => (pg_name (i := 2) nd rfl (.inl rfl))) (fun _ _ _ _ _ => pts_nil) (fun _ _ _ _ _ => (pe_cmpR op_in_sign (pv 2) (pv 1) rfl))) pa_nil)))))), ?_⟩
  refine ⟨_, rfl, _, _, _, _, _, rfl, .ty "str", ty_str, kit_ty k_str_str, _, rfl, iteT ?_⟩
  refine ⟨_, rfl, _, rfl, fun D hD => ?_⟩
  have hn : (tx l).cps.size = l.length := tx_len l
  refine lc_it (walk_str (z := tx l)) (fun i H2 => Same H H2 ∧ H2 D = some (.lst ((l.take i).map fun c => V.bl (decide (c ∈ sg))))) ⟨Same.new hD _, upd_same⟩ (fun _ _ _ _ => trivial) ?_ ?_
  · rintro i x H2 H3 hi ⟨s2, h2⟩ ⟨rfl, c, hc, rfl⟩
    have hc' : l[i]? = some c := by
      rw [← hc]
      simp [tx]
    refine ⟨rfl, ?_⟩
    refine ⟨_, rfl, _, rfl, c, tx sg, rfl, rfl, _, h2, ?_, fun b o e => ?_, ?_⟩
    · rw [List.length_map, List.length_take]
      exact szl (by omega)
    · rw [upd_ne (ne_of_none e hD)]
      exact s2 b o e
    · rw [upd_same, List.take_add_one, hc']
      simp [tx_list]
      exact decide_eq_decide.mpr Iff.rfl
  · rintro H2 ⟨s2, h2⟩
    rw [hn, List.take_of_length_le (Nat.le_refl _)] at h2
    refine ⟨D, l.map fun c => decide (c ∈ sg), rfl, SqL.of (by rw [h2, List.map_map]; rfl), ?_⟩
    have e : (l.map fun c => decide (c ∈ sg)).all id = decide (∀ c ∈ l, c ∈ sg) := by
      rw [List.all_map, Bool.eq_iff_iff]
      simp
    rw [e]
    exact q H2 s2
theorem ok_are_prices (D : Dn K mg "are_prices" s_are_prices P_are_prices) (g : Gx mg) (c_is_number : C8.Cal P w K mg base 1 "is_number" spNum []) : C8.Cal P w K mg base 2 "are_prices" spPrices [] := by
  refine D.cal sc_are_prices (fun vs H Q E h => ?_) (fun f cdv A outer s H vs Q E hr h => ?_)
  · obtain ⟨b, p, rfl, hb, ok, q⟩ := h
    rfl
  obtain ⟨b, p, rfl, hb, ok, q⟩ := h
  have nd := sc_are_prices.nd
  refine ⟨_, (pss_cons (ps_if (PW.pt (pw_or (pt_not (pt_val (pe_callB call_isi rfl g.isi b_isi (pa_cons (pv 0) (pa_cons (pe_bltn (v := .ty "tuple") rfl g.tuple b_tuple rfl) pa_nil))))) (pw_or1 (pt_cmpR op_ne (pe_callB call_len_seq rfl g.len PySem.boot_len (pa_cons (pv 0) pa_nil)) (pv 1) (nomark _))))) (pss_one (ps_ret pe_bl)) pss_nil)
    (pss_one (ps_ret (pe_callB (cr_all rfl) rfl g.all b_all (pa_cons (pe_lc (own := [("price", 2)]) rfl nd (pi_tup (pv 0)) (blkOk_by (own := [("price", 2)]) (N := N_are_prices) (sc := defScope s_are_prices) (by decide +kernel)) (fun _ _ _ _ _ => (pg_name (i := 2) nd rfl (.inl rfl))) (fun _ _ _ _ _ => pts_nil) (fun _ _ _ _ _ => (C8.pe_c c_is_number (by exact hr) (by decide) rfl (pa_cons (pv 2) (pa_cons pe_int (pa_cons (C8.pe_gc rfl g.MOST_PRICE) pa_nil)))))) pa_nil))))), ?_⟩
  have hl : (p.pr.map V.int).length = p.many := by rw [List.length_map]; exact ok.pl
  refine ⟨_, rfl, _, _, _, _, _, rfl, .ty "tuple", hb.ty, kit_ty k_tup_tup, _, rfl, iteF ?_⟩
  refine ⟨_, rfl, b, _, rfl, .inr (TupF.sq hb), _, rfl, rfl, _, rfl, iteNS (by rw [hl]) ?_⟩
  refine ⟨_, rfl, b, rfl, ⟨_, TupF.sq hb⟩, fun D hD => ?_⟩
  refine lc_it (walk_tup (a := b) (xs := p.pr.map V.int)) (fun i H2 => Same H H2 ∧ H2 D = some (.lst ((List.replicate i true).map V.bl))) ⟨Same.new hD _, upd_same⟩ (fun i H2 _ h2 => TupF.sq (PrAt.mono hb h2.1)) ?_ ?_
  · rintro i x H2 H3 hi ⟨s2, h2⟩ ⟨rfl, hx⟩
    rw [List.getElem?_map] at hx
    obtain ⟨y, hy, rfl⟩ := Option.map_eq_some_iff.mp hx
    have hy' := ok.pr y (List.mem_of_getElem? hy)
    refine ⟨rfl, ?_⟩
    refine ⟨_, rfl, y, 1, 99, rfl, fun H4 s4 => ⟨_, s4 _ _ h2, ?_, fun b o e => ?_, ?_⟩⟩
    · rw [List.length_map, List.length_replicate]
      have := ok.m4
      exact szl (by omega)
    · rw [upd_ne (ne_of_none e hD)]
      exact s4 _ _ (s2 b o e)
    · rw [upd_same, List.replicate_succ', List.map_append, decide_eq_true hy']
      rfl
  · rintro H2 ⟨s2, h2⟩
    refine ⟨D, _, rfl, SqL.of h2, ?_⟩
    have e : (List.replicate (p.pr.map V.int).length true).all id = true := by simp
    rw [e]
    exact q H2 s2
theorem mem_steps {c n : Nat} : c ∈ signs n ++ [45] ↔ c = 45 ∨ c ∈ signs n := by
  rw [List.mem_append, List.mem_singleton, Or.comm]
theorem ok_check_plan (D : Dn K mg "check_plan" s_check_plan P_check_plan) (g : Gx mg) (c_is_number : C8.Cal P w K mg base 1 "is_number" spNum []) (c_are_prices : C8.Cal P w K mg base 2 "are_prices" spPrices []) : C8.Cal P w K mg base 3 "check_plan" spChPlan [] := by
  refine D.cal sc_check_plan (fun vs H Q E h => ?_) (fun f cdv A outer s H vs Q E hr h => ?_)
  · obtain ⟨v, p, rfl, ⟨a, b, rfl, ha, hb⟩, ok, q⟩ := h
    rfl
  obtain ⟨v, p, rfl, ⟨a, b, rfl, ha, hb⟩, ok, q⟩ := h
  have nd := sc_check_plan.nd
  refine ⟨_, (pss_cons (ps_if (PW.pt (pw_or (pt_not (pt_val (pe_callB call_isi rfl g.isi b_isi (pa_cons (pv 0) (pa_cons (pe_bltn (v := .ty "tuple") rfl g.tuple b_tuple rfl) pa_nil))))) (pw_or1 (pt_cmpR op_ne (pe_callB call_len_seq rfl g.len PySem.boot_len (pa_cons (pv 0) pa_nil)) pe_int (nomark _))))) (pss_one ps_never) pss_nil)
    (pss_cons (ps_asg (pv 0) (pg_tup (by rfl) (pgs_cons (pg_name (i := 1) nd rfl (.inl rfl)) (pgs_cons (pg_name (i := 2) nd rfl (.inl rfl)) (pgs_cons (pg_name (i := 3) nd rfl (.inl rfl)) (pgs_cons (pg_name (i := 4) nd rfl (.inl rfl)) pgs_nil))))))
    (pss_cons (ps_if (pt_not (pt_val (C8.pe_c c_is_number hr (by decide) rfl (pa_cons (pv 1) (pa_cons pe_int (pa_cons (C8.pe_gc rfl g.MOST_ROOM) pa_nil)))))) (pss_one ps_never) pss_nil)
    (pss_cons (ps_if (pt_not (pt_val (C8.pe_c c_is_number hr (by decide) rfl (pa_cons (pv 2) (pa_cons pe_int (pa_cons (pe_callB call_len_str rfl g.len PySem.boot_len (pa_cons (C8.pe_gc rfl g.SIGNS) pa_nil)) pa_nil)))))) (pss_one ps_never) pss_nil)
    (pss_cons (ps_if (pt_not (pt_val (C8.pe_c c_are_prices hr (by decide) rfl (pa_cons (pv 3) (pa_cons (pv 2) pa_nil))))) (pss_one ps_never) pss_nil)
    (pss_one (ps_if (pt_not (pt_val (C8.pe_c c_is_number hr (by decide) rfl (pa_cons (pv 4) (pa_cons pe_int (pa_cons (C8.pe_gc rfl g.MOST_PRICE) pa_nil)))))) (pss_one ps_never) pss_nil))))))), ?_⟩
  refine ⟨_, rfl, _, _, _, _, _, rfl, .ty "tuple", ty_tup ha, kit_ty k_tup_tup, _, rfl, iteF ?_⟩
  refine ⟨_, rfl, a, _, rfl, .inr (SqT.of ha), rfl, _, rfl, iteNS rfl ?_⟩
  refine ⟨_, rfl, a, _, rfl, SqT.of ha, rfl, _, _, rfl, _, _, rfl, _, _, rfl, _, _, rfl, rfl, ?_⟩
  have e0 : decide ((1 : Int) ≤ (p.room : Int) ∧ (p.room : Int) ≤ 9) = true := decide_eq_true (by have := ok.r1; have := ok.r9; omega)
  have e1 : decide ((1 : Int) ≤ (p.many : Int) ∧ (p.many : Int) ≤ 4) = true := decide_eq_true (by have := ok.m1; have := ok.m4; omega)
  have e3 : decide ((1 : Int) ≤ p.pop ∧ p.pop ≤ 99) = true := decide_eq_true ⟨ok.q1, ok.q9⟩
  refine ⟨_, rfl, p.room, 1, 9, rfl, fun H1 s1 => ⟨_, rfl, ?_⟩⟩
  rw [e0]
  refine iteF ?_
  refine ⟨_, rfl, _, rfl, by rw [tx_len]; exact sz (by decide), p.many, 1, 4, rfl, fun H2 s2 => ⟨_, rfl, ?_⟩⟩
  rw [e1]
  refine iteF ?_
  refine ⟨_, rfl, _, rfl, b, p, rfl, PrAt.mono hb (s1.trans s2), ok, fun H3 s3 => ⟨_, rfl, iteF ?_⟩⟩
  refine ⟨_, rfl, p.pop, 1, 99, rfl, fun H4 s4 => ⟨_, rfl, ?_⟩⟩
  rw [e3]
  refine iteF ?_
  exact q H4 (s1.trans (s2.trans (s3.trans s4)))
theorem ok_is_stack (D : Dn K mg "is_stack" s_is_stack P_is_stack) (g : Gx mg) (c_signs_of : C8.Cal P w K mg base 1 "signs_of" spSigns []) (c_is_text_of : C8.Cal P w K mg base 1 "is_text_of" spTextOf []) : C8.Cal P w K mg base 2 "is_stack" spIsStack [] := by
  refine D.cal sc_is_stack (fun vs H Q E h => ?_) (fun f cdv A outer s H vs Q E hr h => ?_)
  · obtain ⟨v, p, l, rfl, ⟨a, b, rfl, ha, hb⟩, ok, hl, hs, q⟩ := h
    rfl
  obtain ⟨v, p, l, rfl, ⟨a, b, rfl, ha, hb⟩, ok, hl, hs, q⟩ := h
  have nd := sc_is_stack.nd
  refine ⟨_, (pss_one (ps_ret (pe_and (C8.pe_c c_is_text_of hr (by decide) rfl (pa_cons (pv 1) (pa_cons (C8.pe_c c_signs_of hr (by decide) rfl (pa_cons (pv 0) pa_nil)) pa_nil))) (pe_one (pe_cmpR op_le (pe_callB call_len_str rfl g.len PySem.boot_len (pa_cons (pv 1) pa_nil)) (pe_ix ix_tup (pv 0) pe_int (fun _ _ => rfl)) (nomark _)))))), ?_⟩
  have hr9 := ok.r9
  refine ⟨_, rfl, _, rfl, _, p, rfl, ⟨a, b, rfl, ha, hb⟩, ok, fun H1 s1 => ?_⟩
  refine ⟨l, signs p.many, rfl, by omega, fun H2 s2 => ⟨_, rfl, ?_⟩⟩
  rw [decide_eq_true hs]
  refine iteT ?_
  refine ⟨_, rfl, _, rfl, by rw [tx_len]; exact sz (by omega), _, rfl, a, _, 0, _, rfl, rfl, SqT.of ((s1.trans s2) _ _ ha), rfl, _, _, rfl, rfl, ?_⟩
  show Q (.bl (decide (((tx l).length : Int) ≤ (p.room : Int)))) H2
  rw [tx_len, decide_eq_true (by omega)]
  exact q H2 (s1.trans s2)
theorem ok_check_stack (D : Dn K mg "check_stack" s_check_stack P_check_stack) (g : Gx mg) (c_is_stack : C8.Cal P w K mg base 2 "is_stack" spIsStack []) : C8.Cal P w K mg base 3 "check_stack" spChStack [] := by
  refine D.cal sc_check_stack (fun vs H Q E h => ?_) (fun f cdv A outer s H vs Q E hr h => ?_)
  · obtain ⟨v, p, l, rfl, hp, ok, hl, hs, q⟩ := h
    rfl
  obtain ⟨v, p, l, rfl, hp, ok, hl, hs, q⟩ := h
  have nd := sc_check_stack.nd
  refine ⟨_, (pss_one (ps_if (pt_not (pt_val (C8.pe_c c_is_stack hr (by decide) rfl (pa_cons (pv 0) (pa_cons (pv 1) pa_nil))))) (pss_one ps_never) pss_nil)), ?_⟩
  refine ⟨_, rfl, _, rfl, v, p, l, rfl, hp, ok, hl, hs, fun H1 s1 => ⟨_, rfl, iteF ?_⟩⟩
  exact q H1 s1
theorem ok_is_triple (D : Dn K mg "is_triple" s_is_triple P_is_triple) (g : Gx mg) (c_is_number : C8.Cal P w K mg base 1 "is_number" spNum []) (c_signs_of : C8.Cal P w K mg base 1 "signs_of" spSigns []) (c_is_text_of : C8.Cal P w K mg base 1 "is_text_of" spTextOf []) : C8.Cal P w K mg base 2 "is_triple" spIsTriple [] := by
  refine D.cal sc_is_triple (fun vs H Q E h => ?_) (fun f cdv A outer s H vs Q E hr h => ?_)
  · obtain ⟨v, p, u, t, rfl, ⟨a, b, rfl, ha, hb⟩, ok, ⟨c, rfl, hc⟩, tok, q⟩ := h
    rfl
  obtain ⟨v, p, u, t, rfl, ⟨a, b, rfl, ha, hb⟩, ok, ⟨c, rfl, hc⟩, tok, q⟩ := h
  have nd := sc_is_triple.nd
  refine ⟨_, (pss_cons (ps_if (PW.pt (pw_or (pt_not (pt_val (pe_callB call_isi rfl g.isi b_isi (pa_cons (pv 1) (pa_cons (pe_bltn (v := .ty "tuple") rfl g.tuple b_tuple rfl) pa_nil))))) (pw_or1 (pt_cmpR op_ne (pe_callB call_len_seq rfl g.len PySem.boot_len (pa_cons (pv 1) pa_nil)) pe_int (nomark _))))) (pss_one (ps_ret pe_bl)) pss_nil)
    (pss_cons (ps_set (i := 2) nd rfl (.inl rfl) (pe_ix ix_tup (pv 0) pe_int (fun _ _ => rfl)))
    (pss_cons (ps_asg (pv 1) (pg_tup (by rfl) (pgs_cons (pg_name (i := 3) nd rfl (.inl rfl)) (pgs_cons (pg_name (i := 4) nd rfl (.inl rfl)) (pgs_cons (pg_name (i := 5) nd rfl (.inl rfl)) pgs_nil)))))
    (pss_cons (ps_if (PW.pt (pw_or (pt_not (pt_val (C8.pe_c c_is_number hr (by decide) rfl (pa_cons (pv 3) (pa_cons pe_int (pa_cons (pv 2) pa_nil)))))) (pw_or1 (pt_not (pt_val (C8.pe_c c_is_number hr (by decide) rfl (pa_cons (pv 4) (pa_cons pe_int (pa_cons (pv 2) pa_nil))))))))) (pss_one (ps_ret pe_bl)) pss_nil)
    (pss_cons (ps_if (pt_not (pt_val (C8.pe_c c_is_text_of hr (by decide) rfl (pa_cons (pv 5) (pa_cons (C8.pe_c c_signs_of hr (by decide) rfl (pa_cons (pv 0) pa_nil)) pa_nil))))) (pss_one (ps_ret pe_bl)) pss_nil)
    (pss_cons (ps_if (PW.pt (pw_and (pt_cmpR op_eq (pv 4) pe_int (nomark _)) (pw_and1 (pt_cmpR op_ne (pv 3) pe_int (nomark _))))) (pss_one (ps_ret pe_bl)) pss_nil)
    (pss_one (ps_ret (pe_and (pe_cmpR op_le (pe_op op_add (pv 3) (pv 4)) (pv 2) (nomark _)) (pe_one (pe_cmpR op_le (pe_op op_add (pe_callB call_len_str rfl g.len PySem.boot_len (pa_cons (pv 5) pa_nil)) (pv 4)) (pv 2) (nomark _)))))))))))), ?_⟩
  have h1 := tok.gk
  have h2 := tok.kl
  have h3 := tok.z
  have hr9 := ok.r9
  refine ⟨_, rfl, _, _, _, _, _, rfl, .ty "tuple", ty_tup hc, kit_ty k_tup_tup, _, rfl, iteF ?_⟩
  refine ⟨_, rfl, c, _, rfl, .inr (SqT.of hc), rfl, _, rfl, iteNS rfl ?_⟩
  refine ⟨_, rfl, a, _, 0, _, rfl, rfl, SqT.of ha, rfl, ?_⟩
  refine ⟨_, rfl, c, _, rfl, SqT.of hc, rfl, _, _, rfl, _, _, rfl, _, _, rfl, rfl, ?_⟩
  refine ⟨_, rfl, _, rfl, t.g, 0, p.room, rfl, fun H1 s1 => ⟨_, rfl, ?_⟩⟩
  rw [decide_eq_true (by omega)]
  refine iteF ?_
  refine ⟨_, rfl, _, rfl, t.k, 0, p.room, rfl, fun H2 s2 => ⟨_, rfl, ?_⟩⟩
  rw [decide_eq_true (by omega)]
  refine iteF ?_
  refine ⟨_, rfl, _, rfl, _, p, rfl, ⟨a, b, rfl, (s1.trans s2) _ _ ha, PrAt.mono hb (s1.trans s2)⟩, ok, fun H3 s3 => ?_⟩
  refine ⟨t.l, signs p.many, rfl, by omega, fun H4 s4 => ⟨_, rfl, ?_⟩⟩
  rw [decide_eq_true tok.s]
  refine iteF ?_
  refine ⟨_, rfl, rfl, _, rfl, ite2 (fun z => ?_) (fun z => ?_)⟩
  · have z1 : t.k = 0 := by
      have z1 := of_decide_eq_true z
      injection z1 with z2
      omega
    have z2 := h3 z1
    refine ⟨_, rfl, rfl, _, rfl, iteNS (by rw [z2]; rfl) ?_⟩
    refine ⟨_, rfl, _, rfl, _, _, rfl, rfl, _, rfl, _, _, rfl, rfl, _, rfl, ?_⟩
    rw [decide_eq_true (by omega)]
    refine iteT ⟨_, rfl, _, rfl, by rw [tx_len]; exact sz (by omega), _, rfl, _, _, rfl, rfl, _, rfl, _, _, rfl, rfl, ?_⟩
    show Q (.bl (decide (((tx t.l).length : Int) + (t.k : Int) ≤ (p.room : Int)))) H4
    rw [tx_len, decide_eq_true (by omega)]
    exact q _ (s1.trans (s2.trans (s3.trans s4)))
  · refine iteF ?_
    refine ⟨_, rfl, _, rfl, _, _, rfl, rfl, _, rfl, _, _, rfl, rfl, _, rfl, ?_⟩
    rw [decide_eq_true (by omega)]
    refine iteT ⟨_, rfl, _, rfl, by rw [tx_len]; exact sz (by omega), _, rfl, _, _, rfl, rfl, _, rfl, _, _, rfl, rfl, ?_⟩
    show Q (.bl (decide (((tx t.l).length : Int) + (t.k : Int) ≤ (p.room : Int)))) H4
    rw [tx_len, decide_eq_true (by omega)]
    exact q _ (s1.trans (s2.trans (s3.trans s4)))
theorem ok_check_triple (D : Dn K mg "check_triple" s_check_triple P_check_triple) (g : Gx mg) (c_is_triple : C8.Cal P w K mg base 2 "is_triple" spIsTriple []) : C8.Cal P w K mg base 3 "check_triple" spChTriple [] := by
  refine D.cal sc_check_triple (fun vs H Q E h => ?_) (fun f cdv A outer s H vs Q E hr h => ?_)
  · obtain ⟨v, p, u, t, rfl, hp, ok, ht, tok, q⟩ := h
    rfl
  obtain ⟨v, p, u, t, rfl, hp, ok, ht, tok, q⟩ := h
  have nd := sc_check_triple.nd
  refine ⟨_, (pss_one (ps_if (pt_not (pt_val (C8.pe_c c_is_triple hr (by decide) rfl (pa_cons (pv 0) (pa_cons (pv 1) pa_nil))))) (pss_one ps_never) pss_nil)), ?_⟩
  refine ⟨_, rfl, _, rfl, v, p, u, t, rfl, hp, ok, ht, tok, fun H1 s1 => ⟨_, rfl, iteF ?_⟩⟩
  exact q H1 s1
theorem ok_law_take (D : Dn K mg "_law_take" s_law_take P_law_take) (g : Gx mg) : C8.Cal P w K mg base 1 "_law_take" spTake [] := by
  refine D.cal sc_law_take (fun vs H Q E h => ?_) (fun f cdv A outer s H vs Q E hr h => ?_)
  · obtain ⟨p, q, ns, z, n, rfl, B, h0, h9, kk⟩ := h
    rfl
  obtain ⟨p, q, ns, z, n, rfl, B, h0, h9, kk⟩ := h
  have nd := sc_law_take.nd
  refine ⟨_, (pss_cons (ps_if (pt_cmpR (op_eqD hr.units) (pe_ix ix_list (pv 0) pe_int (fun _ _ => rfl)) (pe_lst pa_nil) (nomark _)) (pss_cons (ps_asg (pe_op op_modN (pe_op op_mul (pe_ix ix_list (pv 0) pe_int (fun _ _ => rfl)) pe_int) pe_int) (pg_sub (pv 0) pe_int set_list))
    (pss_one (ps_ret (pe_op op_modN (pe_op op_fdivN (pe_ix ix_list (pv 0) pe_int (fun _ _ => rfl)) pe_int) (pv 1))))) pss_nil)
    (pss_cons (ps_set (i := 2) nd rfl (.inl rfl) (pe_ix ix_list (pe_ix ix_list (pv 0) pe_int (fun _ _ => rfl)) pe_int (fun _ _ => rfl)))
    (pss_cons (ps_asg (pe_op op_fdivW (pv 2) (pv 1)) (pg_sub (pe_ix ix_list (pv 0) pe_int (fun _ _ => rfl)) pe_int set_list))
    (pss_cons (ps_if (PW.pt (pw_or (pt_cmpR op_eq (pe_ix ix_list (pe_ix ix_list (pv 0) pe_int (fun _ _ => rfl)) pe_int (fun _ _ => rfl)) pe_int (nomark _)) (pw_or1 (pt_cmpR op_eq (pe_ix ix_list (pe_ix ix_list (pv 0) pe_int (fun _ _ => rfl)) pe_int (fun _ _ => rfl)) (pe_un un_neg pe_int) (nomark _))))) (pss_one (ps_expr (pe_bm PySem.F.plainAttrs_list PySem.F.slot_list_pop PySem.F.type_list_pop mt_popAt (pe_ix ix_list (pv 0) pe_int (fun _ _ => rfl)) (pa_cons pe_int pa_nil)))) pss_nil)
    (pss_one (ps_ret (pe_op op_modN (pv 2) (pv 1)))))))), ?_⟩
  refine ⟨_, rfl, p, _, 0, _, rfl, rfl, SqL.of B.b, rfl, by show 0 ≤ sizeLine; decide, fun D hD => ?_⟩
  have s1 : Same H (upd H D (.lst [])) := Same.new hD _
  have B1 := B.mono s1
  refine ⟨.list (ns.map PyData.int), .list [], .lst (SqL.of B1.l) (dpAll ns), .lst (SqL.of upd_same) .nil, shp ns, shp [], _, rfl, ?_⟩
  cases ns with
  | nil =>
    refine iteT ?_
    refine ⟨_, rfl, p, _, 1, _, rfl, rfl, SqL.of B1.b, rfl, _, _, rfl, rfl, .inr ⟨by decide, by decide⟩, _, _, rfl, rfl, by show ((2147483647 : Int) ≠ 0); decide, ?_⟩
    refine ⟨_, rfl, p, _, 1, 1, rfl, rfl, B1.b, rfl, ?_⟩
    refine ⟨_, rfl, p, _, 1, _, rfl, rfl, SqL.of upd_same, rfl, _, _, rfl, rfl, ⟨by decide, by decide⟩, _, rfl, _, _, rfl, rfl, by show n ≠ 0; omega, ?_⟩
    obtain ⟨f1, f2⟩ := fmod_in (x := ((z * 48271).fmod 2147483647).fdiv 7) h0
    refine kk _ [] ((z * 48271).fmod 2147483647) _ f1 f2 ⟨upd_same, by rw [upd_ne B.ne.symm]; exact B1.l, B.ne⟩ fun b o e e1 e2 => ?_
    rw [upd_ne e1]
    exact s1 _ _ e
  | cons x r =>
    refine iteF ?_
    refine ⟨_, rfl, p, _, 0, _, rfl, rfl, SqL.of B1.b, rfl, q, _, 0, _, rfl, rfl, SqL.of B1.l, at0, ?_⟩
    refine ⟨_, rfl, _, rfl, _, _, rfl, rfl, divW h0 h9, ?_⟩
    refine ⟨_, rfl, p, _, 0, _, rfl, rfl, SqL.of B1.b, rfl, q, _, 0, 0, rfl, rfl, B1.l, ix0, ?_⟩
    have B2 : BoxAt (upd (upd H D (.lst [])) q (.lst (((x / n) :: r).map V.int))) p q ((x / n) :: r) z := ⟨by rw [upd_ne B.ne]; exact B1.b, upd_same, B.ne⟩
    have k2 : Keep p q H (upd (upd H D (.lst [])) q (.lst (((x / n) :: r).map V.int))) := fun b o e e1 e2 => by
      rw [upd_ne e2]
      exact s1 _ _ e
    obtain ⟨f1, f2⟩ := fmod_in (x := x) h0
    have pop : ∀ (T : Prop), (∀ (ns' : List Int) (H' : Hp), BoxAt H' p q ns' z → Keep p q H H' → T) → T := fun T h => h _ _ B2 k2
    have fin : ∀ (ns' : List Int) (H' : Hp), BoxAt H' p q ns' z → Keep p q H H' → tRet (tOp (rI (fun _ j => j ≠ 0) fun i j => V.int (i.fmod j)) (tVar 2) (tVar 1)) { nx := fun _ H' => Q V.non H', rt := Q } [some (.ref p), some (.int n), some (.int x)] H' := fun ns' H' b k =>
      ⟨_, rfl, _, rfl, _, _, rfl, rfl, by show n ≠ 0; omega, kk _ ns' z H' f1 f2 b k⟩
    have B3 : BoxAt (upd (upd (upd H D (.lst [])) q (.lst (((x / n) :: r).map V.int))) q (.lst (r.map V.int))) p q r z := ⟨by rw [upd_ne B.ne]; exact B2.b, upd_same, B.ne⟩
    have k3 : Keep p q H (upd (upd (upd H D (.lst [])) q (.lst (((x / n) :: r).map V.int))) q (.lst (r.map V.int))) := fun b o e e1 e2 => by
      rw [upd_ne e2]
      exact k2 _ _ e e1 e2
    refine ⟨_, rfl, p, _, 0, _, rfl, rfl, SqL.of B2.b, rfl, q, _, 0, _, rfl, rfl, SqL.of B2.l, at0, rfl, _, rfl, ite2 (fun c => ?_) (fun c => ?_)⟩
    · refine iteT ?_
      refine ⟨_, rfl, p, _, 0, _, rfl, rfl, SqL.of B2.b, rfl, .inl ⟨rfl, _, SqL.of B2.l⟩, q, _, 0, 0, _, rfl, rfl, B2.l, by decide, by decide, sq0, rfl, ?_⟩
      exact fin r _ B3 k3
    · refine ⟨_, rfl, p, _, 0, _, rfl, rfl, SqL.of B2.b, rfl, q, _, 0, _, rfl, rfl, SqL.of B2.l, at0, _, rfl, rfl, _, rfl, ite2 (fun c2 => ?_) (fun c2 => ?_)⟩
      · refine ⟨_, rfl, p, _, 0, _, rfl, rfl, SqL.of B2.b, rfl, .inl ⟨rfl, _, SqL.of B2.l⟩, q, _, 0, 0, _, rfl, rfl, B2.l, by decide, by decide, sq0, rfl, ?_⟩
        exact fin r _ B3 k3
      · exact fin _ _ B2 k2
theorem ok_law_begun (D : Dn K mg "_law_begun" s_law_begun P_law_begun) (g : Gx mg) : C8.Cal P w K mg base 1 "_law_begun" (spLBegun K) [] := by
  refine D.cal sc_law_begun (fun vs H Q E h => ?_) (fun f cdv A outer s H vs Q E hr h => ?_)
  · obtain ⟨a, ns, rfl, hS, h63, kk⟩ := h
    rfl
  obtain ⟨a, ns, rfl, hS, h63, kk⟩ := h
  have nd := sc_law_begun.nd
  refine ⟨_, (pss_cons (ps_set (i := 1) nd rfl (.inl rfl) pe_int)
    (pss_cons (ps_for PassesOwn.never rfl (pi_list (pv 0)) (pg_name (i := 2) nd rfl (.inl rfl)) (pss_one (ps_set (i := 1) nd rfl (.inl rfl) (pe_op op_modN (pe_op op_add (pe_op op_add (pe_op op_mul (pv 1) pe_int) (pe_op op_mul (pv 2) pe_int)) pe_int) pe_int))))
    (pss_one (ps_ret (pe_lst (pa_cons (pe_callTy call_list_of rfl g.list b_list (pa_cons (pv 0) pa_nil)) (pa_cons (pe_op op_mul (pv 1) (pe_callTy call_int1 rfl g.int b_int (pa_cons (pe_cmpR op_gt (pe_callB call_len_seq rfl g.len PySem.boot_len (pa_cons (pv 0) pa_nil)) pe_int (nomark _)) pa_nil))) pa_nil))))))), ?_⟩
  have hc : ∀ k : Bool, -(2 ^ 64) < (if k = true then (1 : Int) else 0) ∧ (if k = true then (1 : Int) else 0) < 2 ^ 64 := fun k => by
    cases k <;> decide
  refine ⟨_, rfl, a, rfl, ⟨_, hS⟩, for_list (K := K) (a := a) (xs := ns.map V.int) (fun i σ H2 => (∃ (z : Int) (o : Option V), σ = [some (.ref a), some (.int z), o]) ∧ H2 = H)
    ⟨⟨0, none, rfl⟩, rfl⟩ (fun i σ H2 _ h2 => by rw [h2.2]; exact hS) ?_ ?_⟩
  · rintro i x σ H2 hx ⟨⟨z, o, rfl⟩, rfl⟩
    rw [List.getElem?_map] at hx
    obtain ⟨y, hy, rfl⟩ := Option.map_eq_some_iff.mp hx
    refine ⟨_, rfl, _, _, rfl, rfl, .inr ⟨by decide, by decide⟩, _, rfl, _, _, rfl, rfl, .inr ⟨by decide, by decide⟩, _, _, rfl, rfl, _, _, rfl, rfl, _, _, rfl, rfl, by show ((2147483647 : Int) ≠ 0); decide, ?_⟩
    exact ⟨⟨_, _, rfl⟩, rfl⟩
  · rintro σ H2 ⟨⟨z, o, rfl⟩, rfl⟩
    refine ⟨_, rfl, a, _, rfl, .inl hS, fun l hl => ?_⟩
    refine ⟨_, rfl, _, rfl, a, _, rfl, .inl ((Same.new hl _).seq hS), _, _, rfl, rfl, .inr ⟨_, rfl, _, _, rfl, rfl, .inr (hc _), by show 2 ≤ sizeLine; decide, fun D hD => ?_⟩⟩
    have s1 := Same.new hl (.lst (ns.map V.int))
    have hD0 : H2 D = none := s1.free hD
    refine kk D l _ _ (s1.trans (Same.new hD _)) ⟨upd_same, (Same.new hD _) _ _ upd_same, fun e => ?_⟩ hD0 hl
    subst e
    rw [upd_same] at hD
    cases hD
theorem ok_law_by (D : Dn K mg "_law_by" s_law_by P_law_by) (g : Gx mg) : C8.Cal P w K mg base 1 "_law_by" spLBy [] := by
  refine D.cal sc_law_by (fun vs H Q E h => ?_) (fun f cdv A outer s H vs Q E hr h => ?_)
  · obtain ⟨u, t, l, rfl, ⟨a, rfl, ha⟩, hl, ht, q⟩ := h
    rfl
  obtain ⟨u, t, l, rfl, ⟨a, rfl, ha⟩, hl, ht, q⟩ := h
  have nd := sc_law_by.nd
  refine ⟨_, (pss_cons (ps_asg (pv 0) (pg_tup (by rfl) (pgs_cons (pg_name (i := 2) nd rfl (.inl rfl)) (pgs_cons (pg_name (i := 3) nd rfl (.inl rfl)) (pgs_cons (pg_name (i := 4) nd rfl (.inl rfl)) pgs_nil)))))
    (pss_cons (ps_set (i := 5) nd rfl (.inl rfl) (pe_slice sl_str (pv 1) po_none (po_some (pe_callB (call_max2 rfl) rfl g.max b_max (pa_cons pe_int (pa_cons (pe_op op_sub (pe_callB call_len_str rfl g.len PySem.boot_len (pa_cons (pv 1) pa_nil)) (pv 2)) pa_nil))))))
    (pss_one (ps_ret (pe_op op_add_str (pe_slice sl_str (pv 5) (po_some (pe_callB (call_max2 rfl) rfl g.max b_max (pa_cons pe_int (pa_cons (pe_op op_sub (pe_callB call_len_str rfl g.len PySem.boot_len (pa_cons (pv 5) pa_nil)) (pv 3)) pa_nil)))) po_none) (pv 4)))))), ?_⟩
  refine ⟨_, rfl, a, _, rfl, SqT.of ha, rfl, _, _, rfl, _, _, rfl, _, _, rfl, rfl, ?_⟩
  have e : ∀ (m : Nat) (x : List Nat), (if (((tx x).length : Nat) : Int) - (m : Int) > 0 then (((tx x).length : Nat) : Int) - (m : Int) else 0) = ((x.length - m : Nat) : Int) := fun m x => by
    rw [tx_len]
    split <;> omega
  refine ⟨_, rfl, _, rfl, _, rfl, by rw [tx_len]; exact sz (by omega), _, rfl, _, _, rfl, rfl, _, _, rfl, ?_⟩
  rw [e]
  refine ⟨_, rfl, _, rfl, by rw [tx_len]; exact sz (by omega), ?_⟩
  rw [cut_to (Nat.sub_le ..)]
  have hc := len_ct t.g l
  have e2 : l.take (l.length - t.g) = ct t.g l := rfl
  rw [e2]
  refine ⟨_, rfl, _, rfl, _, rfl, by rw [tx_len]; exact sz (by omega), _, rfl, _, _, rfl, rfl, _, _, rfl, ?_⟩
  rw [e]
  refine ⟨_, rfl, _, rfl, by rw [tx_len]; exact sz (by omega), ?_⟩
  rw [cut_from (Nat.sub_le ..)]
  have e3 : (ct t.g l).drop ((ct t.g l).length - t.k) = tp t.k (ct t.g l) := rfl
  rw [e3]
  have hp := len_tp t.k (ct t.g l)
  refine ⟨_, rfl, _, _, rfl, rfl, by rw [tx_len, tx_len]; exact sz (by omega), ?_⟩
  rw [tx_app]
  exact q H (Same.refl H)
/-- [a, b][take(box, 2)] -/
theorem pick2 {K : PySem.W.Frag} {i : Nat} {σ : L2.St} {H : Hp} {Q : VK} {p q : Addr} {ns : List Int} {z : Int} {x y : V} {t1 t2 : TE} (hσ : σ[i]? = some (some (.ref p))) (B : BoxAt H p q ns z)
    (h1 : ∀ H Q, Q x H → t1 σ H Q) (h2 : ∀ H Q, Q y H → t2 σ H Q)
    (h : ∀ (v : V) (ns' : List Int) (z' : Int) (H' : Hp), (v = x ∨ v = y) → BoxAt H' p q ns' z' → Keep p q H H' → Q v H') :
    tOp (rIxL K) (tLst (tCons t1 (tCons t2 tNil))) (tCall spTake [] C8.E0 (tCons (tVar i) (tCons (tC (.int 2)) tNil))) σ H Q := by
  refine h1 _ _ (h2 _ _ ⟨by show 2 ≤ sizeLine; decide, fun D hD => ?_⟩)
  have s1 : Same H (upd H D (.lst [x, y])) := Same.new hD _
  refine ⟨_, hσ, p, q, ns, z, 2, rfl, B.mono s1, by decide, p9 (by decide), fun r ns' z' H' r0 r1 B' k' => ?_⟩
  have k2 : Keep p q H H' := (Keep.of s1).trans k'
  have hf := B.fresh hD
  have hL : H' D = some (.lst [x, y]) := k' _ _ upd_same hf.1 hf.2
  have hr : r = 0 ∨ r = 1 := by omega
  rcases hr with rfl | rfl
  · exact ⟨D, _, 0, x, rfl, rfl, SqL.of hL, rfl, h _ _ _ _ (.inl rfl) B' k2⟩
  · exact ⟨D, _, 1, y, rfl, rfl, SqL.of hL, rfl, h _ _ _ _ (.inr rfl) B' k2⟩
theorem tC_q {v : V} {σ : L2.St} : ∀ (H : Hp) (Q : VK), Q v H → tC v σ H Q := fun _ _ h => h
theorem ok_law_plan (D : Dn K mg "_law_plan" s_law_plan P_law_plan) (g : Gx mg) (c_law_take : C8.Cal P w K mg base 1 "_law_take" spTake []) : C8.Cal P w K mg base 2 "_law_plan" spLPlan [] := by
  refine D.cal sc_law_plan (fun vs H Q E h => ?_) (fun f cdv A outer s H vs Q E hr h => ?_)
  · obtain ⟨p, q, ns, z, r, s0, rfl, B, r1, r9, s1, s4, kk⟩ := h
    rfl
  obtain ⟨p, q, ns, z, r, s0, rfl, B, r1, r9, s1, s4, kk⟩ := h
  have nd := sc_law_plan.nd
  refine ⟨_, (pss_cons (ps_set (i := 3) nd rfl (.inl rfl) (pe_op op_add pe_int (C8.pe_c c_law_take hr (by decide) rfl (pa_cons (pv 0) (pa_cons (pv 2) pa_nil)))))
    (pss_cons (ps_set (i := 4) nd rfl (.inl rfl) (pe_callTy call_tupleF rfl g.tuple b_tuple (pa_cons (pe_lc (own := [("_law_k", 5)]) rfl nd (pi_range1 (by rfl) g.range (pa_cons (pv 3) pa_nil)) (blkOk_by (own := [("_law_k", 5)]) (N := N_law_plan) (sc := defScope s_law_plan) (by decide +kernel)) (fun _ _ _ _ _ => (pg_name (i := 5) nd rfl (.inl rfl))) (fun _ _ _ _ _ => pts_nil) (fun _ _ _ _ _ => (pe_op op_add pe_int (C8.pe_c c_law_take (by exact hr) (by decide) rfl (pa_cons (pv 0) (pa_cons (pe_ix (r := rIxL K) ix_list (pe_lst (pa_cons pe_int (pa_cons pe_int pa_nil))) (C8.pe_c c_law_take (by exact hr) (by decide) rfl (pa_cons (pv 0) (pa_cons pe_int pa_nil))) (fun _ _ => rfl)) pa_nil)))))) pa_nil)))
    (pss_one (ps_ret (pe_tup (pa_cons (pe_op op_add pe_int (C8.pe_c c_law_take hr (by decide) rfl (pa_cons (pv 0) (pa_cons (pv 1) pa_nil)))) (pa_cons (pv 3) (pa_cons (pv 4) (pa_cons (pe_op op_add pe_int (C8.pe_c c_law_take hr (by decide) rfl (pa_cons (pv 0) (pa_cons (pe_ix ix_list (pe_lst (pa_cons pe_int (pa_cons pe_int pa_nil))) (C8.pe_c c_law_take hr (by decide) rfl (pa_cons (pv 0) (pa_cons pe_int pa_nil))) (fun _ _ => rfl)) pa_nil)))) pa_nil))))))))), ?_⟩
  refine ⟨_, rfl, _, rfl, p, q, ns, z, s0, rfl, B, by omega, p9 (by omega), fun m ns1 z1 H1 m0 m1 B1 k1 => ⟨_, _, rfl, rfl, ?_⟩⟩
  -- the prices
  obtain ⟨M, rfl⟩ : ∃ M : Nat, m = (M : Int) := ⟨m.toNat, by omega⟩
  refine ⟨_, rfl, ?_⟩
  refine ⟨1 + (M : Int), rfl, by omega, by omega, fun D hD => ?_⟩
  have hf := B1.fresh hD
  have sD := Same.new hD (.lst [])
  refine lc_range (lo := 0) (fun i H2 => ∃ (ps : List Int) (ns2 : List Int) (z2 : Int), BoxAt H2 p q ns2 z2 ∧ Keep p q H1 H2 ∧ H2 D = some (.lst (ps.map V.int)) ∧ ps.length = i ∧ ∀ x ∈ ps, 1 ≤ x ∧ x ≤ 99)
    ⟨[], ns1, z1, B1.mono sD, Keep.of sD, upd_same, rfl, fun x hx => by simp at hx⟩ ?_ ?_
  · rintro i H2 hi ⟨ps, ns2, z2, B2, k2, hD2, hl, hps⟩
    refine ⟨rfl, ?_⟩
    refine ⟨_, rfl, pick2 (x := .int 3) (y := .int 99) rfl B2 tC_q tC_q fun v ns3 z3 H3 hv B3 k3 => ?_⟩
    have hv' : ∃ n : Int, v = .int n ∧ 0 < n ∧ n ≤ 99 := by
      rcases hv with rfl | rfl
      · exact ⟨3, rfl, by decide, by decide⟩
      · exact ⟨99, rfl, by decide, by decide⟩
    obtain ⟨n, rfl, n0, n9⟩ := hv'
    refine ⟨p, q, ns3, z3, n, rfl, B3, n0, p9 (by omega), fun d ns4 z4 H4 d0 d1 B4 k4 => ⟨_, _, rfl, rfl, ?_⟩⟩
    have hD4 : H4 D = some (.lst (ps.map V.int)) := k4 _ _ (k3 _ _ hD2 hf.1 hf.2) hf.1 hf.2
    refine ⟨_, hD4, by rw [List.length_map, hl]; exact szl (by omega), ps ++ [1 + d], ns4, z4, ⟨by rw [upd_ne hf.1.symm]; exact B4.b, by rw [upd_ne hf.2.symm]; exact B4.l, B4.ne⟩, fun b o e e1 e2 => ?_, ?_, by simp [hl], fun x hx => ?_⟩
    · rw [upd_ne (ne_of_none e hD)]
      exact k4 _ _ (k3 _ _ (k2 _ _ e e1 e2) e1 e2) e1 e2
    · rw [upd_same, List.map_append]
      rfl
    · rcases List.mem_append.mp hx with h | h
      · exact hps x h
      · have : x = 1 + d := by simpa using h
        omega
  · rintro H2 ⟨ps, ns2, z2, B2, k2, hD2, hl, hps⟩
    have hl' : ps.length = M + 1 := by omega
    refine ⟨D, _, rfl, SqL.of hD2, fun T obT hobT hT => ?_⟩
    have sT := Same.new hT (.frz obT (.tup (ps.map V.int)))
    have BT := B2.mono sT
    refine ⟨_, rfl, _, rfl, p, q, ns2, z2, r, rfl, BT, by omega, p9 (by omega), fun a ns3 z3 H3 a0 a1 B3 k3 => ⟨_, _, rfl, rfl, ?_⟩⟩
    refine ⟨_, rfl, _, rfl, _, rfl, pick2 (x := .int 3) (y := .int 99) rfl B3 tC_q tC_q fun v ns4 z4 H4 hv B4 k4 => ?_⟩
    have hv' : ∃ n : Int, v = .int n ∧ 0 < n ∧ n ≤ 99 := by
      rcases hv with rfl | rfl
      · exact ⟨3, rfl, by decide, by decide⟩
      · exact ⟨99, rfl, by decide, by decide⟩
    obtain ⟨n, rfl, n0, n9⟩ := hv'
    refine ⟨p, q, ns4, z4, n, rfl, B4, n0, p9 (by omega), fun c ns5 z5 H5 c0 c1 B5 k5 => ⟨_, _, rfl, rfl, ?_⟩⟩
    refine ⟨by show 4 ≤ sizeLine; decide, fun U hU => ?_⟩
    have sU := Same.new hU (.tup [.int (1 + a), .int (1 + (M : Int)), .ref T, .int (1 + c)])
    obtain ⟨A0, rfl⟩ : ∃ A0 : Nat, a = (A0 : Int) := ⟨a.toNat, by omega⟩
    refine kk ⟨A0 + 1, M + 1, ps, 1 + c⟩ _ ns5 z5 _ ⟨by show 1 ≤ A0 + 1; omega, by show A0 + 1 ≤ 9; omega, by show 1 ≤ M + 1; omega, by show M + 1 ≤ 4; omega, hl', hps, by show 1 ≤ 1 + c; omega, by show 1 + c ≤ 99; omega⟩
      (by show A0 + 1 ≤ r; omega) (by show M + 1 ≤ s0; omega) ⟨U, T, rfl, ?_, ?_⟩ (B5.mono sU) ?_
    · rw [upd_same]
      have e1 : (1 : Int) + (A0 : Int) = ((A0 + 1 : Nat) : Int) := by omega
      have e2 : (1 : Int) + (M : Int) = ((M + 1 : Nat) : Int) := by omega
      show some (HO.tup [V.int (1 + (A0 : Int)), V.int (1 + (M : Int)), V.ref T, V.int (1 + c)]) = _
      rw [e1, e2]
    · exact ⟨obT, hobT, sU _ _ ((k5.tups B4).f _ _ _ ((k4.tups B3).f _ _ _ ((k3.tups BT).f _ _ _ upd_same)))⟩
    · refine (k1.trans (k2.trans ((Keep.of sT).trans (k3.trans (k4.trans (k5.trans (Keep.of sU)))))))
theorem iteD {c A B : Prop} [Decidable c] (hc : c) (h : A) : if decide c = true then A else B := by
  rw [decide_eq_true hc]
  exact iteT h
theorem iteDF {c A B : Prop} [Decidable c] (hc : ¬ c) (h : B) : if decide c = true then A else B := by
  rw [decide_eq_false hc]
  exact iteF h
theorem givD {x : V} {H : Hp} {Q : VK} (q : giv (.bl true) H Q) : Q (.bl (decide (x = x))) H := by
  rw [decide_eq_true rfl]
  exact q H (Same.refl H)
theorem ok_law_alike (D : Dn K mg "_law_alike" s_law_alike P_law_alike) (g : Gx mg) : ∀ n, C8.Cal P w K mg base n "_law_alike" (spAlike n) []
  | 0 => by
    obtain ⟨f, fd, F, hm, b⟩ := D.ex
    have no : ∀ vs H Q E, ¬ spAlike 0 vs H Q E := fun vs H Q E h => by
      obtain ⟨v, w, _, h, _⟩ := h
      exact h
    exact ⟨f, fd, _, [], ⟨fun vs H Q E h => absurd h (no vs H Q E), fun A outer s H args us vs Q E _ _ _ _ h => absurd h (no vs H Q E)⟩, hm, F.kp, b, .nil⟩
  | n + 1 => by
    have c_law_alike := ok_law_alike D g n
    refine D.cal sc_law_alike (fun vs H Q E h => ?_) (fun f cdv A outer s H vs Q E hr h => ?_)
    · obtain ⟨v, w, rfl, _⟩ := h
      rfl
    obtain ⟨v, w, rfl, al, q⟩ := h
    have nd := sc_law_alike.nd
    refine ⟨_, (pss_cons (ps_if (pt_cmpR op_isN (pv 1) pe_non (nomark _)) (pss_one (ps_ret (pe_cmpR op_isN (pv 0) pe_non (nomark _)))) pss_nil)
    (pss_cons (ps_if (pt_val (pe_callB call_isi rfl g.isi b_isi (pa_cons (pv 1) (pa_cons (pe_bltn (v := .ty "bool") rfl g.bool b_bool rfl) pa_nil)))) (pss_one (ps_ret (pe_and (pe_callB call_isi rfl g.isi b_isi (pa_cons (pv 0) (pa_cons (pe_bltn (v := .ty "bool") rfl g.bool b_bool rfl) pa_nil))) (pe_one (pe_cmpR op_eq (pv 0) (pv 1) (nomark _)))))) pss_nil)
    (pss_cons (ps_if (pt_val (pe_callB call_isi rfl g.isi b_isi (pa_cons (pv 1) (pa_cons (pe_bltn (v := .ty "int") rfl g.int b_int rfl) pa_nil)))) (pss_one (ps_ret (pe_and (pe_callB call_isi rfl g.isi b_isi (pa_cons (pv 0) (pa_cons (pe_bltn (v := .ty "int") rfl g.int b_int rfl) pa_nil))) (pe_and (pe_not (pe_callB call_isi rfl g.isi b_isi (pa_cons (pv 0) (pa_cons (pe_bltn (v := .ty "bool") rfl g.bool b_bool rfl) pa_nil)))) (pe_one (pe_cmpR op_eq (pv 0) (pv 1) (nomark _))))))) pss_nil)
    (pss_cons (ps_if (pt_val (pe_callB call_isi rfl g.isi b_isi (pa_cons (pv 1) (pa_cons (pe_bltn (v := .ty "str") rfl g.str b_str rfl) pa_nil)))) (pss_one (ps_ret (pe_and (pe_callB call_isi rfl g.isi b_isi (pa_cons (pv 0) (pa_cons (pe_bltn (v := .ty "str") rfl g.str b_str rfl) pa_nil))) (pe_one (pe_cmpR op_eq (pv 0) (pv 1) (nomark _)))))) pss_nil)
    (pss_cons (ps_if (PW.pt (pw_or (pt_cmpR op_ne (pe_callB call_isi rfl g.isi b_isi (pa_cons (pv 1) (pa_cons (pe_bltn (v := .ty "tuple") rfl g.tuple b_tuple rfl) pa_nil))) (pe_callB call_isi rfl g.isi b_isi (pa_cons (pv 0) (pa_cons (pe_bltn (v := .ty "tuple") rfl g.tuple b_tuple rfl) pa_nil))) (nomark _)) (pw_or1 (pt_cmpR op_ne (pe_callB call_isi rfl g.isi b_isi (pa_cons (pv 1) (pa_cons (pe_bltn (v := .ty "list") rfl g.list b_list rfl) pa_nil))) (pe_callB call_isi rfl g.isi b_isi (pa_cons (pv 0) (pa_cons (pe_bltn (v := .ty "list") rfl g.list b_list rfl) pa_nil))) (nomark _))))) (pss_one (ps_ret pe_bl)) pss_nil)
    (pss_cons (ps_if (pt_cmpR op_ne (pe_callB call_len rfl g.len PySem.boot_len (pa_cons (pv 0) pa_nil)) (pe_callB call_len rfl g.len PySem.boot_len (pa_cons (pv 1) pa_nil)) (nomark _)) (pss_one (ps_ret pe_bl)) pss_nil)
    (pss_cons (ps_for PassesOwn.never rfl (pi_range1 (by rfl) g.range (pa_cons (pe_callB call_len rfl g.len PySem.boot_len (pa_cons (pv 1) pa_nil)) pa_nil)) (pg_name (i := 2) nd rfl (.inl rfl)) (pss_one (ps_if (pt_not (pt_val (C8.pe_c c_law_alike hr (Nat.le_refl _) rfl (pa_cons (pe_ix ix_seq (pv 0) (pv 2) (fun _ _ => rfl)) (pa_cons (pe_ix ix_seq (pv 1) (pv 2) (fun _ _ => rfl)) pa_nil))))) (pss_one (ps_ret pe_bl)) pss_nil)))
    (pss_one (ps_ret pe_bl))))))))), ?_⟩
    rcases al with ⟨rfl, hs⟩ | ⟨a, b, xs, ys, rfl, rfl, ⟨ha, hb⟩ | ⟨ha, hb⟩, hl, hy, he⟩
    · cases v with
      | non =>
        refine ⟨_, rfl, rfl, _, rfl, iteD rfl ?_⟩
        exact ⟨_, rfl, rfl, givD q⟩
      | bl x =>
        refine ⟨_, rfl, rfl, _, rfl, iteDF (by intro z; cases z) ?_⟩
        refine ⟨_, rfl, _, _, _, _, _, rfl, .ty "bool", ty_bl, kit_ty k_bool_bool, _, rfl, iteT ?_⟩
        exact ⟨_, rfl, _, _, _, _, _, rfl, .ty "bool", ty_bl, kit_ty k_bool_bool, _, rfl, iteT ⟨_, rfl, _, rfl, rfl, givD q⟩⟩
      | int x =>
        refine ⟨_, rfl, rfl, _, rfl, iteDF (by intro z; cases z) ?_⟩
        refine ⟨_, rfl, _, _, _, _, _, rfl, .ty "bool", ty_int, kit_ty k_int_bool, _, rfl, iteF ?_⟩
        refine ⟨_, rfl, _, _, _, _, _, rfl, .ty "int", ty_int, kit_ty k_int_int, _, rfl, iteT ?_⟩
        refine ⟨_, rfl, _, _, _, _, _, rfl, .ty "int", ty_int, kit_ty k_int_int, _, rfl, iteT ?_⟩
        exact ⟨_, rfl, _, _, _, _, _, rfl, .ty "bool", ty_int, kit_ty k_int_bool, _, rfl, _, rfl, iteT ⟨_, rfl, _, rfl, rfl, givD q⟩⟩
      | str x =>
        refine ⟨_, rfl, rfl, _, rfl, iteDF (by intro z; cases z) ?_⟩
        refine ⟨_, rfl, _, _, _, _, _, rfl, .ty "bool", ty_str, kit_ty k_str_bool, _, rfl, iteF ?_⟩
        refine ⟨_, rfl, _, _, _, _, _, rfl, .ty "int", ty_str, kit_ty k_str_int, _, rfl, iteF ?_⟩
        refine ⟨_, rfl, _, _, _, _, _, rfl, .ty "str", ty_str, kit_ty k_str_str, _, rfl, iteT ?_⟩
        exact ⟨_, rfl, _, _, _, _, _, rfl, .ty "str", ty_str, kit_ty k_str_str, _, rfl, iteT ⟨_, rfl, _, rfl, rfl, givD q⟩⟩
      | ref x => exact hs.elim
      | ty x => exact hs.elim
      | flt x => exact hs.elim
      | byt x => exact hs.elim
    · -- tuples
      refine ⟨_, rfl, rfl, _, rfl, iteDF (by intro z; cases z) ?_⟩
      refine ⟨_, rfl, _, _, _, _, _, rfl, .ty "bool", ty_tup hb, kit_ty k_tup_bool, _, rfl, iteF ?_⟩
      refine ⟨_, rfl, _, _, _, _, _, rfl, .ty "int", ty_tup hb, kit_ty k_tup_int, _, rfl, iteF ?_⟩
      refine ⟨_, rfl, _, _, _, _, _, rfl, .ty "str", ty_tup hb, kit_ty k_tup_str, _, rfl, iteF ?_⟩
      refine ⟨_, rfl, _, _, _, _, _, rfl, .ty "tuple", ty_tup hb, kit_ty k_tup_tup, _, rfl, _, _, _, _, _, rfl, .ty "tuple", ty_tup ha, kit_ty k_tup_tup, rfl, _, rfl, iteNS rfl ?_⟩
      refine ⟨_, rfl, _, _, _, _, _, rfl, .ty "list", ty_tup hb, kit_ty k_tup_lst, _, rfl, _, _, _, _, _, rfl, .ty "list", ty_tup ha, kit_ty k_tup_lst, rfl, _, rfl, iteNS rfl ?_⟩
      refine ⟨_, rfl, _, _, rfl, .inr ⟨xs, SqT.of ha, rfl⟩, _, rfl, _, _, rfl, .inr ⟨ys, SqT.of hb, rfl⟩, rfl, _, rfl, iteNS (by rw [hl]) ?_⟩
      refine ⟨_, rfl, _, _, rfl, .inr ⟨ys, SqT.of hb, rfl⟩, _, rfl, by omega, by omega, ?_⟩
      refine for_range (lo := 0) (fun i σ H2 => ∃ (o : Option V), σ = [some (.ref a), some (.ref b), o] ∧ Same H H2) ⟨none, rfl, Same.refl H⟩ ?_ ?_
      · rintro i σ H2 hi ⟨o, rfl, s2⟩
        have hi' : i < ys.length := by omega
        have ex : xs[i]? = some xs[i] := List.getElem?_eq_getElem (by omega)
        have ey : ys[i]? = some ys[i] := List.getElem?_eq_getElem hi'
        refine ⟨_, rfl, _, rfl, .inr <| .inl ⟨a, xs, 0 + (i : Int), _, rfl, rfl, SqT.of (s2 _ _ ha), (by rw [Int.zero_add]; exact atI_nat ex), ?_⟩⟩
        refine ⟨_, rfl, _, rfl, .inr <| .inl ⟨b, ys, 0 + (i : Int), _, rfl, rfl, SqT.of (s2 _ _ hb), (by rw [Int.zero_add]; exact atI_nat ey), ?_⟩⟩
        refine ⟨_, _, rfl, Alk.mono s2 (he i _ _ ex ey), fun H3 s3 => ⟨_, rfl, iteF ?_⟩⟩
        exact ⟨_, rfl, s2.trans s3⟩
      · rintro σ H2 ⟨o, rfl, s2⟩
        exact q H2 s2
    · -- lists
      refine ⟨_, rfl, rfl, _, rfl, iteDF (by intro z; cases z) ?_⟩
      refine ⟨_, rfl, _, _, _, _, _, rfl, .ty "bool", ty_lst hb, kit_ty k_lst_bool, _, rfl, iteF ?_⟩
      refine ⟨_, rfl, _, _, _, _, _, rfl, .ty "int", ty_lst hb, kit_ty k_lst_int, _, rfl, iteF ?_⟩
      refine ⟨_, rfl, _, _, _, _, _, rfl, .ty "str", ty_lst hb, kit_ty k_lst_str, _, rfl, iteF ?_⟩
      refine ⟨_, rfl, _, _, _, _, _, rfl, .ty "tuple", ty_lst hb, kit_ty k_lst_tup, _, rfl, _, _, _, _, _, rfl, .ty "tuple", ty_lst ha, kit_ty k_lst_tup, rfl, _, rfl, iteNS rfl ?_⟩
      refine ⟨_, rfl, _, _, _, _, _, rfl, .ty "list", ty_lst hb, kit_ty k_lst_lst, _, rfl, _, _, _, _, _, rfl, .ty "list", ty_lst ha, kit_ty k_lst_lst, rfl, _, rfl, iteNS rfl ?_⟩
      refine ⟨_, rfl, _, _, rfl, .inl ⟨xs, SqL.of ha, rfl⟩, _, rfl, _, _, rfl, .inl ⟨ys, SqL.of hb, rfl⟩, rfl, _, rfl, iteNS (by rw [hl]) ?_⟩
      refine ⟨_, rfl, _, _, rfl, .inl ⟨ys, SqL.of hb, rfl⟩, _, rfl, by omega, by omega, ?_⟩
      refine for_range (lo := 0) (fun i σ H2 => ∃ (o : Option V), σ = [some (.ref a), some (.ref b), o] ∧ Same H H2) ⟨none, rfl, Same.refl H⟩ ?_ ?_
      · rintro i σ H2 hi ⟨o, rfl, s2⟩
        have hi' : i < ys.length := by omega
        have ex : xs[i]? = some xs[i] := List.getElem?_eq_getElem (by omega)
        have ey : ys[i]? = some ys[i] := List.getElem?_eq_getElem hi'
        refine ⟨_, rfl, _, rfl, .inl ⟨a, xs, 0 + (i : Int), _, rfl, rfl, SqL.of (s2 _ _ ha), (by rw [Int.zero_add]; exact atI_nat ex), ?_⟩⟩
        refine ⟨_, rfl, _, rfl, .inl ⟨b, ys, 0 + (i : Int), _, rfl, rfl, SqL.of (s2 _ _ hb), (by rw [Int.zero_add]; exact atI_nat ey), ?_⟩⟩
        refine ⟨_, _, rfl, Alk.mono s2 (he i _ _ ex ey), fun H3 s3 => ⟨_, rfl, iteF ?_⟩⟩
        exact ⟨_, rfl, s2.trans s3⟩
      · rintro σ H2 ⟨o, rfl, s2⟩
        exact q H2 s2
def ext (many : Nat) (l : List Nat) : List (List Nat) := (signs many).map fun c => l ++ [c]
abbrev fv (l : List Nat) : V := V.str (tx l)
theorem fm_len (many : Nat) (xs : List (List Nat)) : (xs.flatMap (ext many)).length = xs.length * (signs many).length := by
  induction xs with
  | nil => simp
  | cons x r ih =>
    rw [List.flatMap_cons, List.length_append, ih]
    unfold ext
    rw [List.length_map, List.length_cons, Nat.succ_mul, Nat.add_comm]
theorem fm_le (many : Nat) {i : Nat} (h : i + 1 ≤ 9) (j : Nat) : (((lay many i).take j).flatMap (ext many)).length ≤ 262144 := by
  have h1 := lay_le many h
  have h2 : (lay many (i + 1)).length = (lay many i).length * (signs many).length := fm_len many (lay many i)
  rw [fm_len, List.length_take]
  exact Nat.le_trans (Nat.mul_le_mul_right _ (Nat.min_le_right ..)) (by omega)
theorem big {n : Nat} (h : n ≤ 3000000) : n ≤ sizeLine := Nat.le_trans h (by decide)
theorem ok_law_stacks (D : Dn K mg "_law_stacks" s_law_stacks P_law_stacks) (g : Gx mg) : C8.Cal P w K mg base 1 "_law_stacks" spLStacks [] := by
  refine D.cal sc_law_stacks (fun vs H Q E h => ?_) (fun f cdv A outer s H vs Q E hr h => ?_)
  · obtain ⟨v, p, rfl, ⟨a, b, rfl, ha, hb⟩, ok, kk⟩ := h
    rfl
  obtain ⟨v, p, rfl, ⟨a, b, rfl, ha, hb⟩, ok, kk⟩ := h
  have nd := sc_law_stacks.nd
  refine ⟨_, (pss_cons (ps_par (i := 1) (j := 2) (by rfl) nd rfl rfl (by decide) rfl rfl (pa_cons (pe_lst (pa_cons pe_str pa_nil)) (pa_cons (pe_lst (pa_cons pe_str pa_nil)) pa_nil)) (by rfl))
    (pss_cons (ps_for PassesOwn.never rfl (pi_range1 (by rfl) g.range (pa_cons (pe_ix ix_tup (pv 0) pe_int (fun _ _ => rfl)) pa_nil)) (pg_name (i := 3) nd rfl (.inl rfl)) (pss_cons (ps_set (i := 4) nd rfl (.inl rfl) (pe_lst pa_nil))
    (pss_cons (ps_for PassesOwn.never rfl (pi_list (pv 2)) (pg_name (i := 5) nd rfl (.inr rfl)) (pss_one (ps_set (i := 4) nd rfl (.inl rfl) (pe_op op_cat (pv 4) (pe_lc (own := [("_law_sign", 6)]) rfl nd (pi_str (pe_slice sl_str pe_str po_none (po_some (pe_ix ix_tup (pv 0) pe_int (fun _ _ => rfl))))) (blkOk_by (own := [("_law_sign", 6)]) (N := N_law_stacks) (sc := defScope s_law_stacks) (by decide +kernel)) (fun _ _ _ _ _ => (pg_name (i := 6) nd rfl (.inl rfl))) (fun _ _ _ _ _ => pts_nil) (fun _ _ _ _ _ => (pe_op op_add_str (pv 5) (pv 6))))))))
    (pss_one (ps_par (i := 1) (j := 2) (by rfl) nd rfl rfl (by decide) rfl rfl (pa_cons (pe_op op_cat (pv 1) (pv 4)) (pa_cons (pv 4) pa_nil)) (by rfl))))))
    (pss_one (ps_ret (pv 1))))), ?_⟩
  have h9 := ok.r9
  have m4 := ok.m4
  have e0 : V.str "" = fv [] := congrArg V.str s_empty
  refine ⟨by show 1 ≤ sizeLine; decide, fun F0 hF0 => ⟨by show 1 ≤ sizeLine; decide, fun L0 hL0 => ⟨_, _, rfl, ?_⟩⟩⟩
  have sF := Same.new hF0 (.lst [.str ""])
  have sL := Same.new hL0 (.lst [.str ""])
  refine ⟨_, rfl, a, _, 0, _, rfl, rfl, SqT.of (sL _ _ (sF _ _ ha)), rfl, _, rfl, by omega, by omega, ?_⟩
  refine for_range (lo := 0) (fun i σ H2 => ∃ (F L : Addr) (o3 o4 o5 : Option V), σ = [some (.ref a), some (.ref F), some (.ref L), o3, o4, o5, none] ∧ Same H H2 ∧ H F = none ∧ H2 F = some (.lst ((stk p.many i).map fv)) ∧ H2 L = some (.lst ((lay p.many i).map fv)))
    ⟨F0, L0, none, none, none, rfl, sF.trans sL, hF0, by rw [sL _ _ upd_same, e0]; rfl, by rw [upd_same, e0]; rfl⟩ ?_ ?_
  · rintro i σ H2 hi ⟨F, L, o3, o4, o5, rfl, s2, nF, hF, hL⟩
    have hi9 : i + 1 ≤ 9 := by omega
    refine ⟨by show 0 ≤ sizeLine; decide, fun G0 hG0 => ?_⟩
    have sG := Same.new hG0 (.lst [])
    refine ⟨_, rfl, L, rfl, ⟨_, SqL.of (sG _ _ hL)⟩, for_list (K := K) (a := L) (xs := (lay p.many i).map fv)
      (fun j σ H3 => ∃ (G : Addr) (o5 : Option V), σ = [some (.ref a), some (.ref F), some (.ref L), some (.int (0 + (i : Int))), some (.ref G), o5, none] ∧ Same H2 H3 ∧ H3 G = some (.lst ((((lay p.many i).take j).flatMap (ext p.many)).map fv)))
      ⟨G0, o5, rfl, sG, upd_same⟩ (fun j σ H3 _ ⟨_, _, _, s3, _⟩ => SqL.of (s3 _ _ hL)) ?_ ?_⟩
    · rintro j x σ H3 hx ⟨G, o5, rfl, s3, hG⟩
      rw [List.getElem?_map] at hx
      obtain ⟨one, hone, rfl⟩ := Option.map_eq_some_iff.mp hx
      have hlen : one.length = i := (lay_mem (List.mem_of_getElem? hone)).1
      refine ⟨_, rfl, _, rfl, a, _, 1, _, rfl, rfl, SqT.of (s3 _ _ (s2 _ _ ha)), rfl, _, rfl, _, rfl, by rw [s_abcd, tx_len]; exact sz (by decide), ?_⟩
      rw [s_abcd, cut_to (l := [97, 98, 99, 100]) (n := p.many) m4]
      refine ⟨_, rfl, fun D hD => ?_⟩
      have hn : (tx (signs p.many)).cps.size = (signs p.many).length := tx_len _
      have sl4 := signs_len p.many
      refine lc_it (walk_str (z := tx (signs p.many))) (fun k H4 => Same H3 H4 ∧ H4 D = some (.lst (((signs p.many).take k).map fun c => fv (one ++ [c])))) ⟨Same.new hD _, upd_same⟩ (fun _ _ _ _ => trivial) ?_ ?_
      · rintro k y H4 H5 hk ⟨s4, h4⟩ ⟨rfl, c, hc, rfl⟩
        have hc' : (signs p.many)[k]? = some c := by
          rw [← hc]
          simp [tx]
        refine ⟨rfl, ?_⟩
        refine ⟨_, rfl, _, rfl, _, _, rfl, rfl, by rw [tx_len]; exact sz (by show one.length + 1 ≤ _; omega), _, h4, ?_, fun b o e => ?_, ?_⟩
        · rw [List.length_map, List.length_take]
          exact szl (by omega)
        · rw [upd_ne (ne_of_none e hD)]
          exact s4 b o e
        · rw [upd_same, List.take_add_one, hc', List.map_append]
          exact congrArg (fun z => some (HO.lst (_ ++ [V.str z]))) (tx_app one [c])
      · rintro H4 ⟨s4, h4⟩
        rw [hn, List.take_of_length_le (Nat.le_refl _)] at h4
        have hfl := fm_le p.many hi9 j
        refine ⟨G, D, _, _, rfl, rfl, s4 _ _ hG, h4, by rw [List.length_map, List.length_map]; exact big (by omega), fun E hE => ?_⟩
        refine ⟨E, some (fv one), rfl, s3.trans (s4.trans (Same.new hE _)), ?_⟩
        rw [upd_same, List.take_add_one, hone, List.flatMap_append, List.map_append]
        simp [ext]
    · rintro σ H3 ⟨G, o5, rfl, s3, hG⟩
      rw [List.length_map, List.take_of_length_le (Nat.le_refl _)] at hG
      have hs := stk_le p.many (n := i) (by omega)
      have hl : ((lay p.many i).flatMap (ext p.many)).length ≤ 262144 := lay_le p.many hi9
      have h10 : (i + 1) * 262144 ≤ 9 * 262144 := Nat.mul_le_mul_right _ (by omega)
      refine ⟨_, rfl, _, rfl, F, G, _, _, rfl, rfl, s3 _ _ hF, hG, by rw [List.length_map, List.length_map]; exact big (by omega), fun U hU => ⟨_, rfl, _, _, rfl, ?_⟩⟩
      have sU := Same.new hU (.lst ((stk p.many i).map fv ++ ((lay p.many i).flatMap (ext p.many)).map fv))
      have nU : H U = none := (s2.trans s3).free hU
      refine ⟨U, G, _, _, _, rfl, s2.trans (s3.trans sU), nU, ?_, sU _ _ hG⟩
      rw [upd_same, ← List.map_append]
      rfl
  · rintro σ H2 ⟨F, L, o3, o4, o5, rfl, s2, nF, hF, hL⟩
    have e : ((p.room : Int)).toNat = p.room := by omega
    rw [e] at hF
    exact ⟨_, rfl, kk F H2 s2 nF hF⟩
theorem ok_law_signs (D : Dn K mg "_law_signs" s_law_signs P_law_signs) (g : Gx mg) (c_law_take : C8.Cal P w K mg base 1 "_law_take" spTake []) : C8.Cal P w K mg base 2 "_law_signs" spLSigns [] := by
  refine D.cal sc_law_signs (fun vs H Q E h => ?_) (fun f cdv A outer s H vs Q E hr h => ?_)
  · obtain ⟨p, q, ns, z, v, pl, n, rfl, B, ⟨a, b, rfl, ha, hb⟩, ok, hn, kk⟩ := h
    rfl
  obtain ⟨p, q, ns, z, v, pl, n, rfl, B, ⟨a, b, rfl, ha, hb⟩, ok, hn, kk⟩ := h
  have nd := sc_law_signs.nd
  refine ⟨_, (pss_one (ps_ret (pe_join pe_str (pe_lc (own := [("_law_k", 3)]) rfl nd (pi_range1 (by rfl) g.range (pa_cons (C8.pe_c c_law_take hr (by decide) rfl (pa_cons (pv 0) (pa_cons (pe_op op_add (pv 2) pe_int) pa_nil))) pa_nil)) (blkOk_by (own := [("_law_k", 3)]) (N := N_law_signs) (sc := defScope s_law_signs) (by decide +kernel)) (fun _ _ _ _ _ => (pg_name (i := 3) nd rfl (.inl rfl))) (fun _ _ _ _ _ => pts_nil) (fun _ _ _ _ _ => (pe_ix ix_str pe_str (C8.pe_c c_law_take (by exact hr) (by decide) rfl (pa_cons (pv 0) (pa_cons (pe_ix (r := rIxT K) ix_tup (pv 1) pe_int (fun _ _ => rfl)) pa_nil))) (fun _ _ => rfl))))))), ?_⟩
  have hm1 := ok.m1
  have hm4 := ok.m4
  refine ⟨⟨_, rfl⟩, _, rfl, _, rfl, _, _, rfl, rfl, p, q, ns, z, (n : Int) + 1, rfl, B, by omega, p9 (by omega), fun m ns1 z1 H1 m0 m1 B1 k1 => ?_⟩
  refine ⟨m, rfl, by omega, by omega, fun D hD => ?_⟩
  have hf := B1.fresh hD
  have sD := Same.new hD (.lst [])
  refine lc_range (lo := 0) (fun i H2 => ∃ (l : List Nat) (ns2 : List Int) (z2 : Int), BoxAt H2 p q ns2 z2 ∧ Keep p q H1 H2 ∧ H2 D = some (.lst (l.map fun c => V.str (tx [c]))) ∧ l.length = i ∧ ∀ c ∈ l, c ∈ signs pl.many)
    ⟨[], ns1, z1, B1.mono sD, Keep.of sD, upd_same, rfl, fun x hx => by simp at hx⟩ ?_ ?_
  · rintro i H2 hi ⟨l, ns2, z2, B2, k2, hD2, hl, hs⟩
    refine ⟨rfl, ?_⟩
    refine ⟨_, rfl, _, rfl, a, _, 1, _, rfl, rfl, SqT.of ((k1.trans k2).tup B ha), rfl, p, q, ns2, z2, pl.many, rfl, B2, by omega, p9 (by omega), fun r ns3 z3 H3 r0 r1 B3 k3 => ?_⟩
    obtain ⟨c, hc, hat⟩ := sign_at hm4 r0 r1
    refine ⟨("abcd" : Str), r, c, rfl, rfl, by rw [s_abcd, tx_len]; exact sz (by decide), hat, ?_⟩
    have hD3 := k3 _ _ hD2 hf.1 hf.2
    refine ⟨_, hD3, by rw [List.length_map, hl]; exact szl (by omega), l ++ [c], ns3, z3, ⟨by rw [upd_ne hf.1.symm]; exact B3.b, by rw [upd_ne hf.2.symm]; exact B3.l, B3.ne⟩, fun b o e e1 e2 => ?_, ?_, by simp [hl], fun x hx => ?_⟩
    · rw [upd_ne (ne_of_none e hD)]
      exact k3 _ _ (k2 _ _ e e1 e2) e1 e2
    · rw [upd_same, List.map_append]
      rfl
    · rcases List.mem_append.mp hx with h | h
      · exact hs x h
      · have : x = c := by simpa using h
        subst this
        exact hc
  · rintro H2 ⟨l, ns2, z2, B2, k2, hD2, hl, hs⟩
    have e1 : (l.map fun c => V.str (tx [c])) = (l.map fun c => tx [c]).map V.str := by rw [List.map_map]; rfl
    rw [e1] at hD2
    have e2 := tx1_len l
    refine ⟨("" : Str), D, (l.map fun c => tx [c]), rfl, rfl, .inl (SqL.of hD2), ?_, ?_⟩
    · rw [e2, s_empty, List.length_map]
      show l.length + l.length * 0 ≤ 16777216
      omega
    · have e3 : Txt.join ("" : Str) (l.map fun c => tx [c]) = tx l := by
        have h := join_tx (l.map fun c => [c])
        rw [List.map_map] at h
        rw [flat1] at h
        rw [s_empty]
        exact h
      rw [e3]
      exact kk l ns2 z2 H2 (by omega) hs B2 (k1.trans k2)
theorem no_spLWork : ∀ vs H Q E, ¬ spLWork 0 vs H Q E := fun vs H Q E h => by
  obtain ⟨p, q, ns, z, v, pl, m, tm, _, _, _, _, h1, h2, _⟩ := h
  omega
theorem no_spLTuples : ∀ vs H Q E, ¬ spLTuples 0 vs H Q E := fun vs H Q E h => by
  obtain ⟨u, w, many, _, _, _, h, _⟩ := h
  have := W.dep_pos w
  omega
theorem no_spLCount : ∀ vs H Q E, ¬ spLCount 0 vs H Q E := fun vs H Q E h => by
  obtain ⟨u, w, many, _, _, _, h, _⟩ := h
  have := W.dep_pos w
  omega
theorem no_spLLong : ∀ vs H Q E, ¬ spLLong 0 vs H Q E := fun vs H Q E h => by
  obtain ⟨u, w, many, _, _, _, h, _⟩ := h
  have := W.dep_pos w
  omega
theorem ok_law_triple (D : Dn K mg "_law_triple" s_law_triple P_law_triple) (g : Gx mg) (c_law_take : C8.Cal P w K mg base 1 "_law_take" spTake []) (c_law_signs : C8.Cal P w K mg base 2 "_law_signs" spLSigns []) : C8.Cal P w K mg base 3 "_law_triple" spLTriple [] := by
  refine D.cal sc_law_triple (fun vs H Q E h => ?_) (fun f cdv A outer s H vs Q E hr h => ?_)
  · obtain ⟨p, q, ns, z, v, pl, rfl, B, hp, ok, kk⟩ := h
    rfl
  obtain ⟨p, q, ns, z, v, pl, rfl, B, hp, ok, kk⟩ := h
  have nd := sc_law_triple.nd
  refine ⟨_, (pss_cons (ps_set (i := 2) nd rfl (.inl rfl) (C8.pe_c c_law_take hr (by decide) rfl (pa_cons (pv 0) (pa_cons (pe_op op_add (pe_ix ix_tup (pv 1) pe_int (fun _ _ => rfl)) pe_int) pa_nil))))
    (pss_cons (ps_set (i := 3) nd rfl (.inl rfl) (C8.pe_c c_law_signs hr (by decide) rfl (pa_cons (pv 0) (pa_cons (pv 1) (pa_cons (pe_op op_sub (pe_ix ix_tup (pv 1) pe_int (fun _ _ => rfl)) (pv 2)) pa_nil)))))
    (pss_one (ps_ret (pe_tup (pa_cons (pe_ifExp (pt_cmpR op_gt (pv 2) pe_int (nomark _)) (C8.pe_c c_law_take hr (by decide) rfl (pa_cons (pv 0) (pa_cons (pe_op op_add (pe_op op_sub (pe_ix ix_tup (pv 1) pe_int (fun _ _ => rfl)) (pv 2)) pe_int) pa_nil))) pe_int) (pa_cons (pv 2) (pa_cons (pv 3) pa_nil)))))))), ?_⟩
  have h9 := ok.r9
  obtain ⟨a, b, rfl, ha, hb⟩ := id hp
  refine ⟨_, rfl, _, rfl, a, _, 0, _, rfl, rfl, SqT.of ha, rfl, _, _, rfl, rfl, p, q, ns, z, (pl.room : Int) + 1, rfl, B, by omega, p9 (by omega), fun k ns1 z1 H1 k0 k1 B1 g1 => ?_⟩
  obtain ⟨K1, rfl⟩ : ∃ K1 : Nat, k = (K1 : Int) := ⟨k.toNat, by omega⟩
  have ha1 := g1.tup B ha
  have em : (pl.room : Int) - (K1 : Int) = ((pl.room - K1 : Nat) : Int) := by omega
  refine ⟨_, rfl, _, rfl, _, rfl, a, _, 0, _, rfl, rfl, SqT.of ha1, rfl, _, rfl, _, _, rfl, rfl, p, q, ns1, z1, .ref a, pl, pl.room - K1, (by show [V.ref p, V.ref a, V.int ((pl.room : Int) - (K1 : Int))] = _; rw [em]), B1, hp.keep B g1, ok, by omega, fun l ns2 z2 H2 hl hs B2 g2 => ?_⟩
  have ha2 := g2.tup B1 ha1
  refine ⟨_, rfl, _, _, rfl, rfl, _, rfl, ite2 (fun c => ?_) (fun c => ?_)⟩
  · have c' : (0 : Int) < (K1 : Int) := of_decide_eq_true c
    refine ⟨_, rfl, _, rfl, a, _, 0, _, rfl, rfl, SqT.of ha2, rfl, _, rfl, _, _, rfl, rfl, _, _, rfl, rfl, p, q, ns2, z2, (pl.room : Int) - (K1 : Int) + 1, rfl, B2, by omega, p9 (by omega), fun gg ns3 z3 H3 q0 q1 B3 g3 => ?_⟩
    obtain ⟨G, rfl⟩ : ∃ G : Nat, gg = (G : Int) := ⟨gg.toNat, by omega⟩
    refine ⟨_, rfl, _, rfl, by show 3 ≤ sizeLine; decide, fun T hT => ?_⟩
    have sT := Same.new hT (.tup [.int (G : Int), .int (K1 : Int), .str (tx l)])
    exact kk ⟨G, K1, l⟩ _ ns3 z3 _ ⟨by show G + K1 ≤ pl.room; omega, by show K1 + l.length ≤ pl.room; omega, fun e => by have e' : K1 = 0 := e; omega, hs⟩ ⟨T, rfl, upd_same⟩ (B3.mono sT) (g1.trans (g2.trans (g3.trans (Keep.of sT))))
  · have c' : ¬ (0 : Int) < (K1 : Int) := fun z => c (decide_eq_true z)
    have e0 : K1 = 0 := by omega
    subst e0
    refine ⟨_, rfl, _, rfl, by show 3 ≤ sizeLine; decide, fun T hT => ?_⟩
    have sT := Same.new hT (.tup [.int 0, .int ((0 : Nat) : Int), .str (tx l)])
    exact kk ⟨0, 0, l⟩ _ ns2 z2 _ ⟨Nat.zero_le _, by show 0 + l.length ≤ pl.room; omega, fun _ => rfl, hs⟩ ⟨T, rfl, upd_same⟩ (B2.mono sT) (g1.trans (g2.trans (Keep.of sT)))
theorem mulNN {a b c : Nat} (h : a * b = c) : ((a : Int) * (b : Int)) = ((c : Nat) : Int) := by
  rw [← h, Int.natCast_mul]
theorem ok_texts_of_size (D : Dn K mg "texts_of_size" s_texts_of_size P_texts_of_size) (g : Gx mg) : C8.Cal P w K mg base 1 "texts_of_size" spSize [] := by
  refine D.cal sc_texts_of_size (fun vs H Q E h => ?_) (fun f cdv A outer s H vs Q E hr h => ?_)
  · obtain ⟨many, n, rfl, hm, hn, q⟩ := h
    rfl
  obtain ⟨many, n, rfl, hm, hn, q⟩ := h
  have nd := sc_texts_of_size.nd
  refine ⟨_, (pss_cons (ps_set (i := 2) nd rfl (.inl rfl) pe_int)
    (pss_cons (ps_for PassesOwn.never rfl (pi_range1 (by rfl) g.range (pa_cons (pv 1) pa_nil)) (pg_name (i := 3) nd rfl (.inl rfl)) (pss_one (ps_set (i := 2) nd rfl (.inl rfl) (pe_op op_mul (pv 2) (pv 0)))))
    (pss_one (ps_ret (pv 2))))), ?_⟩
  refine ⟨_, rfl, _, rfl, by omega, by omega, ?_⟩
  refine for_range (lo := 0) (fun i σ H2 => ∃ (o : Option V), σ = [some (.int (many : Int)), some (.int (n : Int)), some (.int ((many ^ i : Nat) : Int)), o] ∧ H2 = H)
    ⟨none, rfl, rfl⟩ ?_ ?_
  · rintro i σ H2 hi ⟨o, rfl, rfl⟩
    have h9 := pow_le9 hm (n := i) (by omega)
    refine ⟨_, rfl, _, rfl, _, _, rfl, rfl, .inl (mulZ (b := 0) (by omega)), some (.int (0 + (i : Int))), ?_, rfl⟩
    rw [← mulNN (Nat.pow_succ (n := many) (m := i)).symm]
    rfl
  · rintro σ H2 ⟨o, rfl, rfl⟩
    have e : ((n : Int)).toNat = n := by omega
    rw [e]
    exact ⟨_, rfl, q H2 (Same.refl _)⟩
theorem ok_texts_up_to (D : Dn K mg "texts_up_to" s_texts_up_to P_texts_up_to) (g : Gx mg) (c_texts_of_size : C8.Cal P w K mg base 1 "texts_of_size" spSize []) : C8.Cal P w K mg base 2 "texts_up_to" spUpto [] := by
  refine D.cal sc_texts_up_to (fun vs H Q E h => ?_) (fun f cdv A outer s H vs Q E hr h => ?_)
  · obtain ⟨many, n, rfl, hm, hn, q⟩ := h
    rfl
  obtain ⟨many, n, rfl, hm, hn, q⟩ := h
  have nd := sc_texts_up_to.nd
  refine ⟨_, (pss_one (ps_ret (pe_callB (cr_sum rfl) rfl g.sum b_sum (pa_cons (pe_lc (own := [("size", 2)]) rfl nd (pi_range1 (by rfl) g.range (pa_cons (pe_op op_add (pv 1) pe_int) pa_nil)) (blkOk_by (own := [("size", 2)]) (N := N_texts_up_to) (sc := defScope s_texts_up_to) (by decide +kernel)) (fun _ _ _ _ _ => (pg_name (i := 2) nd rfl (.inl rfl))) (fun _ _ _ _ _ => pts_nil) (fun _ _ _ _ _ => (C8.pe_c c_texts_of_size (by exact hr) (by decide) rfl (pa_cons (pv 0) (pa_cons (pv 2) pa_nil))))) pa_nil)))), ?_⟩
  refine ⟨_, rfl, _, _, rfl, rfl, ?_⟩
  refine ⟨(n : Int) + 1, rfl, by omega, by omega, fun D hD => ?_⟩
  have e : ((n : Int) + 1).toNat = n + 1 := by omega
  rw [e]
  refine lc_range (lo := 0) (fun i H2 => Same H H2 ∧ H2 D = some (.lst (((List.range i).map fun i => ((many ^ i : Nat) : Int)).map V.int))) ⟨Same.new hD _, upd_same⟩ ?_ ?_
  · rintro i H2 hi ⟨s2, h2⟩
    refine ⟨rfl, ?_⟩
    refine ⟨_, rfl, _, rfl, many, i, by rw [Int.zero_add]; rfl, hm, by omega, fun H3 s3 => ⟨_, s3 _ _ h2, ?_, fun b o e => ?_, ?_⟩⟩
    · rw [List.length_map, List.length_map, List.length_range]
      exact szl (by omega)
    · rw [upd_ne (ne_of_none e hD)]
      exact s3 _ _ (s2 b o e)
    · rw [upd_same, List.range_succ, List.map_append, List.map_append]
      rfl
  · rintro H2 ⟨s2, h2⟩
    refine ⟨D, _, rfl, SqL.of h2, ?_⟩
    have e : ((List.range (n + 1)).map fun i => ((many ^ i : Nat) : Int)).sum = ((tupto many n : Nat) : Int) := by
      rw [← tupto_sum]
      generalize List.range (n + 1) = l
      induction l with
      | nil => rfl
      | cons x r ih => rw [List.map_cons, List.sum_cons, ih, List.map_cons, List.sum_cons, Int.natCast_add]
    rw [e]
    exact q H2 s2
theorem ok_how_many_left (D : Dn K mg "how_many_left" s_how_many_left P_how_many_left) (g : Gx mg) (c_texts_up_to : C8.Cal P w K mg base 2 "texts_up_to" spUpto []) (c_texts_of_size : C8.Cal P w K mg base 1 "texts_of_size" spSize []) : C8.Cal P w K mg base 3 "how_many_left" spLeft [] := by
  refine D.cal sc_how_many_left (fun vs H Q E h => ?_) (fun f cdv A outer s H vs Q E hr h => ?_)
  · obtain ⟨v, p, gq, k, u, rfl, ⟨a, b, rfl, ha, hb⟩, ok, hgk, q⟩ := h
    rfl
  obtain ⟨v, p, gq, k, u, rfl, ⟨a, b, rfl, ha, hb⟩, ok, hgk, q⟩ := h
  have nd := sc_how_many_left.nd
  refine ⟨_, (pss_cons (ps_par (i := 4) (j := 5) (by rfl) nd rfl rfl (by decide) rfl rfl (pa_cons (pe_ix ix_tup (pv 0) pe_int (fun _ _ => rfl)) (pa_cons (pe_ix ix_tup (pv 0) pe_int (fun _ _ => rfl)) pa_nil)) (by rfl))
    (pss_cons (ps_if (pt_cmpR op_eq (pv 2) pe_int (nomark _)) (pss_one (ps_ret (C8.pe_c c_texts_up_to hr (by decide) rfl (pa_cons (pv 5) (pa_cons (pv 4) pa_nil))))) pss_nil)
    (pss_cons (ps_if (pt_cmpR op_eq (pv 3) pe_int (nomark _)) (pss_one (ps_ret (C8.pe_c c_texts_up_to hr (by decide) rfl (pa_cons (pv 5) (pa_cons (pv 1) pa_nil))))) pss_nil)
    (pss_cons (ps_if (pt_cmpR op_lt (pv 3) (pv 2) (nomark _)) (pss_one (ps_ret (C8.pe_c c_texts_of_size hr (by decide) rfl (pa_cons (pv 5) (pa_cons (pv 1) pa_nil))))) pss_nil)
    (pss_one (ps_ret (pe_op op_mul (C8.pe_c c_texts_of_size hr (by decide) rfl (pa_cons (pv 5) (pa_cons (pv 1) pa_nil))) (C8.pe_c c_texts_up_to hr (by decide) rfl (pa_cons (pv 5) (pa_cons (pe_op op_sub (pe_op op_sub (pv 4) (pv 2)) (pv 1)) pa_nil)))))))))), ?_⟩
  have hr9 := ok.r9
  have m4 := ok.m4
  refine ⟨_, rfl, a, _, 0, _, rfl, rfl, SqT.of ha, rfl, _, rfl, a, _, 1, _, rfl, rfl, SqT.of ha, rfl, _, _, rfl, ?_⟩
  refine ⟨_, rfl, rfl, _, rfl, ite2 (fun c => ?_) (fun c => ?_)⟩
  · have k0 : k = 0 := by
      have c1 := of_decide_eq_true c
      injection c1 with c2
      omega
    refine ⟨_, rfl, _, rfl, p.many, p.room, rfl, m4, hr9, fun H1 s1 => ?_⟩
    have e : bleft p.room p.many gq k u = tupto p.many p.room := by
      unfold bleft
      rw [if_pos k0]
    rw [e] at q
    exact q H1 s1
  have k0 : ¬ k = 0 := fun z => by
    subst z
    exact c (decide_eq_true rfl)
  refine ⟨_, rfl, rfl, _, rfl, ite2 (fun c => ?_) (fun c => ?_)⟩
  · have u0 : u = 0 := by
      have c1 := of_decide_eq_true c
      injection c1 with c2
      omega
    refine ⟨_, rfl, _, rfl, p.many, gq, rfl, m4, by omega, fun H1 s1 => ?_⟩
    have e : bleft p.room p.many gq k u = tupto p.many gq := by
      unfold bleft
      rw [if_neg k0, if_pos u0]
    rw [e] at q
    exact q H1 s1
  have u0 : ¬ u = 0 := fun z => by
    subst z
    exact c (decide_eq_true rfl)
  refine ⟨_, rfl, _, rfl, _, _, rfl, rfl, _, rfl, ite2 (fun c => ?_) (fun c => ?_)⟩
  · have uk : u < k := by
      have c1 := of_decide_eq_true c
      omega
    refine ⟨_, rfl, _, rfl, p.many, gq, rfl, m4, by omega, fun H1 s1 => ?_⟩
    have e : bleft p.room p.many gq k u = p.many ^ gq := by
      unfold bleft
      rw [if_neg k0, if_neg u0, if_pos uk]
    rw [e] at q
    exact q H1 s1
  have uk : ¬ u < k := fun z => c (decide_eq_true (by omega))
  refine ⟨_, rfl, _, rfl, p.many, gq, rfl, m4, by omega, fun H1 s1 => ?_⟩
  have e1 : (p.room : Int) - (k : Int) - (gq : Int) = ((p.room - k - gq : Nat) : Int) := by omega
  refine ⟨_, rfl, _, rfl, _, rfl, _, _, rfl, rfl, _, rfl, _, _, rfl, rfl, p.many, p.room - k - gq, (by show [V.int (p.many : Int), V.int ((p.room : Int) - (k : Int) - (gq : Int))] = _; rw [e1]), m4, by omega, fun H2 s2 => ?_⟩
  have h9 := pow_le9 m4 (n := gq) (by omega)
  refine ⟨_, _, rfl, rfl, .inl (mulZ (b := 0) (by omega)), ?_⟩
  show Q (.int (((p.many ^ gq : Nat) : Int) * ((tupto p.many (p.room - k - gq) : Nat) : Int))) H2
  rw [mulNN rfl]
  have e : bleft p.room p.many gq k u = p.many ^ gq * tupto p.many (p.room - k - gq) := by
    unfold bleft
    rw [if_neg k0, if_neg u0, if_neg uk]
  rw [e] at q
  exact q H2 (s1.trans s2)
theorem ok_befores (D : Dn K mg "befores" s_befores P_befores) (g : Gx mg) (c_check_plan : C8.Cal P w K mg base 3 "check_plan" spChPlan []) (c_check_triple : C8.Cal P w K mg base 3 "check_triple" spChTriple []) (c_check_stack : C8.Cal P w K mg base 3 "check_stack" spChStack []) (c_how_many_left : C8.Cal P w K mg base 3 "how_many_left" spLeft []) : C8.Cal P w K mg base 4 "befores" spBefores [] := by
  refine D.cal sc_befores (fun vs H Q E h => ?_) (fun f cdv A outer s H vs Q E hr h => ?_)
  · obtain ⟨v, p, u, t, l, rfl, hp, ok, ht, tok, hl, hs, q⟩ := h
    rfl
  obtain ⟨v, p, u, t, l, rfl, hp, ok, ht, tok, hl, hs, q⟩ := h
  have nd := sc_befores.nd
  refine ⟨_, (pss_cons (ps_expr (C8.pe_c c_check_plan hr (by decide) rfl (pa_cons (pv 0) pa_nil)))
    (pss_cons (ps_expr (C8.pe_c c_check_triple hr (by decide) rfl (pa_cons (pv 0) (pa_cons (pv 1) pa_nil))))
    (pss_cons (ps_expr (C8.pe_c c_check_stack hr (by decide) rfl (pa_cons (pv 0) (pa_cons (pv 2) pa_nil))))
    (pss_cons (ps_asg (pv 1) (pg_tup (by rfl) (pgs_cons (pg_name (i := 3) nd rfl (.inl rfl)) (pgs_cons (pg_name (i := 4) nd rfl (.inl rfl)) (pgs_cons (pg_name (i := 5) nd rfl (.inl rfl)) pgs_nil)))))
    (pss_cons (ps_if (pt_not (pt_val (pe_bm PySem.F.plainAttrs_str PySem.F.slot_str_endswith PySem.F.type_str_endswith mt_endswith (pv 2) (pa_cons (pv 5) pa_nil)))) (pss_one (ps_ret (pe_tup (pa_cons pe_int (pa_cons pe_non pa_nil))))) pss_nil)
    (pss_cons (ps_set (i := 6) nd rfl (.inl rfl) (pe_slice sl_str (pv 2) po_none (po_some (pe_op op_sub (pe_callB call_len_str rfl g.len PySem.boot_len (pa_cons (pv 2) pa_nil)) (pe_callB call_len_str rfl g.len PySem.boot_len (pa_cons (pv 5) pa_nil))))))
    (pss_cons (ps_if (pt_cmpR op_gt (pe_callB call_len_str rfl g.len PySem.boot_len (pa_cons (pv 6) pa_nil)) (pv 4) (nomark _)) (pss_one (ps_ret (pe_tup (pa_cons pe_int (pa_cons pe_non pa_nil))))) pss_nil)
    (pss_cons (ps_set (i := 7) nd rfl (.inl rfl) (pe_ifExp (pt_truth (pv 6) (by intro _; rfl)) (pe_op op_add_str (pv 6) (pe_op op_mulS (pe_ix ix_str (C8.pe_gc rfl g.SIGNS) pe_int (fun _ _ => rfl)) (pv 3))) pe_str))
    (pss_one (ps_ret (pe_tup (pa_cons (C8.pe_c c_how_many_left hr (by decide) rfl (pa_cons (pv 0) (pa_cons (pv 3) (pa_cons (pv 4) (pa_cons (pe_callB call_len_str rfl g.len PySem.boot_len (pa_cons (pv 6) pa_nil)) pa_nil))))) (pa_cons (pv 7) pa_nil))))))))))))), ?_⟩
  have hr9 := ok.r9
  have m4 := ok.m4
  have m1 := ok.m1
  have gk := tok.gk
  have kl := tok.kl
  refine ⟨_, rfl, v, p, rfl, hp, ok, fun H1 s1 => ?_⟩
  refine ⟨_, rfl, _, rfl, v, p, u, t, rfl, hp.mono s1, ok, ht.mono s1, tok, fun H2 s2 => ?_⟩
  have s12 := s1.trans s2
  refine ⟨_, rfl, _, rfl, v, p, l, rfl, hp.mono s12, ok, hl, hs, fun H3 s3 => ?_⟩
  have s13 := s12.trans s3
  obtain ⟨ta, rfl, hta⟩ := ht.mono s13
  have hp3 := hp.mono s13
  refine ⟨_, rfl, ta, _, rfl, SqT.of hta, rfl, _, _, rfl, _, _, rfl, _, _, rfl, rfl, ?_⟩
  have none_ : bef p.room p.many t l = [] → ∀ H' w, Same H3 H' → H' w = some (.tup [.int 0, .non]) → Q (.ref w) H' := fun e H' w s' hw => by
    refine q H' (.ref w) (s13.trans s') ⟨w, rfl, ?_⟩
    rw [e]
    exact hw
  refine ⟨_, rfl, rfl, _, rfl, tx l, tx t.l, rfl, rfl, _, rfl, ?_⟩
  rw [ends_app]
  by_cases hsuf : t.l <:+ l
  · rw [decide_eq_true hsuf]
    refine iteF ?_
    obtain ⟨w, rfl⟩ := hsuf
    have hwl : w.length + t.l.length = (w ++ t.l).length := (List.length_append ..).symm
    have e1 : (((tx (w ++ t.l)).length : Nat) : Int) - (((tx t.l).length : Nat) : Int) = ((w.length : Nat) : Int) := by
      rw [tx_len, tx_len]
      omega
    refine ⟨_, rfl, _, rfl, _, rfl, by rw [tx_len]; exact sz (by omega), _, rfl, _, rfl, by rw [tx_len]; exact sz (by omega), _, _, rfl, rfl, _, rfl, _, rfl, by rw [tx_len]; exact sz (by omega), ?_⟩
    rw [e1, cut_to (by omega), List.take_left]
    refine ⟨_, rfl, _, rfl, by rw [tx_len]; exact sz (by omega), _, rfl, _, _, rfl, rfl, _, rfl, ite2 (fun c => ?_) (fun c => ?_)⟩
    · have hk : t.k < w.length := by
        have := of_decide_eq_true c
        rw [tx_len] at this
        omega
      refine ⟨by show 2 ≤ sizeLine; decide, fun E hE => ?_⟩
      refine none_ (bef_no fun ⟨u2, h1, h2⟩ => ?_) _ E (Same.new hE _) upd_same
      have h3 := List.append_cancel_right h2
      subst h3
      omega
    · have hk : w.length ≤ t.k := by
        rcases Nat.lt_or_ge t.k w.length with h | h
        · exact absurd (decide_eq_true (by rw [tx_len]; omega)) c
        · exact h
      have hws : ∀ c ∈ w, c ∈ signs p.many := fun c hc => hs c (List.mem_append_left _ hc)
      obtain ⟨b1, b2⟩ := bef_is tok m1 m4 hk hws
      have last : ∀ σ2, σ2 = [some v, some (.ref ta), some (.str (tx (w ++ t.l))), some (.int (t.g : Int)), some (.int (t.k : Int)), some (.str (tx t.l)), some (.str (tx w)), some (.str (tx (bfirst t.g w)))] →
          tRet (tTup (tCons (tCall spLeft [] C8.E0 (tCons (tVar 0) (tCons (tVar 3) (tCons (tVar 4) (tCons (tCB (fun xs H Q => ∃ a, xs = [.str a] ∧ a.length ≤ sizeLine ∧ Q (.int (a.length : Int)) H) (tCons (tVar 6) tNil)) tNil))))) (tCons (tVar 7) tNil))) { nx := fun _ H' => Q .non H', rt := Q } σ2 H3 := fun σ2 e => by
        subst e
        refine ⟨_, rfl, _, rfl, _, rfl, _, rfl, _, rfl, by rw [tx_len]; exact sz (by omega), v, p, t.g, t.k, w.length, (by rw [tx_len]; rfl), hp3, ok, gk, fun H4 s4 => ?_⟩
        refine ⟨_, rfl, by show 2 ≤ sizeLine; decide, fun E hE => ?_⟩
        refine q _ _ (s13.trans (s4.trans (Same.new hE _))) ⟨E, rfl, ?_⟩
        rw [upd_same, b1, b2]
        rfl
      refine ⟨_, rfl, _, ⟨by rw [tx_len]; exact sz (by omega), rfl⟩, ?_⟩
      by_cases hw : w = []
      · subst hw
        refine iteF ?_
        refine last _ ?_
        rw [← s_empty]
        rfl
      · have e2 : ((((tx w).length : Nat) : Int) != 0) = true := by
          rw [tx_len]
          have : w.length ≠ 0 := fun z => hw (List.length_eq_zero_iff.mp z)
          exact bne_iff_ne.mpr (by omega)
        rw [e2]
        refine iteT ?_
        have erep : ∀ n : Nat, (List.replicate n [97]).flatten = List.replicate n 97 := fun n => by
          induction n with
          | zero => rfl
          | succ n ih => rw [List.replicate_succ, List.flatten_cons, ih, List.replicate_succ]; rfl
        refine ⟨_, rfl, tx [97, 98, 99, 100], 0, 97, rfl, rfl, by rw [tx_len]; exact sz (by decide), rfl, _, rfl, [97], t.g, rfl, rfl, by show 1 * t.g ≤ _; omega, by omega, ?_⟩
        rw [erep]
        refine ⟨_, _, rfl, rfl, by rw [tx_len, tx_len, List.length_replicate]; exact sz (by omega), ?_⟩
        rw [tx_app]
        refine last _ ?_
        unfold bfirst
        rw [if_neg hw]
        rfl
  · rw [decide_eq_false hsuf]
    refine iteT ?_
    refine ⟨by show 2 ≤ sizeLine; decide, fun E hE => ?_⟩
    exact none_ (bef_no fun ⟨u2, h1, h2⟩ => hsuf ⟨u2, h2.symm⟩) _ E (Same.new hE _) upd_same
def StOk (pl : Pl) (l : List Nat) : Prop := l.length ≤ pl.room ∧ ∀ c ∈ l, c ∈ signs pl.many
def dueZ : List (List Nat) → V
  | [] => .non
  | l :: _ => fz l
theorem ifHeadZ {K : PySem.W.Frag} {σ : L2.St} {i : Nat} {H : Hp} {Q : VK} {E : Addr} {ls : List (List Nat)} (hσ : σ[i]? = some (some (.ref E))) (hE : H E = some (.lst (ls.map fz))) (hc : ∀ l ∈ ls, ∀ c ∈ l, c < 1114112)
    (q : ∀ H', Same H H' → Q (dueZ ls) H') : tIf (tTest (tOp (rNeD K) (tVar i) (tLst tNil))) (tOp (rIxL K) (tVar i) (tC (.int 0))) (tC .non) σ H Q := by
  refine ⟨_, hσ, by show 0 ≤ sizeLine; decide, fun E2 hE2 => ?_⟩
  have s2 := Same.new hE2 (.lst [])
  refine ne_nil (s2 _ _ hE) upd_same hc ⟨_, rfl, ?_⟩
  cases ls with
  | nil => exact q _ s2
  | cons l r => exact ⟨_, hσ, E, _, 0, fz l, rfl, rfl, SqL.of (s2 _ _ hE), at0, q _ s2⟩
theorem dueZ_hd (ls : List (List Nat)) : dueZ ls = hdV ls.head? := by cases ls <;> rfl
/-- [plan(box, ..), plan(box, ..)][take(box, 2)] -/
theorem pickPlan {K : PySem.W.Frag} {i : Nat} {σ : L2.St} {H : Hp} {Q : VK} {p q : Addr} {ns : List Int} {z : Int} {i1 j1 i2 j2 : Int} {r1 s1 r2 s2 : Nat} (e1 : i1 = (r1 : Int)) (e2 : j1 = (s1 : Int)) (e3 : i2 = (r2 : Int)) (e4 : j2 = (s2 : Int))
    (h1 : 1 ≤ r1 ∧ r1 ≤ 9 ∧ 1 ≤ s1 ∧ s1 ≤ 4) (h2 : 1 ≤ r2 ∧ r2 ≤ 9 ∧ 1 ≤ s2 ∧ s2 ≤ 4) (hσ : σ[i]? = some (some (.ref p))) (B : BoxAt H p q ns z)
    (h : ∀ (pl : Pl) (v : V) (ns' : List Int) (z' : Int) (H' : Hp), pl.Ok → (pl.room ≤ r1 ∧ pl.many ≤ s1 ∨ pl.room ≤ r2 ∧ pl.many ≤ s2) → PlanAt H' v pl → BoxAt H' p q ns' z' → Keep p q H H' → Q v H') :
    tOp (rIxL K) (tLst (tCons (tCall spLPlan [] C8.E0 (tCons (tVar i) (tCons (tC (.int i1)) (tCons (tC (.int j1)) tNil)))) (tCons (tCall spLPlan [] C8.E0 (tCons (tVar i) (tCons (tC (.int i2)) (tCons (tC (.int j2)) tNil)))) tNil))) (tCall spTake [] C8.E0 (tCons (tVar i) (tCons (tC (.int 2)) tNil))) σ H Q := by
  subst e1 e2 e3 e4
  refine ⟨_, hσ, p, q, ns, z, r1, s1, rfl, B, h1.1, h1.2.1, h1.2.2.1, h1.2.2.2, fun pa va n1 z1 H1 oka ra ma hpa B1 k1 => ?_⟩
  refine ⟨_, hσ, p, q, n1, z1, r2, s2, rfl, B1, h2.1, h2.2.1, h2.2.2.1, h2.2.2.2, fun pb vb n2 z2 H2 okb rb mb hpb B2 k2 => ?_⟩
  refine ⟨by show 2 ≤ sizeLine; decide, fun D hD => ?_⟩
  have sD := Same.new hD (.lst [va, vb])
  refine ⟨_, hσ, p, q, n2, z2, 2, rfl, B2.mono sD, by decide, p9 (by decide), fun r n3 z3 H3 r0 r1' B3 k3 => ?_⟩
  have hf := B2.fresh hD
  have hL : H3 D = some (.lst [va, vb]) := k3 _ _ upd_same hf.1 hf.2
  have kk := k1.trans (k2.trans ((Keep.of sD).trans k3))
  have hr : r = 0 ∨ r = 1 := by omega
  rcases hr with rfl | rfl
  · exact ⟨D, _, 0, va, rfl, rfl, SqL.of hL, rfl, h pa va n3 z3 H3 oka (.inl ⟨ra, ma⟩) (((hpa.keep B1 k2).mono sD).keep (B2.mono sD) k3) B3 kk⟩
  · exact ⟨D, _, 1, vb, rfl, rfl, SqL.of hL, rfl, h pb vb n3 z3 H3 okb (.inr ⟨rb, mb⟩) ((hpb.mono sD).keep (B2.mono sD) k3) B3 kk⟩
theorem stok_nil (pl : Pl) : StOk pl [] := ⟨Nat.zero_le _, fun c hc => by simp at hc⟩
theorem filter_take (P : List Nat → Bool) (l : List (List Nat)) {i : Nat} {x : List Nat} (h : l[i]? = some x) : (l.take (i + 1)).filter P = (l.take i).filter P ++ if P x = true then [x] else [] := by
  rw [List.take_add_one, h, List.filter_append]
  by_cases e : P x = true
  · rw [if_pos e]
    simp [e]
  · rw [if_neg e]
    simp [e]
theorem ok_law {f : Addr} {fd : FuncData} (F : L2.Fun K "law" "law" s_law f fd) (g : Gx mg) (c_law_begun : C8.Cal P w K mg base 1 "_law_begun" (spLBegun K) []) (c_law_plan : C8.Cal P w K mg base 2 "_law_plan" spLPlan []) (c_law_take : C8.Cal P w K mg base 1 "_law_take" spTake []) (c_law_stacks : C8.Cal P w K mg base 1 "_law_stacks" spLStacks []) (c_law_triple : C8.Cal P w K mg base 3 "_law_triple" spLTriple []) (c_law_by : C8.Cal P w K mg base 1 "_law_by" spLBy []) (c_law_signs : C8.Cal P w K mg base 2 "_law_signs" spLSigns []) (c_befores : C8.Cal P w K mg base 4 "befores" spBefores []) (c_law_alike : C8.Cal P w K mg base 2 "_law_alike" (spAlike 2) []) : FnOk P w K mg base CX0 5 f fd P_law (spLaw K) := by
  refine F.ok sc_law (fun vs H Q E h => ?_) (fun cdv A outer s H vs Q E hr h => ?_)
  · obtain ⟨a, ns, rfl, hS, h63, kk⟩ := h
    rfl
  obtain ⟨a, ns, rfl, hS, h63, kk⟩ := h
  have nd := sc_law.nd
  refine ⟨_, (pss_cons (ps_set (i := 1) nd rfl (.inr rfl) (C8.pe_c c_law_begun hr (by decide) rfl (pa_cons (pv 0) pa_nil)))
    (pss_cons (ps_for PassesOwn.never rfl (pi_range1 (by rfl) g.range (pa_cons pe_int pa_nil)) (pg_name (i := 2) nd rfl (.inl rfl)) (pss_cons (ps_set (i := 3) nd rfl (.inr rfl) (pe_ix ix_list (pe_lst (pa_cons (C8.pe_c c_law_plan hr (by decide) rfl (pa_cons (pv 1) (pa_cons pe_int (pa_cons pe_int pa_nil)))) (pa_cons (C8.pe_c c_law_plan hr (by decide) rfl (pa_cons (pv 1) (pa_cons pe_int (pa_cons pe_int pa_nil)))) pa_nil))) (C8.pe_c c_law_take hr (by decide) rfl (pa_cons (pv 1) (pa_cons pe_int pa_nil))) (fun _ _ => rfl)))
    (pss_cons (ps_asg (pe_tup (pa_cons (C8.pe_c c_law_stacks hr (by decide) rfl (pa_cons (pv 3) pa_nil)) (pa_cons (C8.pe_c c_law_triple hr (by decide) rfl (pa_cons (pv 1) (pa_cons (pv 3) pa_nil))) pa_nil))) (pg_tup (by rfl) (pgs_cons (pg_name (i := 4) nd rfl (.inr rfl)) (pgs_cons (pg_name (i := 5) nd rfl (.inr rfl)) pgs_nil))))
    (pss_cons (ps_set (i := 6) nd rfl (.inr rfl) (pe_lc (own := [("_law_one", 16)]) rfl nd (pi_list (pv 4)) (blkOk_by (own := [("_law_one", 16)]) (N := N_law) (sc := defScope s_law) (by decide +kernel)) (fun _ _ _ _ _ => (pg_name (i := 16) nd rfl (.inl rfl))) (fun _ _ _ _ _ => pts_nil) (fun _ _ _ _ _ => (C8.pe_c c_law_by (by exact hr) (by decide) rfl (pa_cons (pv 5) (pa_cons (pv 16) pa_nil))))))
    (pss_cons (ps_setLc (i := 8) (own := [("_law_again", 7)]) rfl nd rfl rfl (sw_true rfl rfl rfl (by decide +kernel)) (pi_range1 (by rfl) g.range (pa_cons pe_int pa_nil)) (blkOk_by (own := [("_law_again", 7)]) (N := N_law) (sc := defScope s_law) (by decide +kernel)) (fun _ _ _ _ _ => (pg_name (i := 7) nd rfl (.inl rfl))) (fun _ _ _ _ _ => pts_nil) (fun _ _ _ _ _ => (pe_ix (r := rIxL K) ix_list (pv 6) (C8.pe_c c_law_take (by exact hr) (by decide) rfl (pa_cons (pv 1) (pa_cons (pe_callB (r := rLenS K) call_lenS rfl g.len PySem.boot_len (pa_cons (pv 6) pa_nil)) pa_nil))) (fun _ _ => rfl))))
    (pss_cons (ps_set (i := 8) nd rfl (.inl rfl) (pe_op op_cat (pv 8) (pe_lc (own := [("_law_again", 7)]) rfl nd (pi_range1 (by rfl) g.range (pa_cons pe_int pa_nil)) (blkOk_by (own := [("_law_again", 7)]) (N := N_law) (sc := defScope s_law) (by decide +kernel)) (fun _ _ _ _ _ => (pg_name (i := 7) nd rfl (.inl rfl))) (fun _ _ _ _ _ => pts_nil) (fun _ _ _ _ _ => (C8.pe_c c_law_signs (by exact hr) (by decide) rfl (pa_cons (pv 1) (pa_cons (pv 3) (pa_cons (pe_ix (r := rIxT K) ix_tup (pv 3) pe_int (fun _ _ => rfl)) pa_nil))))))))
    (pss_cons (ps_for PassesOwn.never rfl (pi_list (pe_op op_cat (pv 8) (pe_lst (pa_cons (pe_ix ix_tup (pv 5) pe_int (fun _ _ => rfl)) (pa_cons pe_str pa_nil))))) (pg_name (i := 9) nd rfl (.inr rfl)) (pss_cons (ps_setLc (i := 10) (own := [("_law_k", 17)]) rfl nd rfl rfl (sw_true rfl rfl rfl (by decide +kernel)) (pi_range1 (by rfl) g.range (pa_cons (pe_callB call_len_seq rfl g.len PySem.boot_len (pa_cons (pv 4) pa_nil)) pa_nil)) (blkOk_by (own := [("_law_k", 17)]) (N := N_law) (sc := defScope s_law) (by decide +kernel)) (fun _ _ _ _ _ => (pg_name (i := 17) nd rfl (.inl rfl))) (fun _ _ _ _ _ => (pts_one (pt_cmpR op_eq (pe_ix (r := rIxL K) ix_list (pv 6) (pv 17) (fun _ _ => rfl)) (pv 9) (nomark _)))) (fun _ _ _ _ _ => (pe_ix (r := rIxL K) ix_list (pv 4) (pv 17) (fun _ _ => rfl))))
    (pss_cons (ps_set (i := 11) nd rfl (.inl rfl) (pe_tup (pa_cons (pe_callB call_len_seq rfl g.len PySem.boot_len (pa_cons (pv 10) pa_nil)) (pa_cons (pe_ifExp (pt_cmpR (op_neD hr.units) (pv 10) (pe_lst pa_nil) (nomark _)) (pe_ix ix_list (pv 10) pe_int (fun _ _ => rfl)) pe_non) pa_nil))))
    (pss_one (ps_for PassesOwn.never rfl (pi_range1 (by rfl) g.range (pa_cons pe_int pa_nil)) (pg_name (i := 7) nd rfl (.inl rfl)) (pss_one (ps_if (pt_not (pt_val (C8.pe_c c_law_alike hr (by decide) rfl (pa_cons (C8.pe_c c_befores hr (by decide) rfl (pa_cons (pv 3) (pa_cons (pv 5) (pa_cons (pv 9) pa_nil)))) (pa_cons (pv 11) pa_nil))))) (pss_one (ps_ret pe_bl)) pss_nil)))))))
    (pss_cons (ps_set (i := 12) nd rfl (.inl rfl) (C8.pe_c c_law_plan hr (by decide) rfl (pa_cons (pv 1) (pa_cons pe_int (pa_cons pe_int pa_nil)))))
    (pss_cons (ps_asg (pe_tup (pa_cons (C8.pe_c c_law_triple hr (by decide) rfl (pa_cons (pv 1) (pa_cons (pv 12) pa_nil))) (pa_cons (C8.pe_c c_law_signs hr (by decide) rfl (pa_cons (pv 1) (pa_cons (pv 12) (pa_cons (pe_ix ix_tup (pv 12) pe_int (fun _ _ => rfl)) pa_nil)))) pa_nil))) (pg_tup (by rfl) (pgs_cons (pg_name (i := 5) nd rfl (.inr rfl)) (pgs_cons (pg_name (i := 9) nd rfl (.inr rfl)) pgs_nil))))
    (pss_cons (ps_set (i := 13) nd rfl (.inl rfl) (C8.pe_c c_law_by hr (by decide) rfl (pa_cons (pv 5) (pa_cons (pv 9) pa_nil))))
    (pss_cons (ps_asg (C8.pe_c c_befores hr (by decide) rfl (pa_cons (pv 12) (pa_cons (pv 5) (pa_cons (pv 13) pa_nil)))) (pg_tup (by rfl) (pgs_cons (pg_name (i := 14) nd rfl (.inl rfl)) (pgs_cons (pg_name (i := 15) nd rfl (.inl rfl)) pgs_nil))))
    (pss_one (ps_if (PW.pt (pw_or (pt_cmpR op_lt (pv 14) pe_int (nomark _)) (pw_or (pt_cmpR op_isN (pv 15) pe_non (nomark _)) (pw_or (pt_cmpR op_ne (C8.pe_c c_law_by hr (by decide) rfl (pa_cons (pv 5) (pa_cons (pv 15) pa_nil))) (pv 13) (nomark _)) (pw_or1 (pt_cmpR (op_gtIS (Nat.lt_of_le_of_lt (Nat.le_add_right _ _) hr.units)) (pe_tup (pa_cons (pe_callB call_len_str rfl g.len PySem.boot_len (pa_cons (pv 15) pa_nil)) (pa_cons (pv 15) pa_nil))) (pe_tup (pa_cons (pe_callB call_len_str rfl g.len PySem.boot_len (pa_cons (pv 9) pa_nil)) (pa_cons (pv 9) pa_nil))) (nomark _))))))) (pss_one (ps_ret pe_bl)) pss_nil)))))))))))))
    (pss_one (ps_ret pe_bl)))), ?_⟩
  refine ⟨_, rfl, a, ns, rfl, hS, h63, fun p q z H1 s1 B1 np nq => ?_⟩
  refine ⟨3, rfl, by decide, by decide, for_range (lo := 0) (n := 3) (fun i σ H2 => ∃ (o2 o3 o4 o5 o6 o7 o8 o9 o10 o11 o12 o13 o14 o15 : Option V) (ns2 : List Int) (z2 : Int), σ = [some (.ref a), some (.ref p), o2, o3, o4, o5, o6, o7, o8, o9, o10, o11, o12, o13, o14, o15, none, none] ∧ BoxAt H2 p q ns2 z2)
    ⟨_, _, _, _, _, _, _, _, _, _, _, _, _, _, ns, z, rfl, B1⟩ ?_ (fun σ H2 _ => kk H2)⟩
  rintro i σ H2 hi ⟨o2, o3, o4, o5, o6, o7, o8, o9, o10, o11, o12, o13, o14, o15, ns2, z2, rfl, B2⟩
  -- the plan
  refine pickPlan (r1 := 4) (s1 := 3) (r2 := 8) (s2 := 2) rfl rfl rfl rfl (by decide) (by decide) rfl B2 fun pl v ns4 z4 H4 ok hRM hp B4 k4 => ?_
  have r1 := ok.r1
  have r9 := ok.r9
  have m4 := ok.m4
  -- all stacks
  refine ⟨_, rfl, v, pl, rfl, hp, ok, fun D H5 s5 nD hD => ?_⟩
  have hf := B4.fresh nD
  have B5 := B4.mono s5
  have hp5 := hp.mono s5
  have hsl := stk_le pl.many (n := pl.room) r9
  have hsl2 : (stk pl.many pl.room).length ≤ 3000000 := by
    have : (pl.room + 1) * 262144 ≤ 10 * 262144 := Nat.mul_le_mul_right _ (by omega)
    omega
  -- the triple
  refine ⟨_, rfl, _, rfl, p, q, ns4, z4, v, pl, rfl, B5, hp5, ok, fun t u ns6 z6 H6 tok ht6 B6 k6 => ?_⟩
  have hp6 := hp5.keep B5 k6
  have hD6 := k6 _ _ hD hf.1 hf.2
  refine ⟨by show 2 ≤ sizeLine; decide, fun T0 hT0 => ?_⟩
  have sT0 := Same.new hT0 (.tup [.ref D, u])
  have B6 := B6.mono sT0
  have hp6 := hp6.mono sT0
  have ht6 := ht6.mono sT0
  have hD6 := sT0 _ _ hD6
  have hT06 : upd H6 T0 (.tup [.ref D, u]) T0 = some (.tup [.ref D, u]) := upd_same
  generalize upd H6 T0 (.tup [.ref D, u]) = H6 at B6 hp6 hD6 hT06 ht6
  refine ⟨T0, _, rfl, SqT.of hT06, rfl, _, _, rfl, _, _, rfl, rfl, ?_⟩
  have kl := tok.kl
  -- ends
  refine ⟨_, rfl, D, rfl, ⟨_, SqL.of hD6⟩, fun E hE => ?_⟩
  have sE := Same.new hE (.lst [])
  refine lc_list (K := K) (a := D) (xs := (stk pl.many pl.room).map fv) (fun i H7 => Same H6 H7 ∧ H7 E = some (.lst (((stk pl.many pl.room).take i).map fun x => fz (tby t x)))) ⟨sE, upd_same⟩ (fun i H7 _ h7 => SqL.of (h7.1 _ _ hD6)) ?_ ?_
  · rintro i x H7 hx ⟨s7, h7⟩
    rw [List.getElem?_map] at hx
    obtain ⟨y, hy, rfl⟩ := Option.map_eq_some_iff.mp hx
    have hym := stk_mem (List.mem_of_getElem? hy)
    refine ⟨rfl, ?_⟩
    refine ⟨_, rfl, _, rfl, u, t, y, rfl, ht6.mono s7, by omega, by omega, fun H8 s8 => ⟨_, s8 _ _ h7, ?_, fun b o e => ?_, ?_⟩⟩
    · rw [List.length_map, List.length_take]
      exact szl2 (by omega)
    · rw [upd_ne (ne_of_none e hE)]
      exact s8 _ _ (s7 b o e)
    · rw [upd_same, List.take_add_one, hy, List.map_append]
      rfl
  rintro H7 ⟨s7, hE7⟩
  rw [List.length_map, List.take_of_length_le (Nat.le_refl _)] at hE7
  have B7 := B6.mono s7
  have hp7 := hp6.mono s7
  have ht7 := ht6.mono s7
  have hD7 := s7 _ _ hD6
  have hfE := B6.fresh hE
  -- some of the ends
  have hpos : 0 < (stk pl.many pl.room).length := by
    have := stk_first pl.many pl.room
    cases e : stk pl.many pl.room with
    | nil =>
      rw [e] at this
      cases this
    | cons x r => exact Nat.succ_pos _
  refine ⟨4, rfl, by decide, by decide, fun S1 hS1 => ?_⟩
  have hfS1 := B7.fresh hS1
  have sS1 := Same.new hS1 (.lst [])
  refine lc_range (lo := 0) (fun i H8 => ∃ (ls : List (List Nat)) (ns8 : List Int) (z8 : Int), BoxAt H8 p q ns8 z8 ∧ Keep p q H7 H8 ∧ H8 S1 = some (.lst (ls.map fz)) ∧ ls.length = i ∧ ∀ l ∈ ls, StOk pl l) ⟨[], ns6, z6, B7.mono sS1, Keep.of sS1, upd_same, rfl, fun l hl => by simp at hl⟩ ?_ ?_
  · rintro i H8 hi ⟨ls, ns8, z8, B8, k8, hS8, hl8, hst⟩
    refine ⟨rfl, ?_⟩
    have hE8 := k8 _ _ hE7 hfE.1 hfE.2
    refine ⟨_, rfl, _, rfl, _, rfl, E, _, rfl, .inl (SqL.of hE8), p, q, ns8, z8, _, rfl, B8, by rw [List.length_map]; omega, p9 (by rw [List.length_map]; omega), fun r ns9 z9 H9 r0 r1' B9 k9 => ?_⟩
    rw [List.length_map] at r1'
    obtain ⟨R, rfl⟩ : ∃ R : Nat, r = (R : Int) := ⟨r.toNat, by omega⟩
    have hR : R < (stk pl.many pl.room).length := by omega
    obtain ⟨x, hx⟩ : ∃ x, (stk pl.many pl.room)[R]? = some x := ⟨_, List.getElem?_eq_getElem hR⟩
    have hxm := stk_mem (List.mem_of_getElem? hx)
    have hS9 := k9 _ _ hS8 hfS1.1 hfS1.2
    refine ⟨E, _, (R : Int), fz (tby t x), rfl, rfl, SqL.of (k9 _ _ hE8 hfE.1 hfE.2), atI_nat (by rw [List.getElem?_map, hx]; rfl), ls.map fz, hS9, by rw [List.length_map]; exact szl (by omega), ls ++ [tby t x], ns9, z9, ⟨by rw [upd_ne hfS1.1.symm]; exact B9.b, by rw [upd_ne hfS1.2.symm]; exact B9.l, B9.ne⟩, fun b o e e1 e2 => ?_, ?_, by simp [hl8], fun l hl => ?_⟩
    · rw [upd_ne (ne_of_none e hS1)]
      exact k9 _ _ (k8 _ _ e e1 e2) e1 e2
    · rw [upd_same, List.map_append]
      rfl
    · rcases List.mem_append.mp hl with h | h
      · exact hst l h
      · have : l = tby t x := by simpa using h
        subst this
        exact ⟨tby_len tok x, tby_in tok hxm.2⟩
  rintro H8 ⟨ls, ns8, z8, B8, k8, hS8, hl8, hst⟩
  have hp8 := hp7.keep B7 k8
  have ht8 := ht7.keep B7 k8
  have hD8 := k8 _ _ hD7 hf.1 hf.2
  have hE8 := k8 _ _ hE7 hfE.1 hfE.2
  clear hS1
  obtain ⟨pa, pb, rfl, hpa8, hpb8⟩ := id hp8
  -- and others
  refine ⟨_, rfl, 4, rfl, by decide, by decide, fun S2 hS2 => ?_⟩
  have hfS2 := B8.fresh hS2
  have sS2 := Same.new hS2 (.lst [])
  refine lc_range (lo := 0) (fun i H9 => ∃ (ms : List (List Nat)) (ns9 : List Int) (z9 : Int), BoxAt H9 p q ns9 z9 ∧ Keep p q H8 H9 ∧ H9 S2 = some (.lst (ms.map fz)) ∧ ms.length = i ∧ ∀ l ∈ ms, StOk pl l) ⟨[], ns8, z8, B8.mono sS2, Keep.of sS2, upd_same, rfl, fun l hl => by simp at hl⟩ ?_ ?_
  · rintro i H9 hi ⟨ms, ns9, z9, B9, k9, hS9, hl9, hst9⟩
    refine ⟨rfl, ?_⟩
    have hp9 := hp8.keep B8 k9
    refine ⟨_, rfl, _, rfl, _, rfl, pa, _, 0, _, rfl, rfl, SqT.of (k9.tup B8 hpa8), rfl, p, q, ns9, z9, .ref pa, pl, pl.room, rfl, B9, hp9, ok, by omega, fun l ns10 z10 H10 hl hs B10 k10 => ?_⟩
    have hS10 := k10 _ _ hS9 hfS2.1 hfS2.2
    refine ⟨ms.map fz, hS10, by rw [List.length_map]; exact szl (by omega), ms ++ [l], ns10, z10, ⟨by rw [upd_ne hfS2.1.symm]; exact B10.b, by rw [upd_ne hfS2.2.symm]; exact B10.l, B10.ne⟩, fun b o e e1 e2 => ?_, ?_, by simp [hl9], fun l2 hl2 => ?_⟩
    · rw [upd_ne (ne_of_none e hS2)]
      exact k10 _ _ (k9 _ _ e e1 e2) e1 e2
    · rw [upd_same, List.map_append]
      rfl
    · rcases List.mem_append.mp hl2 with h | h
      · exact hst9 l2 h
      · have : l2 = l := by simpa using h
        subst this
        exact ⟨hl, hs⟩
  rintro H9 ⟨ms, ns9, z9, B9, k9, hS9, hl9, hst9⟩
  have hS19 := k9 _ _ hS8 hfS1.1 hfS1.2
  refine ⟨S1, S2, ls.map fz, ms.map fz, rfl, rfl, hS19, hS9, by rw [List.length_map, List.length_map]; exact sz (by omega), fun S3 hS3 => ?_⟩
  have sS3 := Same.new hS3 (.lst (ls.map fz ++ ms.map fz))
  have hp10 := (hp8.keep B8 k9).mono sS3
  have ht10 := (ht8.keep B8 k9).mono sS3
  have hD10 := sS3 _ _ (k9 _ _ hD8 hf.1 hf.2)
  have hE10 := sS3 _ _ (k9 _ _ hE8 hfE.1 hfE.2)
  have B10 := B9.mono sS3
  have hS310 : upd H9 S3 (.lst (ls.map fz ++ ms.map fz)) S3 = some (.lst (ls.map fz ++ ms.map fz)) := upd_same
  generalize upd H9 S3 (.lst (ls.map fz ++ ms.map fz)) = H10 at hp10 ht10 hD10 hE10 B10 hS310
  obtain ⟨ta, rfl, hta⟩ := id ht10
  -- each of them
  refine ⟨_, rfl, _, rfl, ta, _, 2, _, rfl, rfl, SqT.of hta, rfl, by show 2 ≤ sizeLine; decide, fun S4 hS4 => ?_⟩
  have sS4 := Same.new hS4 (.lst [.str (tx t.l), .str ""])
  refine ⟨S3, S4, _, _, rfl, rfl, sS4 _ _ hS310, upd_same, ?_, fun S5 hS5 => ?_⟩
  · rw [List.length_append, List.length_map, List.length_map]
    exact sz (by show _ + 2 ≤ _; omega)
  have sS5 := Same.new hS5 (.lst ((ls.map fz ++ ms.map fz) ++ [.str (tx t.l), .str ""]))
  have s45 := sS4.trans sS5
  have hp11 := hp10.mono s45
  have ht11 := ht10.mono s45
  have hD11 := s45 _ _ hD10
  have hE11 := s45 _ _ hE10
  have B11 := B10.mono s45
  have eall : (ls.map fz ++ ms.map fz) ++ [V.str (tx t.l), .str ""] = (ls ++ ms ++ [t.l, []]).map fz := by
    rw [List.map_append, List.map_append, s_empty]
    rfl
  have hall : ∀ l ∈ ls ++ ms ++ [t.l, []], StOk pl l := fun l hl => by
    rcases List.mem_append.mp hl with h | h
    · rcases List.mem_append.mp h with h | h
      · exact hst l h
      · exact hst9 l h
    · rcases List.mem_cons.mp h with h | h
      · subst h
        exact ⟨by omega, tok.s⟩
      · have : l = [] := by simpa using h
        subst this
        exact stok_nil pl
  rw [eall]
  generalize hLs : ls ++ ms ++ [t.l, []] = Ls at hall
  have hS511 : upd (upd H10 S4 (.lst [.str (tx t.l), .str ""])) S5 (.lst (Ls.map fz)) S5 = some (.lst (Ls.map fz)) := upd_same
  rw [eall, hLs] at hp11 ht11 hD11 hE11 B11
  generalize upd (upd H10 S4 (.lst [.str (tx t.l), .str ""])) S5 (.lst (Ls.map fz)) = H11 at hp11 ht11 hD11 hE11 B11 hS511
  refine ⟨S5, rfl, ⟨_, SqL.of hS511⟩, for_list (K := K) (a := S5) (xs := Ls.map fz)
    (fun j σ H12 => ∃ (o7 o9 o10 o11 : Option V), σ = [some (.ref a), some (.ref p), some (.int (0 + (i : Int))), some (.ref pa), some (.ref D), some (.ref ta), some (.ref E), o7, some (.ref S3), o9, o10, o11, o12, o13, o14, o15, none, none] ∧ Same H11 H12)
    ⟨o7, o9, o10, o11, rfl, Same.refl _⟩ (fun j σ H12 _ ⟨_, _, _, _, _, s12⟩ => SqL.of (s12 _ _ hS511)) ?_ ?_⟩
  · rintro j x σ H12 hx ⟨o7, o9, o10, o11, rfl, s12⟩
    rw [List.getElem?_map] at hx
    obtain ⟨s, hs, rfl⟩ := Option.map_eq_some_iff.mp hx
    have hsok := hall s (List.mem_of_getElem? hs)
    have hD12 := s12 _ _ hD11
    have hE12 := s12 _ _ hE11
    refine ⟨_, rfl, D, _, rfl, .inl (SqL.of hD12), ?_⟩
    rw [List.length_map]
    refine ⟨_, rfl, by omega, by omega, fun F hF => ?_⟩
    have eN : (((stk pl.many pl.room).length : Nat) : Int).toNat = (stk pl.many pl.room).length := by omega
    rw [eN]
    refine lc_range (lo := 0) (fun k H13 => Same H12 H13 ∧ H13 F = some (.lst ((((stk pl.many pl.room).take k).filter fun x => decide (tby t x = s)).map fz))) ⟨Same.new hF _, upd_same⟩ ?_ ?_
    · rintro k H13 hk ⟨s13, hF13⟩
      obtain ⟨x, hx⟩ : ∃ x, (stk pl.many pl.room)[k]? = some x := ⟨_, List.getElem?_eq_getElem hk⟩
      have ft := filter_take (fun x => decide (tby t x = s)) _ hx
      refine ⟨rfl, ?_⟩
      refine ⟨_, rfl, _, rfl, E, _, 0 + (k : Int), fz (tby t x), rfl, rfl, SqL.of (s13 _ _ hE12), (by rw [Int.zero_add]; exact atI_nat (by rw [List.getElem?_map, hx]; rfl)), _, rfl, rfl, _, rfl, ?_⟩
      by_cases e : tby t x = s
      · rw [if_pos (decide_eq_true e)] at ft
        refine iteD (congrArg fz e) ?_
        refine ⟨_, rfl, _, rfl, D, _, 0 + (k : Int), fz x, rfl, rfl, SqL.of (s13 _ _ hD12), (by rw [Int.zero_add]; exact atI_nat (by rw [List.getElem?_map, hx]; rfl)), _, hF13, ?_, fun b o e => ?_, ?_⟩
        · rw [List.length_map]
          have := List.length_filter_le (fun x => decide (tby t x = s)) ((stk pl.many pl.room).take k)
          rw [List.length_take] at this
          exact szl2 (by omega)
        · rw [upd_ne (ne_of_none e hF)]
          exact s13 _ _ e
        · rw [upd_same, ft, List.map_append]
          rfl
      · rw [if_neg (fun z => e (of_decide_eq_true z)), List.append_nil] at ft
        refine iteDF (fun z => e (str_inj.mp (by injection z))) ⟨s13, ?_⟩
        rw [ft]
        exact hF13
    rintro H13 ⟨s13, hF13⟩
    rw [List.take_of_length_le (Nat.le_refl _)] at hF13
    have hF13 : H13 F = some (.lst ((bef pl.room pl.many t s).map fz)) := hF13
    -- what is due
    refine ⟨_, rfl, F, _, rfl, .inl (SqL.of hF13), ?_⟩
    refine ifHeadZ (ls := bef pl.room pl.many t s) rfl hF13 (fun l hl c hc => signs_lt ((stk_mem (bef_mem.mp hl).1).2 c hc)) fun H14 s14 => ?_
    refine ⟨by show 2 ≤ sizeLine; decide, fun T hT => ?_⟩
    have sT := Same.new hT (.tup [.int (((bef pl.room pl.many t s).map fz).length : Int), dueZ (bef pl.room pl.many t s)])
    have s15 := s12.trans (s13.trans (s14.trans sT))
    have hT15 : BefAt (upd H14 T (.tup [.int (((bef pl.room pl.many t s).map fz).length : Int), dueZ (bef pl.room pl.many t s)])) (.ref T) (bef pl.room pl.many t s).length (bef pl.room pl.many t s).head? := ⟨T, rfl, by rw [upd_same, List.length_map, dueZ_hd]⟩
    generalize upd H14 T (.tup [.int (((bef pl.room pl.many t s).map fz).length : Int), dueZ (bef pl.room pl.many t s)]) = H15 at hT15 s15
    refine ⟨2, rfl, by decide, by decide, for_range (lo := 0) (n := 2)
      (fun k σ H16 => ∃ (o7 : Option V), σ = [some (.ref a), some (.ref p), some (.int (0 + (i : Int))), some (.ref pa), some (.ref D), some (.ref ta), some (.ref E), o7, some (.ref S3), some (fz s), some (.ref F), some (.ref T), o12, o13, o14, o15, none, none] ∧ Same H15 H16)
      ⟨o7, rfl, Same.refl _⟩ ?_ ?_⟩
    · rintro k σ H16 hk ⟨o7, rfl, s16⟩
      have s17 := s15.trans s16
      refine ⟨_, rfl, _, rfl, _, rfl, .ref pa, pl, .ref ta, t, s, rfl, hp11.mono s17, ok, ht11.mono s17, tok, hsok.1, hsok.2, fun H17 w s18 hw => ?_⟩
      obtain ⟨T', eT, hT'⟩ := id hT15
      cases eT
      refine ⟨_, rfl, w, .ref T, rfl, alk_bef (k := 0) hw ⟨T, rfl, s18 _ _ (s16 _ _ hT')⟩, fun H18 s19 => ⟨_, rfl, iteF ?_⟩⟩
      exact ⟨_, rfl, s16.trans (s18.trans s19)⟩
    · rintro σ H16 ⟨o7, rfl, s16⟩
      exact ⟨_, _, _, _, rfl, s15.trans s16⟩
  rintro σ H12 ⟨o7, o9, o10, o11, rfl, s12⟩
  have B12 := B11.mono s12
  -- a greater plan
  refine ⟨_, rfl, p, q, ns9, z9, 9, 4, rfl, B12, by decide, by decide, by decide, by decide, fun pl2 v2 ns13 z13 H13 ok2 hR2 hM2 hp13 B13 k13 => ?_⟩
  have r29 := ok2.r9
  refine ⟨_, rfl, _, rfl, p, q, ns13, z13, v2, pl2, rfl, B13, hp13, ok2, fun t2 u2 ns14 z14 H14 tok2 ht14 B14 k14 => ?_⟩
  have hp14 := hp13.keep B13 k14
  obtain ⟨pa2, pb2, rfl, hpa14, hpb14⟩ := id hp14
  refine ⟨_, rfl, _, rfl, _, rfl, pa2, _, 0, _, rfl, rfl, SqT.of hpa14, rfl, p, q, ns14, z14, .ref pa2, pl2, pl2.room, rfl, B14, hp14, ok2, by omega, fun st ns15 z15 H15 hst hsg B15 k15 => ?_⟩
  have hp15 := hp14.keep B14 k15
  have ht15 := ht14.keep B14 k15
  refine ⟨by show 2 ≤ sizeLine; decide, fun T hT => ?_⟩
  have sT := Same.new hT (.tup [u2, .str (tx st)])
  have B16 := B15.mono sT
  have hp16 := hp15.mono sT
  have ht16 := ht15.mono sT
  have hT16 : upd H15 T (.tup [u2, .str (tx st)]) T = some (.tup [u2, .str (tx st)]) := upd_same
  generalize upd H15 T (.tup [u2, .str (tx st)]) = H16 at B16 hp16 ht16 hT16
  have kl2 := tok2.kl
  refine ⟨T, _, rfl, SqT.of hT16, rfl, _, _, rfl, _, _, rfl, rfl, ?_⟩
  refine ⟨_, rfl, _, rfl, u2, t2, st, rfl, ht16, by omega, by omega, fun H17 s17 => ?_⟩
  refine ⟨_, rfl, _, rfl, _, rfl, .ref pa2, pl2, u2, t2, tby t2 st, rfl, hp16.mono s17, ok2, ht16.mono s17, tok2, tby_len tok2 st, tby_in tok2 hsg, fun H18 w s18 hw => ?_⟩
  obtain ⟨wa, rfl, hwa⟩ := hw
  have hmem : st ∈ bef pl2.room pl2.many t2 (tby t2 st) := bef_mem.mpr ⟨mem_stk hst hsg, rfl⟩
  have hlen : 0 < (bef pl2.room pl2.many t2 (tby t2 st)).length := List.length_pos_of_mem hmem
  obtain ⟨fs, hfs⟩ : ∃ fs, (bef pl2.room pl2.many t2 (tby t2 st)).head? = some fs := by
    cases e : bef pl2.room pl2.many t2 (tby t2 st) with
    | nil =>
      rw [e] at hmem
      cases hmem
    | cons x r => exact ⟨x, rfl⟩
  have hfm := bef_mem.mp (List.mem_of_mem_head? (Option.mem_def.mpr hfs))
  have hfl := stk_mem hfm.1
  have hleast := bef_least hfs hmem
  rw [hfs] at hwa
  refine ⟨wa, _, rfl, SqT.of hwa, rfl, _, _, rfl, _, _, rfl, rfl, ?_⟩
  refine ⟨_, rfl, _, _, rfl, rfl, _, rfl, iteDF (by omega) ?_⟩
  refine ⟨_, rfl, rfl, _, rfl, iteDF (by intro z; cases z) ?_⟩
  refine ⟨_, rfl, _, rfl, u2, t2, fs, rfl, ht16.mono (s17.trans s18), by omega, by omega, fun H19 s19 => ?_⟩
  refine ⟨_, rfl, rfl, _, rfl, ?_⟩
  rw [hfm.2]
  refine iteNS rfl ?_
  refine ⟨_, rfl, _, rfl, by rw [tx_len]; exact sz (by omega), _, rfl, by show 2 ≤ sizeLine; decide, fun X1 hX1 => ?_⟩
  refine ⟨_, rfl, _, rfl, by rw [tx_len]; exact sz (by omega), _, rfl, by show 2 ≤ sizeLine; decide, fun X2 hX2 => ?_⟩
  have sX2 := Same.new hX2 (.tup [.int ((tx st).length : Int), .str (tx st)])
  refine ⟨X1, X2, _, _, fs, st, rfl, rfl, SqT.of (sX2 _ _ upd_same), SqT.of upd_same, _, rfl, ?_⟩
  rw [tx_len, tx_len, hleast]
  refine iteF ?_
  exact ⟨_, _, _, _, _, _, _, _, _, _, _, _, _, _, ns15, z15, rfl, B16.mono (s17.trans (s18.trans (s19.trans ((Same.new hX1 _).trans sX2))))⟩
end
/-! ### the end -/
theorem gx_mk {K : PySem.W.Frag} {mg : Str → Option Value} {h : Heap} (X : K.In h) (G : h.Ns mainGlobals mg) {u0 : Value} (v0 : PySem.W.nsIn K mainGlobals "SIGNS" = some (some u0)) (r0 : RelV (.str (tx [97, 98, 99, 100])) u0) {u1 : Value} (v1 : PySem.W.nsIn K mainGlobals "MOST_ROOM" = some (some u1)) (r1 : RelV (.int 9) u1) {u2 : Value} (v2 : PySem.W.nsIn K mainGlobals "MOST_PRICE" = some (some u2)) (r2 : RelV (.int 99) u2) (z0 : PySem.W.nsIn K mainGlobals "isinstance" = some none) (z1 : PySem.W.nsIn K mainGlobals "bool" = some none) (z2 : PySem.W.nsIn K mainGlobals "int" = some none) (z3 : PySem.W.nsIn K mainGlobals "str" = some none) (z4 : PySem.W.nsIn K mainGlobals "tuple" = some none) (z5 : PySem.W.nsIn K mainGlobals "len" = some none) (z6 : PySem.W.nsIn K mainGlobals "all" = some none) (z7 : PySem.W.nsIn K mainGlobals "max" = some none) (z8 : PySem.W.nsIn K mainGlobals "min" = some none) (z9 : PySem.W.nsIn K mainGlobals "range" = some none) (z10 : PySem.W.nsIn K mainGlobals "list" = some none) (z11 : PySem.W.nsIn K mainGlobals "reversed" = some none) (z12 : PySem.W.nsIn K mainGlobals "sum" = some none) (z13 : PySem.W.nsIn K mainGlobals "abs" = some none) : Gx mg :=
  ⟨⟨_, PySem.W.mg_of X G v0, r0⟩, ⟨_, PySem.W.mg_of X G v1, r1⟩, ⟨_, PySem.W.mg_of X G v2, r2⟩, PySem.W.mg_none_of X G z0, PySem.W.mg_none_of X G z1, PySem.W.mg_none_of X G z2, PySem.W.mg_none_of X G z3, PySem.W.mg_none_of X G z4, PySem.W.mg_none_of X G z5, PySem.W.mg_none_of X G z6, PySem.W.mg_none_of X G z7, PySem.W.mg_none_of X G z8, PySem.W.mg_none_of X G z9, PySem.W.mg_none_of X G z10, PySem.W.mg_none_of X G z11, PySem.W.mg_none_of X G z12, PySem.W.mg_none_of X G z13⟩
theorem all_mk {l : PySem.W.OpenLaw} {w : World} {K : PySem.W.Frag} {h : Heap} {mg : Str → Option Value} {fa fL : Addr} (X : K.In h) (G : h.Ns mainGlobals mg) (hfa : mg "law" = some (.ref fa))
    {od an : Option Addr} {sl : Array (Option Value)} {oc kV dc pm cd ct : Value}
    (aL : PySem.W.nsIn K mainGlobals "law" = some (some (.ref fL))) (lL : K.lookup fL = some ⟨oc, od, .func (PySem.W.fnOf "law" "law" (defArgs s_law) (defBody s_law) (defScope s_law) .none kV dc pm an cd ct), sl⟩) (cL : PySem.W.codeIn K cd "law" = true) (kL : PySem.W.keepIn K (.ref fL) = true)
    (g : Gx mg)
    (D_signs_of : Dn K mg "signs_of" s_signs_of P_signs_of)
    (D_is_number : Dn K mg "is_number" s_is_number P_is_number)
    (D_is_text_of : Dn K mg "is_text_of" s_is_text_of P_is_text_of)
    (D_are_prices : Dn K mg "are_prices" s_are_prices P_are_prices)
    (D_check_plan : Dn K mg "check_plan" s_check_plan P_check_plan)
    (D_is_stack : Dn K mg "is_stack" s_is_stack P_is_stack)
    (D_check_stack : Dn K mg "check_stack" s_check_stack P_check_stack)
    (D_is_triple : Dn K mg "is_triple" s_is_triple P_is_triple)
    (D_check_triple : Dn K mg "check_triple" s_check_triple P_check_triple)
    (D_law_take : Dn K mg "_law_take" s_law_take P_law_take)
    (D_law_begun : Dn K mg "_law_begun" s_law_begun P_law_begun)
    (D_law_by : Dn K mg "_law_by" s_law_by P_law_by)
    (D_law_plan : Dn K mg "_law_plan" s_law_plan P_law_plan)
    (D_law_alike : Dn K mg "_law_alike" s_law_alike P_law_alike)
    (D_law_stacks : Dn K mg "_law_stacks" s_law_stacks P_law_stacks)
    (D_law_signs : Dn K mg "_law_signs" s_law_signs P_law_signs)
    (D_law_triple : Dn K mg "_law_triple" s_law_triple P_law_triple)
    (D_texts_of_size : Dn K mg "texts_of_size" s_texts_of_size P_texts_of_size)
    (D_texts_up_to : Dn K mg "texts_up_to" s_texts_up_to P_texts_up_to)
    (D_how_many_left : Dn K mg "how_many_left" s_how_many_left P_how_many_left)
    (D_befores : Dn K mg "befores" s_befores P_befores) :
    ∃ fd : FuncData, (∀ (s : Shared) (v : Value), BindsTo s fd ⟨[v], []⟩ [("_law_script", v)]) ∧ ∀ base : Heap, K.In base → base.Ns mainGlobals mg → FnOk l.prog w K mg base CX0 5 fa fd ["_law_script"] (spLaw K) := by
  have e := hfa.symm.trans (PySem.W.mg_of X G aL)
  cases e
  have F := fun_mk (st := s_law) lL cL kL
  refine ⟨PySem.W.fnOf "law" "law" (defArgs s_law) (defBody s_law) (defScope s_law) .none kV dc pm an cd ct, fun s v => .of_eq rfl, fun base _ _ => ?_⟩
  have c_signs_of := ok_signs_of (P := l.prog) (w := w) (base := base) D_signs_of g
  have c_is_number := ok_is_number (P := l.prog) (w := w) (base := base) D_is_number g
  have c_is_text_of := ok_is_text_of (P := l.prog) (w := w) (base := base) D_is_text_of g
  have c_are_prices := ok_are_prices (P := l.prog) (w := w) (base := base) D_are_prices g c_is_number
  have c_check_plan := ok_check_plan (P := l.prog) (w := w) (base := base) D_check_plan g c_is_number c_are_prices
  have c_is_stack := ok_is_stack (P := l.prog) (w := w) (base := base) D_is_stack g c_signs_of c_is_text_of
  have c_check_stack := ok_check_stack (P := l.prog) (w := w) (base := base) D_check_stack g c_is_stack
  have c_is_triple := ok_is_triple (P := l.prog) (w := w) (base := base) D_is_triple g c_is_number c_signs_of c_is_text_of
  have c_check_triple := ok_check_triple (P := l.prog) (w := w) (base := base) D_check_triple g c_is_triple
  have c_law_take := ok_law_take (P := l.prog) (w := w) (base := base) D_law_take g
  have c_law_begun := ok_law_begun (P := l.prog) (w := w) (base := base) D_law_begun g
  have c_law_by := ok_law_by (P := l.prog) (w := w) (base := base) D_law_by g
  have c_law_plan := ok_law_plan (P := l.prog) (w := w) (base := base) D_law_plan g c_law_take
  have c_law_alike := ok_law_alike (P := l.prog) (w := w) (base := base) D_law_alike g 2
  have c_law_stacks := ok_law_stacks (P := l.prog) (w := w) (base := base) D_law_stacks g
  have c_law_signs := ok_law_signs (P := l.prog) (w := w) (base := base) D_law_signs g c_law_take
  have c_law_triple := ok_law_triple (P := l.prog) (w := w) (base := base) D_law_triple g c_law_take c_law_signs
  have c_texts_of_size := ok_texts_of_size (P := l.prog) (w := w) (base := base) D_texts_of_size g
  have c_texts_up_to := ok_texts_up_to (P := l.prog) (w := w) (base := base) D_texts_up_to g c_texts_of_size
  have c_how_many_left := ok_how_many_left (P := l.prog) (w := w) (base := base) D_how_many_left g c_texts_up_to c_texts_of_size
  have c_befores := ok_befores (P := l.prog) (w := w) (base := base) D_befores g c_check_plan c_check_triple c_check_stack c_how_many_left
  exact ok_law F g c_law_begun c_law_plan c_law_take c_law_stacks c_law_triple c_law_by c_law_signs c_befores c_law_alike
theorem walk {l : PySem.W.OpenLaw} {q : Program} {loose : List Str} {XP : (Str → Option Value) → Heap → Prop} {YP : World → Heap → Prop} {d : DefRec} {K : Params → PySem.W.Frag} (hn : l.most = some 63) (hdf : d.params.defaults = [])
    (hY : ∀ (w : World) (h : Heap), YP w h → (K w.params).In h)
    (F : ∀ (w : World) (mg : Str → Option Value) (fa : Addr) (h : Heap), (K w.params).In h → h.Ns mainGlobals mg → mg d.name = some (.ref fa) →
      ∃ fd : FuncData, (∀ (s : Shared) (u : Value), BindsTo s fd ⟨[u], []⟩ [("_law_script", u)]) ∧ ∀ base : Heap, (K w.params).In base → base.Ns mainGlobals mg → FnOk l.prog w (K w.params) mg base CX0 5 fa fd ["_law_script"] (spLaw (K w.params))) :
    PySem.W.WalkO q loose XP YP l.row.toRowW d [] (fun f vs => PySem.call f vs) :=
  L2.walk_of (n := 63) (k := 5) (x := "_law_script") (CX := fun _ => CX0) (sp := fun w => spLaw (K w.params)) hn (by decide) hdf ⟨rfl, by decide, by decide⟩ hY F (fun _ _ a ns hl _ hS => ⟨a, ns, rfl, hS, hl, fun _ => rfl⟩) fun _ _ _ _ _ z => z
end SK
open PySem PySem.W PyProof.Rows
set_option maxRecDepth 100000 in
set_option maxHeartbeats 0 in
theorem PySem.Challenge.cw_sinkstack_k07_befores_holds : PySem.Challenge.rw_sinkstack_k07_befores.Holds := by
  w_on; o_law; k_head; (case hw => w_witness2)
  k_fill
  refine SK.walk (l := PySem.Challenge.rw_sinkstack_k07_befores) rfl rfl (fun w h Y => PySem.W.kIn_of Y) ?F
  case F =>
    intro w mg fa h KX G hmg
    refine' SK.all_mk KX G hmg ?aL ?lL ?cL ?kL (SK.gx_mk KX G ?v0 ?r0 ?v1 ?r1 ?v2 ?r2 ?z0 ?z1 ?z2 ?z3 ?z4 ?z5 ?z6 ?z7 ?z8 ?z9 ?z10 ?z11 ?z12 ?z13)
      (SK.dn_mk KX G ?a0 ?l0 ?c0 ?k0 (fun _ _ _ _ _ _ us hl => match us, hl with | [_], _ => rfl))
      (SK.dn_mk KX G ?a1 ?l1 ?c1 ?k1 (fun _ _ _ _ _ _ us hl => match us, hl with | [_, _, _], _ => rfl))
      (SK.dn_mk KX G ?a2 ?l2 ?c2 ?k2 (fun _ _ _ _ _ _ us hl => match us, hl with | [_, _], _ => rfl))
      (SK.dn_mk KX G ?a3 ?l3 ?c3 ?k3 (fun _ _ _ _ _ _ us hl => match us, hl with | [_, _], _ => rfl))
      (SK.dn_mk KX G ?a4 ?l4 ?c4 ?k4 (fun _ _ _ _ _ _ us hl => match us, hl with | [_], _ => rfl))
      (SK.dn_mk KX G ?a5 ?l5 ?c5 ?k5 (fun _ _ _ _ _ _ us hl => match us, hl with | [_, _], _ => rfl))
      (SK.dn_mk KX G ?a6 ?l6 ?c6 ?k6 (fun _ _ _ _ _ _ us hl => match us, hl with | [_, _], _ => rfl))
      (SK.dn_mk KX G ?a7 ?l7 ?c7 ?k7 (fun _ _ _ _ _ _ us hl => match us, hl with | [_, _], _ => rfl))
      (SK.dn_mk KX G ?a8 ?l8 ?c8 ?k8 (fun _ _ _ _ _ _ us hl => match us, hl with | [_, _], _ => rfl))
      (SK.dn_mk KX G ?a9 ?l9 ?c9 ?k9 (fun _ _ _ _ _ _ us hl => match us, hl with | [_, _], _ => rfl))
      (SK.dn_mk KX G ?a10 ?l10 ?c10 ?k10 (fun _ _ _ _ _ _ us hl => match us, hl with | [_], _ => rfl))
      (SK.dn_mk KX G ?a11 ?l11 ?c11 ?k11 (fun _ _ _ _ _ _ us hl => match us, hl with | [_, _], _ => rfl))
      (SK.dn_mk KX G ?a12 ?l12 ?c12 ?k12 (fun _ _ _ _ _ _ us hl => match us, hl with | [_, _, _], _ => rfl))
      (SK.dn_mk KX G ?a13 ?l13 ?c13 ?k13 (fun _ _ _ _ _ _ us hl => match us, hl with | [_, _], _ => rfl))
      (SK.dn_mk KX G ?a14 ?l14 ?c14 ?k14 (fun _ _ _ _ _ _ us hl => match us, hl with | [_], _ => rfl))
      (SK.dn_mk KX G ?a15 ?l15 ?c15 ?k15 (fun _ _ _ _ _ _ us hl => match us, hl with | [_, _, _], _ => rfl))
      (SK.dn_mk KX G ?a16 ?l16 ?c16 ?k16 (fun _ _ _ _ _ _ us hl => match us, hl with | [_, _], _ => rfl))
      (SK.dn_mk KX G ?a17 ?l17 ?c17 ?k17 (fun _ _ _ _ _ _ us hl => match us, hl with | [_, _], _ => rfl))
      (SK.dn_mk KX G ?a18 ?l18 ?c18 ?k18 (fun _ _ _ _ _ _ us hl => match us, hl with | [_, _], _ => rfl))
      (SK.dn_mk KX G ?a19 ?l19 ?c19 ?k19 (fun _ _ _ _ _ _ us hl => match us, hl with | [_, _, _, _], _ => rfl))
      (SK.dn_mk KX G ?a20 ?l20 ?c20 ?k20 (fun _ _ _ _ _ _ us hl => match us, hl with | [_, _, _], _ => rfl))
    (case aL => k_is); (case lL => k_is); (case cL => k_is); (case kL => k_is)
    (case v0 => k_is); (case r0 => exact ⟨_, rfl⟩)
    (case v1 => k_is); (case r1 => exact ⟨_, rfl⟩)
    (case v2 => k_is); (case r2 => exact ⟨_, rfl⟩)
    (case z0 => k_is)
    (case z1 => k_is)
    (case z2 => k_is)
    (case z3 => k_is)
    (case z4 => k_is)
    (case z5 => k_is)
    (case z6 => k_is)
    (case z7 => k_is)
    (case z8 => k_is)
    (case z9 => k_is)
    (case z10 => k_is)
    (case z11 => k_is)
    (case z12 => k_is)
    (case z13 => k_is)
    (case a0 => k_is); (case l0 => k_is); (case c0 => k_is); (case k0 => k_is)
    (case a1 => k_is); (case l1 => k_is); (case c1 => k_is); (case k1 => k_is)
    (case a2 => k_is); (case l2 => k_is); (case c2 => k_is); (case k2 => k_is)
    (case a3 => k_is); (case l3 => k_is); (case c3 => k_is); (case k3 => k_is)
    (case a4 => k_is); (case l4 => k_is); (case c4 => k_is); (case k4 => k_is)
    (case a5 => k_is); (case l5 => k_is); (case c5 => k_is); (case k5 => k_is)
    (case a6 => k_is); (case l6 => k_is); (case c6 => k_is); (case k6 => k_is)
    (case a7 => k_is); (case l7 => k_is); (case c7 => k_is); (case k7 => k_is)
    (case a8 => k_is); (case l8 => k_is); (case c8 => k_is); (case k8 => k_is)
    (case a9 => k_is); (case l9 => k_is); (case c9 => k_is); (case k9 => k_is)
    (case a10 => k_is); (case l10 => k_is); (case c10 => k_is); (case k10 => k_is)
    (case a11 => k_is); (case l11 => k_is); (case c11 => k_is); (case k11 => k_is)
    (case a12 => k_is); (case l12 => k_is); (case c12 => k_is); (case k12 => k_is)
    (case a13 => k_is); (case l13 => k_is); (case c13 => k_is); (case k13 => k_is)
    (case a14 => k_is); (case l14 => k_is); (case c14 => k_is); (case k14 => k_is)
    (case a15 => k_is); (case l15 => k_is); (case c15 => k_is); (case k15 => k_is)
    (case a16 => k_is); (case l16 => k_is); (case c16 => k_is); (case k16 => k_is)
    (case a17 => k_is); (case l17 => k_is); (case c17 => k_is); (case k17 => k_is)
    (case a18 => k_is); (case l18 => k_is); (case c18 => k_is); (case k18 => k_is)
    (case a19 => k_is); (case l19 => k_is); (case c19 => k_is); (case k19 => k_is)
    (case a20 => k_is); (case l20 => k_is); (case c20 => k_is); (case k20 => k_is)
