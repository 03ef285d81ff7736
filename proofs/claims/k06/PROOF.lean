import PyProof.Rows.All
import Wide.All
import OpenK.AllK
import Wide.FinOn
import HandS.Base
import HandS.Call
import HandS.List
import HandS.Comp
import HandS.Ends
import HandS.Iter
import HandS.Text
import HandS.Words
import HandS.WordsList
import HandS.Codes
import HandS.IsInst
import HandS.Walk
import HandS.TupAny
import HandS.Wide
import HandS.Rev
import HandS.Replace
import HandS.Style
import KE.DataMinKey
import KE.KMinKey
import HandS.Lambda
import HandS.Nested
import HandS.Strs
import KE.KNestM
import KE.KLam
import HandS.EndTab
import PySem.Challenge.RW_sinkstack_k06_whole_one_told_price
set_option Elab.async false
set_option linter.all false
set_option maxRecDepth 100000
set_option maxHeartbeats 4000000
/-! the mathematics of triples, over lists of numbers -/
namespace SK
def tp (k : Nat) (l : List Nat) : List Nat := l.drop (l.length - k)
def ct (g : Nat) (l : List Nat) : List Nat := l.take (l.length - g)
structure Tr where
  g : Nat
  k : Nat
  l : List Nat
def tby (t : Tr) (x : List Nat) : List Nat := tp t.k (ct t.g x) ++ t.l
def tidy (g k : Nat) (l : List Nat) : Tr := if k = 0 then ⟨0, 0, l⟩ else ⟨g, k, l⟩
def tjoin (t u : Tr) : Tr := tidy (t.g + (u.g - t.l.length)) (min (t.k - (u.g - t.l.length)) (u.k - (ct u.g t.l).length)) (tp u.k (ct u.g t.l) ++ u.l)
def tstep (room c : Nat) : Tr := if c = 45 then tidy 1 (room - 1) [] else ⟨0, room - 1, [c]⟩
def tunt (room : Nat) : Tr := ⟨0, room, []⟩
def ttold (room : Nat) (s : List Nat) : Tr := s.foldl (fun t c => tjoin t (tstep room c)) (tunt room)
def step (room : Nat) (x : List Nat) (c : Nat) : List Nat := if c = 45 then ct 1 x else tp room (x ++ [c])
def gone (room : Nat) (x : List Nat) (s : List Nat) : List Nat := s.foldl (step room) x
def signs (n : Nat) : List Nat := [97, 98, 99, 100].take n
structure TrOk (room many : Nat) (t : Tr) : Prop where
  gk : t.g + t.k ≤ room
  kl : t.k + t.l.length ≤ room
  z : t.k = 0 → t.g = 0
  s : ∀ c ∈ t.l, c ∈ signs many
theorem len_tp (k : Nat) (l : List Nat) : (tp k l).length = min k l.length := by
  unfold tp
  rw [List.length_drop]
  omega
theorem len_ct (g : Nat) (l : List Nat) : (ct g l).length = l.length - g := by
  unfold ct
  rw [List.length_take]
  omega
theorem tp_all {k : Nat} {l : List Nat} (h : l.length ≤ k) : tp k l = l := by
  unfold tp
  rw [Nat.sub_eq_zero_of_le h, List.drop_zero]
theorem tp_zero (l : List Nat) : tp 0 l = [] := by
  unfold tp
  rw [Nat.sub_zero, List.drop_length]
theorem ct_zero (l : List Nat) : ct 0 l = l := by
  unfold ct
  rw [Nat.sub_zero, List.take_length]
theorem ct_all {g : Nat} {l : List Nat} (h : l.length ≤ g) : ct g l = [] := by
  unfold ct
  rw [Nat.sub_eq_zero_of_le h, List.take_zero]
theorem tp_tp (a b : Nat) (l : List Nat) : tp a (tp b l) = tp (min a b) l := by
  unfold tp
  rw [List.drop_drop, List.length_drop]
  congr 1
  omega
theorem ct_ct (a b : Nat) (l : List Nat) : ct a (ct b l) = ct (b + a) l := by
  unfold ct
  rw [List.take_take, List.length_take]
  congr 1
  omega
theorem ct_tp (d k : Nat) (l : List Nat) : ct d (tp k l) = tp (k - d) (ct d l) := by
  unfold ct tp
  rw [List.length_drop, List.length_take, List.drop_take]
  by_cases h : l.length ≤ k
  · have e1 : l.length - k = 0 := by omega
    have e2 : min (l.length - d) l.length - (k - d) = 0 := by omega
    rw [e1, e2, List.drop_zero, Nat.sub_zero, Nat.sub_zero]
  · by_cases h2 : d ≤ k
    · have e2 : min (l.length - d) l.length - (k - d) = l.length - k := by omega
      rw [e2]
      congr 1
      omega
    · have e1 : l.length - (l.length - k) - d = 0 := by omega
      have e2 : l.length - d - (min (l.length - d) l.length - (k - d)) = 0 := by omega
      rw [e1, e2, List.take_zero, List.take_zero]
theorem ct_app_le {g : Nat} {a b : List Nat} (h : g ≤ b.length) : ct g (a ++ b) = a ++ ct g b := by
  unfold ct
  rw [List.length_append, List.take_append]
  have e1 : a.length + b.length - g - a.length = b.length - g := by omega
  rw [e1, List.take_of_length_le (by omega)]
theorem ct_app_ge {g : Nat} {a b : List Nat} (h : b.length ≤ g) : ct g (a ++ b) = ct (g - b.length) a := by
  unfold ct
  rw [List.length_append, List.take_append]
  have e1 : a.length + b.length - g - a.length = 0 := by omega
  rw [e1, List.take_zero, List.append_nil]
  congr 1
  omega
theorem tp_app (k : Nat) (a b : List Nat) : tp k (a ++ b) = tp (k - b.length) a ++ tp k b := by
  unfold tp
  rw [List.length_append, List.drop_append]
  have e1 : a.length + b.length - k - a.length = b.length - k := by omega
  by_cases h : b.length ≤ k
  · have e2 : a.length + b.length - k = a.length - (k - b.length) := by omega
    rw [e1, e2]
  · have e2 : a.length ≤ a.length + b.length - k := by omega
    have e3 : a.length - (k - b.length) = a.length := by omega
    rw [e1, e3, List.drop_eq_nil_of_le e2, List.drop_length]
theorem tby_tidy (g k : Nat) (l x : List Nat) : tby (tidy g k l) x = tby ⟨g, k, l⟩ x := by
  unfold tidy
  by_cases h : k = 0
  · rw [if_pos h]
    subst h
    simp only [tby, tp_zero]
  · rw [if_neg h]
theorem tby_join (t u : Tr) (x : List Nat) : tby (tjoin t u) x = tby u (tby t x) := by
  unfold tjoin
  rw [tby_tidy]
  simp only [tby]
  by_cases h : u.g ≤ t.l.length
  · have e : u.g - t.l.length = 0 := by omega
    rw [ct_app_le h, tp_app, tp_tp, e, Nat.add_zero, Nat.sub_zero, Nat.min_comm, List.append_assoc]
  · have h' : t.l.length ≤ u.g := by omega
    have e : ct u.g t.l = [] := ct_all h'
    rw [ct_app_ge h', e, ct_tp, ct_ct, tp_tp]
    simp only [List.length_nil, Nat.sub_zero]
    rw [tp_all (l := []) (by simp), List.nil_append, Nat.min_comm]
theorem tidy_ok {room many g k : Nat} {l : List Nat} (h1 : 0 < k → g + k ≤ room) (h2 : k + l.length ≤ room) (h3 : ∀ c ∈ l, c ∈ signs many) : TrOk room many (tidy g k l) := by
  unfold tidy
  by_cases h : k = 0
  · rw [if_pos h]
    exact ⟨by simp, by subst h; simpa using h2, fun _ => rfl, h3⟩
  · rw [if_neg h]
    exact ⟨h1 (by omega), h2, fun z => absurd z h, h3⟩
theorem mem_tp {k c : Nat} {l : List Nat} (h : c ∈ tp k l) : c ∈ l := List.mem_of_mem_drop h
theorem mem_ct {k c : Nat} {l : List Nat} (h : c ∈ ct k l) : c ∈ l := List.mem_of_mem_take h
theorem tjoin_ok {room many : Nat} {t u : Tr} (a : TrOk room many t) (b : TrOk room many u) : TrOk room many (tjoin t u) := by
  have := a.gk
  have := a.kl
  have := b.gk
  have := b.kl
  unfold tjoin
  refine tidy_ok (fun h => ?_) ?_ fun c hc => ?_
  · omega
  · rw [List.length_append, len_tp]
    omega
  · rcases List.mem_append.mp hc with h | h
    · exact a.s c (mem_ct (mem_tp h))
    · exact b.s c h
theorem tunt_ok {room many : Nat} : TrOk room many (tunt room) := ⟨by simp [tunt], by simp [tunt], fun _ => rfl, fun c h => by simp [tunt] at h⟩
theorem tstep_ok {room many c : Nat} (hr : 1 ≤ room) (hc : c = 45 ∨ c ∈ signs many) : TrOk room many (tstep room c) := by
  unfold tstep
  by_cases h : c = 45
  · rw [if_pos h]
    exact tidy_ok (fun _ => by omega) (by simp) fun c h => by simp at h
  · rw [if_neg h]
    refine ⟨by simp, by simp; omega, fun _ => rfl, fun d hd => ?_⟩
    have e : d = c := by simpa using hd
    subst e
    exact hc.resolve_left h
theorem ttold_ok {room many : Nat} (hr : 1 ≤ room) : ∀ (s : List Nat) (t : Tr), TrOk room many t → (∀ c ∈ s, c = 45 ∨ c ∈ signs many) → TrOk room many (s.foldl (fun t c => tjoin t (tstep room c)) t)
  | [], _, h, _ => h
  | c :: r, t, h, hs => ttold_ok hr r _ (tjoin_ok h (tstep_ok hr (hs c (List.mem_cons_self ..)))) fun d hd => hs d (List.mem_cons_of_mem _ hd)
theorem tby_step {room c : Nat} {x : List Nat} (hr : 1 ≤ room) (hx : x.length ≤ room) : tby (tstep room c) x = step room x c := by
  unfold tstep step
  by_cases h : c = 45
  · rw [if_pos h, if_pos h, tby_tidy]
    simp only [tby, List.append_nil]
    exact tp_all (by rw [len_ct]; omega)
  · rw [if_neg h, if_neg h, tp_app]
    simp only [tby, ct_zero, List.length_singleton]
    congr 1
    exact (tp_all (by simpa using hr)).symm
theorem step_len {room c : Nat} {x : List Nat} (hx : x.length ≤ room) : (step room x c).length ≤ room := by
  unfold step
  by_cases h : c = 45
  · rw [if_pos h, len_ct]
    omega
  · rw [if_neg h, len_tp]
    omega
theorem gone_len {room : Nat} : ∀ (s x : List Nat), x.length ≤ room → (gone room x s).length ≤ room
  | [], _, h => h
  | c :: r, x, h => gone_len r (step room x c) (step_len h)
theorem tby_fold {room : Nat} (hr : 1 ≤ room) : ∀ (s : List Nat) (t : Tr) (x y : List Nat), (tby t x).length ≤ room → tby (s.foldl (fun t c => tjoin t (tstep room c)) t) x = gone room (tby t x) s
  | [], _, _, _, _ => rfl
  | c :: r, t, x, y, h => by
    have e := tby_fold hr r (tjoin t (tstep room c)) x y (by rw [tby_join, tby_step hr h]; exact step_len h)
    rw [tby_join, tby_step hr h] at e
    exact e
theorem tby_unt {room : Nat} {x : List Nat} (hx : x.length ≤ room) : tby (tunt room) x = x := by
  simp only [tby, tunt, ct_zero, List.append_nil]
  exact tp_all hx
theorem tby_told {room : Nat} (hr : 1 ≤ room) (s : List Nat) {x : List Nat} (hx : x.length ≤ room) : tby (ttold room s) x = gone room x s := by
  have e := tby_fold hr s (tunt room) x [] (by rw [tby_unt hx]; exact hx)
  rw [tby_unt hx] at e
  exact e
end SK
namespace SK
open PySem PySem.Spec PyProof.Rows L2
/-! ### tuples whose object is known to have no dict -/
/-- a tuple, its object plain -/
def TupF (H : Hp) (a : Addr) (xs : List V) : Prop := ∃ ob : Obj, ob.dict = none ∧ H a = some (.frz ob (.tup xs))
theorem TupF.sq {K : PySem.W.Frag} {H : Hp} {a : Addr} {xs : List V} (h : TupF H a xs) : SqT K H a xs := by
  obtain ⟨ob, _, e⟩ := h
  exact .inl (.inr ⟨ob, e⟩)
section
variable {X : Cx} {es : List Expr} {t : TA} {pos cpos apos : Pos}
def tTupF (t : TA) : TE := fun σ H Q => t σ H fun xs H1 => xs.length ≤ sizeLine ∧ ∀ (p : Addr) (ob : Obj), ob.dict = none → H1 p = none → Q (.ref p) (upd H1 p (.frz ob (.tup xs)))
theorem tupF_ok {P : Program} {w : World} {H : Hp} {h : Heap} {us : List Value} {xs : List V} (r : Vals xs us) (z : xs.length ≤ sizeLine) : ObjOk P w H (h.push { cls := .type "tuple", data := .seq us.toArray }) h.objs.size (.frz { cls := .type "tuple", data := .seq us.toArray } (.tup xs)) :=
  ⟨Heap.get?_push_size _ rfl, z, us, r, ⟨_, Heap.get?_push_size _ rfl, rfl, _, rfl⟩⟩
theorem pe_tupF {x1} (h : PA X es t) : PE X (.Tuple es x1 pos) (tTupF t) := by
  refine ⟨fun pins s σ H Q I hq => ?_⟩
  refine wpAny_Tuple_spliced (thn (h.run pos pins s σ H _ I hq) fun us s1 ⟨xs, H1, I1, r, z, q⟩ => ⟨by rw [← r.length]; exact z, ?_⟩)
  have hf : H1 s1.heap.objs.size = none := I1.hok.fresh (Nat.le_refl _)
  exact ⟨.ref s1.heap.objs.size, upd H1 s1.heap.objs.size (.frz { cls := .type "tuple", data := .seq us.toArray } (.tup xs)), I1.laid (t' := s1.toks) (fun b u e => Heap.get?_push_of_some _ e) (Nat.le_refl _) (tupF_ok r z), rfl, q _ _ rfl hf⟩
theorem call_tupleF : CallR X (.type "tuple") (fun xs H Q => ∃ p ys, xs = [.ref p] ∧ SqL X.K H p ys ∧ ∀ (l : Addr) (ob : Obj), ob.dict = none → H l = none → Q (.ref l) (upd H l (.frz ob (.tup ys)))) := by
  intro pins s σ H xs us Q I r h
  obtain ⟨p, ys, rfl, hq, q⟩ := h
  obtain ⟨u, rfl, rx⟩ := vals1 r
  cases rx
  obtain ⟨its, r', pl, hz⟩ := I.list hq
  have hlen := r'.length
  refine call_tuple_list pl.isList (fun h' kp => ?_) (by simp only [List.size_toArray] <;> omega)
  have I1 : Inv X pins σ H { s with heap := h' } := I.kept (t' := s.toks) kp
  have I2 : Inv X pins σ (upd H h'.objs.size (.frz { cls := .type "tuple", data := .seq its.toArray } (.tup ys))) { s with heap := h'.push { cls := .type "tuple", data := .seq its.toArray } } :=
    I1.laid (t' := s.toks) (fun b o e => Heap.get?_push_of_some _ e) (Nat.le_refl _) (tupF_ok r' hz)
  exact ⟨.ref h'.objs.size, _, I2, rfl, q _ _ rfl (I1.hok.fresh (Nat.le_refl _))⟩
/-- t + u, t not empty -/
def rCatF (K : PySem.W.Frag) : R2 := fun x y H Q => ∃ a b xs ys, x = .ref a ∧ y = .ref b ∧ SqT K H a xs ∧ SqT K H b ys ∧ xs ≠ [] ∧ xs.length + ys.length ≤ sizeLine ∧
  (ys = [] → Q (.ref a) H) ∧ (ys ≠ [] → ∀ (p : Addr) (ob : Obj), ob.dict = none → H p = none → Q (.ref p) (upd H p (.frz ob (.tup (xs ++ ys)))))
theorem op_catF : OpR X (binaryOp .Add) (rCatF X.K) := by
  intro pins s σ H x y v u Q I rx ry h
  obtain ⟨a, b, xs, ys, rfl, rfl, ha, hb, hx, hz, q1, q2⟩ := h
  cases rx
  cases ry
  obtain ⟨its, r1, p1, _⟩ := I.tuple ha
  obtain ⟨its2, r2, p2, _⟩ := I.tuple hb
  refine HT.cat_tup p1 p2 (fun z => hx (r1.nil_iff.mp z)) (fun z => ⟨.ref a, H, I, rfl, q1 (r2.nil_iff.mp z)⟩) (fun z => ?_) (by rw [← r1.length, ← r2.length]; exact hz)
  exact ⟨.ref s.heap.objs.size, _, I.laid (t' := s.toks) (fun b ob q => Heap.get?_push_of_some _ q) (Nat.le_refl _) (tupF_ok (r1.append r2) (by rw [List.length_append]; exact hz)), rfl, q2 (fun w => z (r2.nil_iff.mpr w)) _ _ rfl (I.hok.fresh (Nat.le_refl _))⟩
/-- a method of such a tuple -/
def tBMT (r : V → List V → Hp → VK → Prop) (to : TE) (t : TA) : TE := fun σ H Q => to σ H fun x H1 => (∃ a xs, x = .ref a ∧ TupF H1 a xs) ∧ t σ H1 fun vs H2 => r x vs H2 Q
theorem pe_bmT {name : Str} {id : String} {o e : Expr} {to : TE} {r : V → List V → Hp → VK → Prop} (pa : PlainAttrs "tuple") (slot : Slot "tuple" name id) (hty : typeOf (.builtin id) = pure (.type "method_descriptor")) (hm : MtR X id r) (ho : PE X o to) (ha : PA X (e :: es) t)
    (hbase : attributeBase o name X.env (eval o X.env) = eval o X.env := by rfl)
    (hfew : ((backTo cpos (starEach (e :: es) X.env)).all (fun x => !x.1) && (backToKw cpos (keywordEach [] X.env)).all (fun x => x.1.isSome)
      && decide ((e :: es).length + ([] : List Keyword).length + (if ([] : List Keyword).isEmpty then 0 else 1) < 30)) = true := by rfl)
    (hline : (apos.endLine == cpos.line) = true := by rfl) (hs : starEach (e :: es) X.env = (false, eval e X.env) :: starEach es X.env := by rfl) (hplain : (backTo cpos (starEach es X.env)).any (·.1) = false := by rfl) :
    PE X (.Call (.Attribute o name apos) (e :: es) [] cpos) (tBMT r to t) := by
  refine ⟨fun pins s σ H Q I h => ?_⟩
  refine wpAny_Call_method_late hbase hfew hline rfl (thn (ho.run pins s σ H _ I h) fun v s1 ⟨x, H1, I1, r1, ty, q1⟩ => ?_)
  obtain ⟨a, xs, rfl, ob, hd, hH⟩ := ty
  cases r1
  obtain ⟨hob, hz, its, rv, hit⟩ := I1.hok a _ hH
  obtain ⟨o', ho', hc, _⟩ := hit
  rw [hob] at ho'
  cases ho'
  refine ⟨"tuple", id, pa, slot, hty, ⟨ob, hob, hc⟩, fun b e => ?_, ?_⟩
  · cases e
    exact ⟨ob, hob, hd⟩
  have hA := ha.run cpos pins s1 σ H1 _ I1 q1
  rw [hs] at hA ⊢
  refine Calls.callWith_builtin (by show (false || (backTo cpos (starEach es X.env)).any (·.1)) = false; rw [hplain] <;> rfl) (Calls.evalArgs_plain ?_)
  exact thn hA fun us s2 ⟨vs, H2, I2, r2, q2⟩ => hm pins s2 σ H2 (.ref a) vs (.ref a) us Q I2 rfl r2 q2
end
end SK
namespace SK
open PySem PySem.Spec PyProof.Rows L2
/-! ### a def of the module, by its name -/
structure Dn (K : PySem.W.Frag) (mg : Str → Option Value) (x : Str) (st : Stmt) (ps : List Str) : Prop where
  ex : ∃ (f : Addr) (fd : FuncData), L2.Fun K x x st f fd ∧ mg x = some (.ref f) ∧ Binds K fd ps []
abbrev Cal := @C8.Cal
section
variable {P : Program} {w : World} {K : PySem.W.Frag} {mg : Str → Option Value} {base : Heap}
theorem Dn.cal {x : Str} {st : Stmt} {N ps : List Str} {k : Nat} {sp : Sp} (D : Dn K mg x st ps) (S : FnScope N ps (defScope st)) (len : ∀ vs H Q E, sp vs H Q E → vs.length = ps.length)
    (hbody : ∀ (f : Addr) (cdv : Value) (A : Around) (outer : List Env) (s : Shared) (H : Hp) (vs : List V) (Q : VK) (E : XK), Room k (A.deeper (envOfC x (defScope st) s.heap.objs.size f cdv)) → sp vs H Q E →
      ∃ t, PSs (cxOf CX0 P w K mg base N x (defScope st) f cdv A outer s H E).nox (defBody st) t ∧ t { nx := fun _ H' => Q .non H', rt := Q } (start N vs) H) : C8.Cal P w K mg base (k + 1) x sp [] := by
  obtain ⟨f, fd, F, hm, b⟩ := D.ex
  exact ⟨f, fd, ps, [], F.ok S len (fun cdv A outer s H vs Q E => hbody f cdv A outer s H vs Q E), hm, F.kp, b, .nil⟩
theorem dn_mk {x : Str} {st : Stmt} {ps : List Str} {h : Heap} {f : Addr} {oc : Value} {od an : Option Addr} {osl : Array (Option Value)} {kV doc pm cd ct : Value} (X : K.In h) (G : h.Ns mainGlobals mg)
    (a : PySem.W.nsIn K mainGlobals x = some (some (.ref f))) (l : K.lookup f = some ⟨oc, od, .func (PySem.W.fnOf x x (defArgs st) (defBody st) (defScope st) .none kV doc pm an cd ct), osl⟩)
    (c : PySem.W.codeIn K cd x = true) (k : PySem.W.keepIn K (.ref f) = true)
    (hb : ∀ (kV doc pm : Value) (an : Option Addr) (cdv ct : Value) (us : List Value), us.length = ps.length → bindArgs (PySem.W.fnOf x x (defArgs st) (defBody st) (defScope st) .none kV doc pm an cdv ct) ⟨us, []⟩ = pure (ps.zip us)) : Dn K mg x st ps := by
  have F := fun_mk (st := st) l c k
  exact ⟨f, _, F, PySem.W.mg_of X G a, F.binds hb⟩
end
/-! ### heaps -/
theorem Same.new {H : Hp} {p : Addr} (h : H p = none) (o : HO) : Same H (upd H p o) := fun b u q => by rw [upd_ne (ne_of_none q h)]; exact q
theorem sz {n : Nat} (h : n ≤ 100000) : n ≤ sizeLine := Nat.le_trans h (by decide)
theorem szl {n : Nat} (h : n < 100000) : n < sizeLine := Nat.lt_of_lt_of_le h (by decide)
/-! ### texts -/
def tx (l : List Nat) : Str := ⟨l.toArray⟩
theorem tx_len (l : List Nat) : (tx l).length = l.length := by
  show l.toArray.size = _
  rw [List.size_toArray]
theorem tx_list (l : List Nat) : (tx l).cps.toList = l := rfl
theorem tx_app (a b : List Nat) : tx a ++ tx b = tx (a ++ b) := by
  show Str.append _ _ = _
  unfold Str.append tx
  simp
theorem cut_tx (l : List Nat) (lo hi : Option Int) : cutS (tx l) lo hi = tx ((l.drop (HT.sIx l.length 0 lo)).take (HT.sIx l.length l.length hi - HT.sIx l.length 0 lo)) := by
  unfold cutS
  rw [tx_len, tx_list]
  rfl
theorem cut_to {l : List Nat} {n : Nat} (h : n ≤ l.length) : cutS (tx l) none (some (n : Int)) = tx (l.take n) := by
  rw [cut_tx, HT.sIx_none, HT.sIx_nat, List.drop_zero, Nat.sub_zero, Nat.min_eq_left h]
theorem cut_from {l : List Nat} {n : Nat} (h : n ≤ l.length) : cutS (tx l) (some (n : Int)) none = tx (l.drop n) := by
  rw [cut_tx, HT.sIx_none, HT.sIx_nat, Nat.min_eq_left h, List.take_of_length_le (by rw [List.length_drop]; exact Nat.le_refl _)]
theorem cut_back {l : List Nat} {n : Nat} (h : 0 < n) : cutS (tx l) (some (-(n : Int))) none = tx (l.drop (l.length - n)) := by
  have e : HT.sIx l.length 0 (some (-(n : Int))) = l.length - n := by
    show (if (-(n : Int)) < 0 then (-(n : Int) + (l.length : Int)).toNat else _) = _
    rw [if_pos (by omega)]
    omega
  rw [cut_tx, HT.sIx_none, e, List.take_of_length_le (by rw [List.length_drop]; exact Nat.le_refl _)]
theorem cut_but {l : List Nat} {n : Nat} (h : 0 < n) : cutS (tx l) none (some (-(n : Int))) = tx (l.take (l.length - n)) := by
  have e : HT.sIx l.length l.length (some (-(n : Int))) = l.length - n := by
    show (if (-(n : Int)) < 0 then (-(n : Int) + (l.length : Int)).toNat else _) = _
    rw [if_pos (by omega)]
    omega
  rw [cut_tx, HT.sIx_none, e, List.drop_zero, Nat.sub_zero]
theorem str_inj {a b : List Nat} : tx a = tx b ↔ a = b := by
  constructor
  · intro h
    have := congrArg (fun z : Str => z.cps.toList) h
    simpa [tx] using this
  · intro h
    rw [h]
/-! ### plans and triples as they stand in the heap -/
structure Pl where
  room : Nat
  many : Nat
  pr : List Int
  pop : Int
structure Pl.Ok (p : Pl) : Prop where
  r1 : 1 ≤ p.room
  r9 : p.room ≤ 9
  m1 : 1 ≤ p.many
  m4 : p.many ≤ 4
  pl : p.pr.length = p.many
  pr : ∀ x ∈ p.pr, 1 ≤ x ∧ x ≤ 99
  q1 : 1 ≤ p.pop
  q9 : p.pop ≤ 99
/-- the prices as they stand -/
def PrAt (H : Hp) (b : Addr) (p : Pl) : Prop := TupF H b (p.pr.map V.int)
theorem PrAt.mono {H H' : Hp} {b : Addr} {p : Pl} (h : PrAt H b p) (s : Same H H') : PrAt H' b p := by
  obtain ⟨ob, h1, h2⟩ := h
  exact ⟨ob, h1, s _ _ h2⟩
theorem PrAt.ty {K : PySem.W.Frag} {H : Hp} {b : Addr} {p : Pl} (h : PrAt H b p) : TyX K H (.ref b) (.type "tuple") := by
  obtain ⟨ob, h1, h2⟩ := h
  exact .fTuple h2
def PlanAt (H : Hp) (v : V) (p : Pl) : Prop := ∃ a b, v = .ref a ∧ H a = some (.tup [.int p.room, .int p.many, .ref b, .int p.pop]) ∧ PrAt H b p
def TripAt (H : Hp) (v : V) (t : Tr) : Prop := ∃ a, v = .ref a ∧ H a = some (.tup [.int t.g, .int t.k, .str (tx t.l)])
theorem PlanAt.mono {H H' : Hp} {v : V} {p : Pl} (h : PlanAt H v p) (e : Same H H') : PlanAt H' v p := by
  obtain ⟨a, b, h1, h2, h3⟩ := h
  exact ⟨a, b, h1, e _ _ h2, h3.mono e⟩
theorem TripAt.mono {H H' : Hp} {v : V} {t : Tr} (h : TripAt H v t) (e : Same H H') : TripAt H' v t := by
  obtain ⟨a, h1, h2⟩ := h
  exact ⟨a, h1, e _ _ h2⟩
theorem signs_len (n : Nat) : (signs n).length ≤ 4 := by
  unfold signs
  rw [List.length_take]
  exact Nat.min_le_right ..
/-! ### kinds of values -/
theorem ty_int {K : PySem.W.Frag} {H : Hp} {i : Int} : TyX K H (.int i) (.type "int") := .base (.int i)
theorem ty_str {K : PySem.W.Frag} {H : Hp} {i : Str} : TyX K H (.str i) (.type "str") := .base (.str i)
theorem ty_tup {K : PySem.W.Frag} {H : Hp} {a : Addr} {xs : List V} (h : H a = some (.tup xs)) : TyX K H (.ref a) (.type "tuple") := .base (.tup h)
theorem ty_lst {K : PySem.W.Frag} {H : Hp} {a : Addr} {xs : List V} (h : H a = some (.lst xs)) : TyX K H (.ref a) (.type "list") := .base (.lst h)
theorem ty_non {K : PySem.W.Frag} {H : Hp} : TyX K H .non (.type "NoneType") := .base .non
theorem ty_bl {K : PySem.W.Frag} {H : Hp} {b : Bool} : TyX K H (.bl b) (.type "bool") := .base (.bl b)
theorem k_int_int : kitB "int" "int" = some true := by decide +kernel
theorem k_int_bool : kitB "int" "bool" = some false := by decide +kernel
theorem k_int_tup : kitB "int" "tuple" = some false := by decide +kernel
theorem k_int_lst : kitB "int" "list" = some false := by decide +kernel
theorem k_str_str : kitB "str" "str" = some true := by decide +kernel
theorem k_str_bool : kitB "str" "bool" = some false := by decide +kernel
theorem k_str_int : kitB "str" "int" = some false := by decide +kernel
theorem k_tup_tup : kitB "tuple" "tuple" = some true := by decide +kernel
theorem k_tup_int : kitB "tuple" "int" = some false := by decide +kernel
theorem k_tup_bool : kitB "tuple" "bool" = some false := by decide +kernel
theorem k_tup_str : kitB "tuple" "str" = some false := by decide +kernel
theorem k_tup_lst : kitB "tuple" "list" = some false := by decide +kernel
theorem k_lst_lst : kitB "list" "list" = some true := by decide +kernel
theorem k_lst_tup : kitB "list" "tuple" = some false := by decide +kernel
theorem k_lst_int : kitB "list" "int" = some false := by decide +kernel
theorem k_lst_bool : kitB "list" "bool" = some false := by decide +kernel
theorem k_lst_str : kitB "list" "str" = some false := by decide +kernel
theorem k_bool_bool : kitB "bool" "bool" = some true := by decide +kernel
theorem k_bool_int : kitB "bool" "int" = some true := by decide +kernel
theorem b_isi : bootBuiltins "isinstance" = some (.builtin "isinstance") := by decide +kernel
theorem b_all : bootBuiltins "all" = some (.builtin "all") := by decide +kernel
theorem b_max : bootBuiltins "max" = some (.builtin "max") := by decide +kernel
theorem b_min : bootBuiltins "min" = some (.builtin "min") := by decide +kernel
theorem b_bool : bootBuiltins "bool" = some (.type "bool") := by decide +kernel
theorem b_int : bootBuiltins "int" = some (.type "int") := by decide +kernel
theorem b_str : bootBuiltins "str" = some (.type "str") := by decide +kernel
theorem b_tuple : bootBuiltins "tuple" = some (.type "tuple") := by decide +kernel
theorem b_list : bootBuiltins "list" = some (.type "list") := by decide +kernel
theorem s_empty : ("" : Str) = tx [] := by decide +kernel
theorem s_minus : ("-" : Str) = tx [45] := by decide +kernel
theorem s_abcd : ("abcd" : Str) = tx [97, 98, 99, 100] := by decide +kernel
/-! ### promises of the program's defs -/
/-- hands back this value, all that stood stands -/
def giv (v : V) (H : Hp) (Q : VK) : Prop := ∀ H', Same H H' → Q v H'
def spSigns : Sp := fun vs H Q _ => ∃ v p, vs = [v] ∧ PlanAt H v p ∧ p.Ok ∧ giv (.str (tx (signs p.many))) H Q
def spNum : Sp := fun vs H Q _ => ∃ i lo hi : Int, vs = [.int i, .int lo, .int hi] ∧ giv (.bl (decide (lo ≤ i ∧ i ≤ hi))) H Q
def spTextOf : Sp := fun vs H Q _ => ∃ l sg : List Nat, vs = [.str (tx l), .str (tx sg)] ∧ l.length ≤ 10000 ∧ giv (.bl (decide (∀ c ∈ l, c ∈ sg))) H Q
def spChPlan : Sp := fun vs H Q _ => ∃ v p, vs = [v] ∧ PlanAt H v p ∧ p.Ok ∧ giv .non H Q
def spPrices : Sp := fun vs H Q _ => ∃ b p, vs = [.ref b, .int (p : Pl).many] ∧ PrAt H b p ∧ p.Ok ∧ giv (.bl true) H Q
def spChStack : Sp := fun vs H Q _ => ∃ v p l, vs = [v, .str (tx l)] ∧ PlanAt H v p ∧ p.Ok ∧ l.length ≤ p.room ∧ (∀ c ∈ l, c ∈ signs p.many) ∧ giv .non H Q
def spChSteps : Sp := fun vs H Q _ => ∃ v p l, vs = [v, .str (tx l)] ∧ PlanAt H v p ∧ p.Ok ∧ l.length ≤ 10000 ∧ (∀ c ∈ l, c = 45 ∨ c ∈ signs p.many) ∧ giv .non H Q
def spChTriple : Sp := fun vs H Q _ => ∃ v p u t, vs = [v, u] ∧ PlanAt H v p ∧ p.Ok ∧ TripAt H u t ∧ TrOk p.room p.many t ∧ giv .non H Q
def spIsTriple : Sp := fun vs H Q _ => ∃ v p u t, vs = [v, u] ∧ PlanAt H v p ∧ p.Ok ∧ TripAt H u t ∧ TrOk p.room p.many t ∧ giv (.bl true) H Q
/-- a new triple -/
def givT (t : Tr) (H : Hp) (Q : VK) : Prop := ∀ H' v, Same H H' → TripAt H' v t → Q v H'
def spWithout : Sp := fun vs H Q _ => ∃ (l : List Nat) (n : Nat), vs = [.str (tx l), .int n] ∧ l.length ≤ 10000 ∧ giv (.str (tx (ct n l))) H Q
def spTop : Sp := fun vs H Q _ => ∃ (l : List Nat) (n : Nat), vs = [.str (tx l), .int n] ∧ l.length ≤ 10000 ∧ giv (.str (tx (tp n l))) H Q
def spBehind : Sp := fun vs H Q _ => ∃ u t l, vs = [u, .str (tx l)] ∧ TripAt H u t ∧ l.length ≤ 1000 ∧ (t : Tr).l.length ≤ 1000 ∧ giv (.str (tx (tby t l))) H Q
def spTidied : Sp := fun vs H Q _ => ∃ (g k : Nat) (l : List Nat), vs = [.int g, .int k, .str (tx l)] ∧ givT (tidy g k l) H Q
def spJoin : Sp := fun vs H Q _ => ∃ a b t u, vs = [a, b] ∧ TripAt H a t ∧ TripAt H b u ∧ (t : Tr).l.length ≤ 1000 ∧ (u : Tr).l.length ≤ 1000 ∧ givT (tjoin t u) H Q
def spUnt : Sp := fun vs H Q _ => ∃ v p, vs = [v] ∧ PlanAt H v p ∧ givT (tunt p.room) H Q
def spTStep : Sp := fun vs H Q _ => ∃ v p c, vs = [v, .str (tx [c])] ∧ PlanAt H v p ∧ p.Ok ∧ givT (tstep p.room c) H Q
def spTSteps : Sp := fun vs H Q _ => ∃ v p l, vs = [v, .str (tx l)] ∧ PlanAt H v p ∧ p.Ok ∧ (∀ c ∈ l, c = 45 ∨ c ∈ signs p.many) ∧ givT (ttold p.room l) H Q
def spToldSteps : Sp := fun vs H Q _ => ∃ v p l, vs = [v, .str (tx l)] ∧ PlanAt H v p ∧ p.Ok ∧ l.length ≤ 10000 ∧ (∀ c ∈ l, c = 45 ∨ c ∈ signs p.many) ∧ givT (ttold p.room l) H Q
def spDone : Sp := fun vs H Q _ => ∃ v p u t l, vs = [v, u, .str (tx l)] ∧ PlanAt H v p ∧ p.Ok ∧ TripAt H u t ∧ TrOk p.room p.many t ∧ l.length ≤ p.room ∧ (∀ c ∈ l, c ∈ signs p.many) ∧ giv (.str (tx (tby t l))) H Q
end SK
namespace SK
open PySem PySem.Spec PyProof.Rows L2
/-! ### the box of draws -/
structure BoxAt (H : Hp) (p q : Addr) (ns : List Int) (z : Int) : Prop where
  b : H p = some (.lst [.ref q, .int z])
  l : H q = some (.lst (ns.map V.int))
  ne : p ≠ q
/-- all but the box stands -/
def Keep (p q : Addr) (H H' : Hp) : Prop := ∀ b o, H b = some o → b ≠ p → b ≠ q → H' b = some o
theorem Keep.refl (p q : Addr) (H : Hp) : Keep p q H H := fun _ _ h _ _ => h
theorem Keep.trans {p q : Addr} {H H1 H2 : Hp} (a : Keep p q H H1) (b : Keep p q H1 H2) : Keep p q H H2 := fun c o h h1 h2 => b c o (a c o h h1 h2) h1 h2
theorem Keep.of {p q : Addr} {H H' : Hp} (s : Same H H') : Keep p q H H' := fun b o h _ _ => s b o h
theorem BoxAt.mono {H H' : Hp} {p q : Addr} {ns : List Int} {z : Int} (h : BoxAt H p q ns z) (s : Same H H') : BoxAt H' p q ns z := ⟨s _ _ h.b, s _ _ h.l, h.ne⟩
theorem BoxAt.no {H : Hp} {p q : Addr} {ns : List Int} {z : Int} (h : BoxAt H p q ns z) {b : Addr} {o : HO} (e : H b = some o) (ho : ∀ xs, o ≠ .lst xs) : b ≠ p ∧ b ≠ q :=
  ⟨ne_of e h.b (ho _), ne_of e h.l (ho _)⟩
theorem Keep.tup {p q : Addr} {H H' : Hp} {ns : List Int} {z : Int} (k : Keep p q H H') (h : BoxAt H p q ns z) {a : Addr} {xs : List V} (e : H a = some (.tup xs)) : H' a = some (.tup xs) :=
  k a _ e (h.no e fun _ => by intro z; cases z).1 (h.no e fun _ => by intro z; cases z).2
theorem PlanAt.keep {p q : Addr} {H H' : Hp} {ns : List Int} {z : Int} {v : V} {pl : Pl} (h : PlanAt H v pl) (b : BoxAt H p q ns z) (k : Keep p q H H') : PlanAt H' v pl := by
  obtain ⟨a, c, e, h1, h2⟩ := h
  obtain ⟨ob, h3, h4⟩ := h2
  exact ⟨a, c, e, k.tup b h1, ob, h3, k _ _ h4 (b.no h4 fun _ => by intro z; cases z).1 (b.no h4 fun _ => by intro z; cases z).2⟩
theorem TripAt.keep {p q : Addr} {H H' : Hp} {ns : List Int} {z : Int} {v : V} {t : Tr} (h : TripAt H v t) (b : BoxAt H p q ns z) (k : Keep p q H H') : TripAt H' v t := by
  obtain ⟨a, e, h1⟩ := h
  exact ⟨a, e, k.tup b h1⟩
/-- a list made later than the box -/
theorem BoxAt.fresh {H : Hp} {p q D : Addr} {ns : List Int} {z : Int} (h : BoxAt H p q ns z) (e : H D = none) : D ≠ p ∧ D ≠ q := by
  constructor
  · intro x
    subst x
    rw [h.b] at e
    cases e
  · intro x
    subst x
    rw [h.l] at e
    cases e
/-- a draw -/
def spTake : Sp := fun vs H Q _ => ∃ (p q : Addr) (ns : List Int) (z n : Int), vs = [.ref p, .int n] ∧ BoxAt H p q ns z ∧ 0 < n ∧ n < 2 ^ 9000 ∧
  ∀ (r : Int) (ns' : List Int) (z' : Int) (H' : Hp), 0 ≤ r → r < n → BoxAt H' p q ns' z' → Keep p q H H' → Q (.int r) H'
theorem shp : ∀ ns : List Int, SeqAt.shaped (.list (ns.map PyData.int)) = true := by
  have h1 : ∀ ns : List Int, PyData.canLayAll0 (ns.map PyData.int) = true := fun ns => by
    induction ns with
    | nil => rfl
    | cons n r ih =>
      show (PyData.canLay0 (.int n) && PyData.canLayAll0 (r.map PyData.int)) = true
      rw [ih]
      rfl
  have h2 : ∀ ns : List Int, PyData.depthAll (ns.map PyData.int) = 0 := fun ns => by
    induction ns with
    | nil => rfl
    | cons n r ih =>
      show max (PyData.depth (.int n)) (PyData.depthAll (r.map PyData.int)) = 0
      rw [ih]
      rfl
  intro ns
  show (PyData.canLayAll0 (ns.map PyData.int) && decide (PyData.depthAll (ns.map PyData.int) + 1 ≤ 64)) = true
  rw [h1, h2]
  rfl
theorem dpAll {K : PySem.W.Frag} {H : Hp} : ∀ ns : List Int, DpAll K H (ns.map V.int) (ns.map PyData.int)
  | [] => .nil
  | n :: r => .cons (.int n) (dpAll r)
theorem fmod_in {x n : Int} (h : 0 < n) : 0 ≤ x.fmod n ∧ x.fmod n < n := by
  rw [Int.fmod_eq_emod_of_nonneg _ (by omega)]
  exact ⟨Int.emod_nonneg _ (by omega), Int.emod_lt_of_pos _ h⟩
theorem divW {i j : Int} (h : 0 < j) (h2 : j < 2 ^ 9000) : CDivW i j := wide_div (b := 9000) h (by
  have e : ((j.natAbs : Nat) : Int) = j := Int.natAbs_of_nonneg (by omega)
  have e2 : ((j.natAbs : Nat) : Int) < ((2 ^ 9000 : Nat) : Int) := by
    rw [e]
    exact_mod_cast h2
  exact Int.ofNat_lt.mp e2) (by decide) (by decide)
theorem p9 {n : Int} (h : n ≤ 2000000000000000000) : n < 2 ^ 9000 := Int.lt_of_le_of_lt h (by decide +kernel)
theorem at0 {x : V} {r : List V} : atI (x :: r) 0 = some x := atI_nat (j := 0) rfl
theorem ix0 {x : V} {r : List V} : ixN (x :: r).length 0 = some 0 := by
  unfold ixN
  simp
theorem sq0 {x : V} {r : List V} : seqIndex? 0 (x :: r).length = some 0 := by
  unfold seqIndex?
  simp
/-! ### what is alike -/
def Sc : V → Prop
  | .non => True
  | .bl _ => True
  | .int _ => True
  | .str _ => True
  | _ => False
def Alk (H : Hp) : Nat → V → V → Prop
  | 0, _, _ => False
  | n + 1, v, w => (v = w ∧ Sc v) ∨ ∃ (a b : Addr) (xs ys : List V), v = .ref a ∧ w = .ref b ∧ ((H a = some (.tup xs) ∧ H b = some (.tup ys)) ∨ (H a = some (.lst xs) ∧ H b = some (.lst ys))) ∧ xs.length = ys.length ∧ ys.length ≤ 10000 ∧
      ∀ (i : Nat) (x y : V), xs[i]? = some x → ys[i]? = some y → Alk H n x y
theorem Alk.mono {H H' : Hp} (s : Same H H') : ∀ {n : Nat} {v w : V}, Alk H n v w → Alk H' n v w
  | 0, _, _, h => h
  | n + 1, v, w, h => by
    rcases h with h | ⟨a, b, xs, ys, h1, h2, h3, h4, h5, h6⟩
    · exact .inl h
    · refine .inr ⟨a, b, xs, ys, h1, h2, ?_, h4, h5, fun i x y e1 e2 => Alk.mono s (h6 i x y e1 e2)⟩
      rcases h3 with ⟨u1, u2⟩ | ⟨u1, u2⟩
      · exact .inl ⟨s _ _ u1, s _ _ u2⟩
      · exact .inr ⟨s _ _ u1, s _ _ u2⟩
def spAlike (n : Nat) : Sp := fun vs H Q _ => ∃ v w, vs = [v, w] ∧ Alk H n v w ∧ giv (.bl true) H Q
theorem alk_trip {H : Hp} {n : Nat} {v w : V} {t : Tr} (hv : TripAt H v t) (hw : TripAt H w t) : Alk H (n + 2) v w := by
  obtain ⟨a, rfl, ha⟩ := hv
  obtain ⟨b, rfl, hb⟩ := hw
  refine .inr ⟨a, b, _, _, rfl, rfl, .inl ⟨ha, hb⟩, rfl, by show 3 ≤ 10000; decide, fun i x y e1 e2 => ?_⟩
  have e : x = y := Option.some.inj (e1.symm.trans e2)
  subst e
  refine .inl ⟨rfl, ?_⟩
  match i, e1 with
  | 0, e1 => cases e1; trivial
  | 1, e1 => cases e1; trivial
  | 2, e1 => cases e1; trivial
/-! ### the law's own promises -/
def spLStep : Sp := fun vs H Q _ => ∃ v p l c, vs = [v, .str (tx l), .str (tx [c])] ∧ PlanAt H v p ∧ p.Ok ∧ l.length ≤ 1000 ∧ giv (.str (tx (step p.room l c))) H Q
def spLGone : Sp := fun vs H Q _ => ∃ v p l s, vs = [v, .str (tx l), .str (tx s)] ∧ PlanAt H v p ∧ p.Ok ∧ l.length ≤ p.room ∧ giv (.str (tx (gone p.room l s))) H Q
def spLPlan : Sp := fun vs H Q _ => ∃ (p q : Addr) (ns : List Int) (z : Int) (r s : Nat), vs = [.ref p, .int r, .int s] ∧ BoxAt H p q ns z ∧ 1 ≤ r ∧ r ≤ 9 ∧ 1 ≤ s ∧ s ≤ 4 ∧
  ∀ (pl : Pl) (v : V) (ns' : List Int) (z' : Int) (H' : Hp), pl.Ok → pl.room ≤ r → pl.many ≤ s → PlanAt H' v pl → BoxAt H' p q ns' z' → Keep p q H H' → Q v H'
def spLSteps : Sp := fun vs H Q _ => ∃ (p q : Addr) (ns : List Int) (z : Int) (v : V) (pl : Pl) (n : Nat), vs = [.ref p, v, .int n] ∧ BoxAt H p q ns z ∧ PlanAt H v pl ∧ pl.Ok ∧ n ≤ 1000 ∧
  ∀ (l : List Nat) (ns' : List Int) (z' : Int) (H' : Hp), l.length ≤ n → (∀ c ∈ l, c = 45 ∨ c ∈ signs pl.many) → BoxAt H' p q ns' z' → Keep p q H H' → Q (.str (tx l)) H'
def spLSigns : Sp := fun vs H Q _ => ∃ (p q : Addr) (ns : List Int) (z : Int) (v : V) (pl : Pl) (n : Nat), vs = [.ref p, v, .int n] ∧ BoxAt H p q ns z ∧ PlanAt H v pl ∧ pl.Ok ∧ n ≤ 1000 ∧
  ∀ (l : List Nat) (ns' : List Int) (z' : Int) (H' : Hp), l.length ≤ n → (∀ c ∈ l, c ∈ signs pl.many) → BoxAt H' p q ns' z' → Keep p q H H' → Q (.str (tx l)) H'
def spLTriple : Sp := fun vs H Q _ => ∃ (p q : Addr) (ns : List Int) (z : Int) (v : V) (pl : Pl), vs = [.ref p, v] ∧ BoxAt H p q ns z ∧ PlanAt H v pl ∧ pl.Ok ∧
  ∀ (t : Tr) (u : V) (ns' : List Int) (z' : Int) (H' : Hp), TrOk pl.room pl.many t → TripAt H' u t → BoxAt H' p q ns' z' → Keep p q H H' → Q u H'
def spLBy : Sp := fun vs H Q _ => ∃ u t l, vs = [u, .str (tx l)] ∧ TripAt H u t ∧ l.length ≤ 1000 ∧ (t : Tr).l.length ≤ 1000 ∧ giv (.str (tx (tby t l))) H Q
def spLBegun (K : PySem.W.Frag) : Sp := fun vs H Q _ => ∃ (a : Addr) (ns : List Int), vs = [.ref a] ∧ SqL K H a (ns.map V.int) ∧ ns.length ≤ 63 ∧
  ∀ (p q : Addr) (z : Int) (H' : Hp), Same H H' → BoxAt H' p q ns z → H p = none → H q = none → Q (.ref p) H'
/-- all texts of so many signs, in turn; all stacks -/
def lay (many : Nat) : Nat → List (List Nat)
  | 0 => [[]]
  | n + 1 => (lay many n).flatMap fun l => (signs many).map fun c => l ++ [c]
def stk (many : Nat) : Nat → List (List Nat)
  | 0 => [[]]
  | n + 1 => stk many n ++ lay many (n + 1)
def spLStacks : Sp := fun vs H Q _ => ∃ v p, vs = [v] ∧ PlanAt H v p ∧ p.Ok ∧ ∀ (D : Addr) (H' : Hp), Same H H' → H D = none → H' D = some (.lst ((stk p.many p.room).map fun l => V.str (tx l))) → Q (.ref D) H'
def spLaw (K : PySem.W.Frag) : Sp := fun vs H Q _ => ∃ (a : Addr) (ns : List Int), vs = [.ref a] ∧ SqL K H a (ns.map V.int) ∧ ns.length ≤ 63 ∧ ∀ H', Q (.bl true) H'
theorem lay_len (many : Nat) : ∀ n, (lay many n).length = (signs many).length ^ n
  | 0 => rfl
  | n + 1 => by
    have h : ∀ xs : List (List Nat), (xs.flatMap fun l => (signs many).map fun c => l ++ [c]).length = xs.length * (signs many).length := fun xs => by
      induction xs with
      | nil => simp
      | cons x r ih =>
        rw [List.flatMap_cons, List.length_append, ih, List.length_map, List.length_cons, Nat.succ_mul, Nat.add_comm]
    show ((lay many n).flatMap _).length = _
    rw [h, lay_len many n, Nat.pow_succ]
theorem lay_le (many : Nat) {n : Nat} (h : n ≤ 9) : (lay many n).length ≤ 262144 := by
  rw [lay_len]
  have h1 := signs_len many
  calc (signs many).length ^ n ≤ 4 ^ n := Nat.pow_le_pow_left h1 n
    _ ≤ 4 ^ 9 := Nat.pow_le_pow_right (by decide) h
    _ = 262144 := by decide
theorem stk_le (many : Nat) : ∀ {n : Nat}, n ≤ 9 → (stk many n).length ≤ (n + 1) * 262144
  | 0, _ => by show 1 ≤ _; omega
  | n + 1, h => by
    have h1 := stk_le many (n := n) (by omega)
    have h2 := lay_le many h
    show (stk many n ++ lay many (n + 1)).length ≤ _
    rw [List.length_append]
    omega
theorem lay_mem {many : Nat} : ∀ {n : Nat} {l : List Nat}, l ∈ lay many n → l.length = n ∧ ∀ c ∈ l, c ∈ signs many
  | 0, l, h => by
    have e : l = [] := by simpa [lay] using h
    subst e
    exact ⟨rfl, fun c hc => by simp at hc⟩
  | n + 1, l, h => by
    obtain ⟨k, hk, h2⟩ := List.mem_flatMap.mp (show l ∈ (lay many n).flatMap _ from h)
    obtain ⟨c, hc, rfl⟩ := List.mem_map.mp h2
    obtain ⟨h3, h4⟩ := lay_mem hk
    refine ⟨by simp [h3], fun d hd => ?_⟩
    rcases List.mem_append.mp hd with h5 | h5
    · exact h4 d h5
    · have : d = c := by simpa using h5
      subst this
      exact hc
theorem stk_mem {many : Nat} : ∀ {n : Nat} {l : List Nat}, l ∈ stk many n → l.length ≤ n ∧ ∀ c ∈ l, c ∈ signs many
  | 0, l, h => by
    have := lay_mem (many := many) (n := 0) h
    exact ⟨Nat.le_of_eq this.1, this.2⟩
  | n + 1, l, h => by
    rcases List.mem_append.mp (show l ∈ stk many n ++ lay many (n + 1) from h) with h1 | h1
    · have := stk_mem h1
      exact ⟨by omega, this.2⟩
    · have := lay_mem h1
      exact ⟨Nat.le_of_eq this.1, this.2⟩
end SK
/-! works, their triples, their steps; the mathematics -/
namespace SK
/-! ### triples are told apart by what they do -/
theorem len_tby (t : Tr) (x : List Nat) : (tby t x).length = min t.k (x.length - t.g) + t.l.length := by
  simp only [tby]
  rw [List.length_append, len_tp, len_ct]
theorem tr_ext {room many : Nat} {t u : Tr} (a : TrOk room many t) (b : TrOk room many u) {c : Nat} (h : ∀ s, s ≤ room → tby t (List.replicate s c) = tby u (List.replicate s c)) : t = u := by
  have h0 := h 0 (Nat.zero_le _)
  have hl : t.l = u.l := by
    simp only [tby, List.replicate_zero, ct, tp, List.length_nil, List.take_nil, List.drop_nil, List.nil_append] at h0
    exact h0
  have hn : ∀ s, s ≤ room → min t.k (s - t.g) = min u.k (s - u.g) := fun s hs => by
    have e := congrArg List.length (h s hs)
    rw [len_tby, len_tby, List.length_replicate, hl] at e
    omega
  have := a.gk
  have := b.gk
  have ht := a.z
  have hu := b.z
  have hk : t.k = u.k := by
    have e := hn room (Nat.le_refl _)
    omega
  have hg : t.g = u.g := by
    by_cases h1 : t.k = 0
    · have := ht h1
      have := hu (by omega)
      omega
    · have e1 := hn (t.g + 1) (by omega)
      have e2 := hn (u.g + 1) (by omega)
      omega
  cases t
  cases u
  simp only at hl hk hg
  subst hl hk hg
  rfl
theorem tjoin_assoc {room many : Nat} {t u v : Tr} (a : TrOk room many t) (b : TrOk room many u) (c : TrOk room many v) : tjoin (tjoin t u) v = tjoin t (tjoin u v) :=
  tr_ext (c := 97) (tjoin_ok (tjoin_ok a b) c) (tjoin_ok a (tjoin_ok b c)) fun s _ => by rw [tby_join, tby_join, tby_join, tby_join]
theorem tby_len {room many : Nat} {t : Tr} (a : TrOk room many t) (x : List Nat) : (tby t x).length ≤ room := by
  rw [len_tby]
  have := a.kl
  omega
theorem tunt_left {room many : Nat} {t : Tr} (a : TrOk room many t) : tjoin (tunt room) t = t :=
  tr_ext (c := 97) (tjoin_ok tunt_ok a) a fun s hs => by rw [tby_join, tby_unt (by rw [List.length_replicate]; exact hs)]
theorem tunt_right {room many : Nat} {t : Tr} (a : TrOk room many t) : tjoin t (tunt room) = t :=
  tr_ext (c := 97) (tjoin_ok a tunt_ok) a fun s hs => by rw [tby_join, tby_unt (tby_len a _)]
/-- done so often -/
def tpw (room : Nat) (t : Tr) : Nat → Tr
  | 0 => tunt room
  | n + 1 => tjoin (tpw room t n) t
theorem tpw_ok {room many : Nat} {t : Tr} (a : TrOk room many t) : ∀ n, TrOk room many (tpw room t n)
  | 0 => tunt_ok
  | n + 1 => tjoin_ok (tpw_ok a n) a
theorem tpw_add {room many : Nat} {t : Tr} (a : TrOk room many t) (m : Nat) : ∀ n, tpw room t (m + n) = tjoin (tpw room t m) (tpw room t n)
  | 0 => (tunt_right (tpw_ok a m)).symm
  | n + 1 => by
    show tjoin (tpw room t (m + n)) t = tjoin (tpw room t m) (tjoin (tpw room t n) t)
    rw [tpw_add a m n, tjoin_assoc (tpw_ok a m) (tpw_ok a n) a]
theorem tpw_one {room many : Nat} {t : Tr} (a : TrOk room many t) : tpw room t 1 = t := tunt_left a
theorem tpw_two {room many : Nat} {t : Tr} (a : TrOk room many t) : ∀ n, tpw room (tjoin t t) n = tpw room t (2 * n)
  | 0 => rfl
  | n + 1 => by
    have e : 2 * (n + 1) = 2 * n + 2 := by omega
    have e2 : tpw room t 2 = tjoin t t := by
      show tjoin (tpw room t 1) t = _
      rw [tpw_one a]
    rw [e, tpw_add a, e2]
    show tjoin (tpw room (tjoin t t) n) (tjoin t t) = _
    rw [tpw_two a n]
/-- one turn of the doubling -/
theorem tpw_odd {room many : Nat} {t u : Tr} {n : Nat} (a : TrOk room many t) (b : TrOk room many u) (h : n % 2 = 1) : tjoin u (tpw room t n) = tjoin (tjoin u t) (tpw room (tjoin t t) (n / 2)) := by
  have e : n = 1 + 2 * (n / 2) := by omega
  rw [tpw_two a, tjoin_assoc b a (tpw_ok a _)]
  congr 1
  have e3 : tpw room t n = tpw room t (1 + 2 * (n / 2)) := by rw [← e]
  rw [e3, tpw_add a, tpw_one a]
theorem tpw_even {room many : Nat} {t u : Tr} {n : Nat} (a : TrOk room many t) (h : n % 2 = 0) : tjoin u (tpw room t n) = tjoin u (tpw room (tjoin t t) (n / 2)) := by
  rw [tpw_two a]
  have e : n = 2 * (n / 2) := by omega
  have e3 : tpw room t n = tpw room t (2 * (n / 2)) := by rw [← e]
  rw [e3]
/-! ### steps one behind another -/
theorem ttold_from {room many : Nat} {u : Tr} (hr : 1 ≤ room) (b : TrOk room many u) : ∀ (s : List Nat), (∀ c ∈ s, c = 45 ∨ c ∈ signs many) → ∀ t, TrOk room many t → s.foldl (fun t c => tjoin t (tstep room c)) (tjoin u t) = tjoin u (s.foldl (fun t c => tjoin t (tstep room c)) t)
  | [], _, _, _ => rfl
  | c :: r, hs, t, a => by
    have hc := tstep_ok (room := room) (many := many) hr (hs c (List.mem_cons_self ..))
    have ih := ttold_from hr b r (fun d hd => hs d (List.mem_cons_of_mem _ hd)) (tjoin t (tstep room c)) (tjoin_ok a hc)
    show r.foldl _ (tjoin (tjoin u t) (tstep room c)) = tjoin u (r.foldl _ (tjoin t (tstep room c)))
    rw [tjoin_assoc b a hc, ih]
theorem ttold_ok' {room many : Nat} (hr : 1 ≤ room) {s : List Nat} (hs : ∀ c ∈ s, c = 45 ∨ c ∈ signs many) : TrOk room many (ttold room s) := ttold_ok hr s _ tunt_ok hs
theorem ttold_app {room many : Nat} (hr : 1 ≤ room) {a b : List Nat} (ha : ∀ c ∈ a, c = 45 ∨ c ∈ signs many) (hb : ∀ c ∈ b, c = 45 ∨ c ∈ signs many) : ttold room (a ++ b) = tjoin (ttold room a) (ttold room b) := by
  have e : ttold room (a ++ b) = b.foldl (fun t c => tjoin t (tstep room c)) (ttold room a) := by
    unfold ttold
    rw [List.foldl_append]
  have h := ttold_from hr (ttold_ok' hr ha) b hb (tunt room) tunt_ok
  rw [tunt_right (ttold_ok' hr ha)] at h
  rw [e, h]
  rfl
theorem ttold_one {room many c : Nat} (hr : 1 ≤ room) (hc : c = 45 ∨ c ∈ signs many) : ttold room [c] = tstep room c := by
  show tjoin (tunt room) (tstep room c) = _
  exact tunt_left (tstep_ok (many := many) hr hc)
/-! ### works -/
mutual
inductive W where
  | push (c : Nat)
  | pop
  | row (ws : Ws)
  | times (n : Nat) (w : W)
inductive Ws where
  | nil
  | cons (w : W) (r : Ws)
end
mutual
def W.siz : W → Nat
  | .push _ => 1
  | .pop => 1
  | .row ws => 1 + ws.siz
  | .times _ w => 1 + w.siz
def Ws.siz : Ws → Nat
  | .nil => 0
  | .cons w r => w.siz + r.siz
end
mutual
def W.dep : W → Nat
  | .push _ => 1
  | .pop => 1
  | .row ws => 1 + ws.dep
  | .times _ w => 1 + w.dep
def Ws.dep : Ws → Nat
  | .nil => 0
  | .cons w r => max w.dep r.dep
end
mutual
def W.lng : W → List Nat
  | .push c => [c]
  | .pop => [45]
  | .row ws => ws.lng
  | .times n w => (List.replicate n w.lng).flatten
def Ws.lng : Ws → List Nat
  | .nil => []
  | .cons w r => w.lng ++ r.lng
end
mutual
/-- how many steps -/
def W.cnt : W → Nat
  | .push _ => 1
  | .pop => 1
  | .row ws => ws.cnt
  | .times n w => n * w.cnt
def Ws.cnt : Ws → Nat
  | .nil => 0
  | .cons w r => w.cnt + r.cnt
end
mutual
def W.prc (f : Nat → Int) : W → Int
  | .push c => f c
  | .pop => f 45
  | .row ws => ws.prc f
  | .times n w => (n : Int) * w.prc f
def Ws.prc (f : Nat → Int) : Ws → Int
  | .nil => 0
  | .cons w r => w.prc f + r.prc f
end
mutual
def W.tri (room : Nat) : W → Tr
  | .push c => tstep room c
  | .pop => tstep room 45
  | .row ws => ws.tri room (tunt room)
  | .times n w => tpw room (w.tri room) n
def Ws.tri (room : Nat) : Ws → Tr → Tr
  | .nil, t => t
  | .cons w r, t => r.tri room (tjoin t (w.tri room))
end
def Ws.len : Ws → Nat
  | .nil => 0
  | .cons _ r => r.len + 1
mutual
/-- can be: signs of the plan, counts to 10 ** 18 -/
def W.Can (many : Nat) : W → Prop
  | .push c => c ∈ signs many
  | .pop => True
  | .row ws => ws.len ≤ 1000 ∧ ws.Can many
  | .times n w => n ≤ 1000000000000000000 ∧ w.Can many
def Ws.Can (many : Nat) : Ws → Prop
  | .nil => True
  | .cons w r => w.Can many ∧ r.Can many
end
mutual
/-- few in a row, nothing done more often than so -/
def W.Tm (t : Nat) : W → Prop
  | .push _ => True
  | .pop => True
  | .row ws => ws.len ≤ 3 ∧ ws.Tm t
  | .times n w => n ≤ t ∧ w.Tm t
def Ws.Tm (t : Nat) : Ws → Prop
  | .nil => True
  | .cons w r => w.Tm t ∧ r.Tm t
end
mutual
theorem W.cnt_le : ∀ w : W, w.Tm 4 → w.cnt ≤ 4 ^ w.dep
  | .push _, _ => by show 1 ≤ 4 ^ 1; decide
  | .pop, _ => by show 1 ≤ 4 ^ 1; decide
  | .row ws, h => by
    have e := Ws.cnt_le ws h.2
    have e2 : ws.len * 4 ^ ws.dep ≤ 3 * 4 ^ ws.dep := Nat.mul_le_mul_right _ h.1
    show ws.cnt ≤ 4 ^ (1 + ws.dep)
    rw [Nat.pow_add]
    omega
  | .times n w, h => by
    have e := W.cnt_le w h.2
    show n * w.cnt ≤ 4 ^ (1 + w.dep)
    rw [Nat.pow_add]
    exact Nat.mul_le_mul h.1 e
theorem Ws.cnt_le : ∀ ws : Ws, ws.Tm 4 → ws.cnt ≤ ws.len * 4 ^ ws.dep
  | .nil, _ => Nat.zero_le _
  | .cons w r, h => by
    have e1 := W.cnt_le w h.1
    have e2 := Ws.cnt_le r h.2
    show w.cnt + r.cnt ≤ (r.len + 1) * 4 ^ (max w.dep r.dep)
    have p1 : 4 ^ w.dep ≤ 4 ^ (max w.dep r.dep) := Nat.pow_le_pow_right (by decide) (Nat.le_max_left ..)
    have p2 : r.len * 4 ^ r.dep ≤ r.len * 4 ^ (max w.dep r.dep) := Nat.mul_le_mul_left _ (Nat.pow_le_pow_right (by decide) (Nat.le_max_right ..))
    rw [Nat.succ_mul]
    omega
end
mutual
theorem W.siz_pos : ∀ w : W, 1 ≤ w.siz
  | .push _ => Nat.le_refl _
  | .pop => Nat.le_refl _
  | .row ws => by show 1 ≤ 1 + ws.siz; omega
  | .times _ w => by show 1 ≤ 1 + w.siz; omega
end
mutual
theorem W.dep_pos : ∀ w : W, 1 ≤ w.dep
  | .push _ => Nat.le_refl _
  | .pop => Nat.le_refl _
  | .row ws => by show 1 ≤ 1 + ws.dep; omega
  | .times _ w => by show 1 ≤ 1 + w.dep; omega
end
mutual
theorem W.tri_ok {room many : Nat} (hr : 1 ≤ room) : ∀ w : W, w.Can many → TrOk room many (w.tri room)
  | .push c, h => tstep_ok hr (.inr h)
  | .pop, _ => tstep_ok hr (.inl rfl)
  | .row ws, h => Ws.tri_ok hr ws _ h.2 tunt_ok
  | .times n w, h => tpw_ok (W.tri_ok hr w h.2) n
theorem Ws.tri_ok {room many : Nat} (hr : 1 ≤ room) : ∀ (ws : Ws) (t : Tr), ws.Can many → TrOk room many t → TrOk room many (ws.tri room t)
  | .nil, _, _, a => a
  | .cons w r, t, h, a => Ws.tri_ok hr r _ h.2 (tjoin_ok a (W.tri_ok hr w h.1))
end
mutual
theorem W.lng_in {many : Nat} : ∀ w : W, w.Can many → ∀ c ∈ w.lng, c = 45 ∨ c ∈ signs many
  | .push c, h, d, hd => by
    have e : d = c := by simpa [W.lng] using hd
    subst e
    exact .inr h
  | .pop, _, d, hd => .inl (by simpa [W.lng] using hd)
  | .row ws, h, d, hd => Ws.lng_in ws h.2 d hd
  | .times n w, h, d, hd => by
    obtain ⟨l, hl, hd⟩ := List.mem_flatten.mp (show d ∈ (List.replicate n w.lng).flatten from hd)
    have e := List.eq_of_mem_replicate hl
    subst e
    exact W.lng_in w h.2 d hd
theorem Ws.lng_in {many : Nat} : ∀ ws : Ws, ws.Can many → ∀ c ∈ ws.lng, c = 45 ∨ c ∈ signs many
  | .nil, _, d, hd => by simp [Ws.lng] at hd
  | .cons w r, h, d, hd => by
    rcases List.mem_append.mp (show d ∈ w.lng ++ r.lng from hd) with h1 | h1
    · exact W.lng_in w h.1 d h1
    · exact Ws.lng_in r h.2 d h1
end
mutual
theorem W.tri_lng {room many : Nat} (hr : 1 ≤ room) : ∀ w : W, w.Can many → w.tri room = ttold room w.lng
  | .push c, h => (ttold_one (many := many) hr (.inr h)).symm
  | .pop, _ => (ttold_one (many := many) hr (.inl rfl)).symm
  | .row ws, h => by
    have e := Ws.tri_lng (many := many) hr ws (tunt room) h.2 tunt_ok
    rw [tunt_left (ttold_ok' hr (Ws.lng_in ws h.2))] at e
    exact e
  | .times n w, h => by
    have e := W.tri_lng hr w h.2
    have hin := W.lng_in w h.2
    have hok := W.tri_ok (room := room) hr w h.2
    show tpw room (w.tri room) n = ttold room (List.replicate n w.lng).flatten
    have k : ∀ n, tpw room (w.tri room) n = ttold room (List.replicate n w.lng).flatten ∧ ∀ c ∈ (List.replicate n w.lng).flatten, c = 45 ∨ c ∈ signs many := fun n => by
      induction n with
      | zero => exact ⟨rfl, fun c hc => by simp at hc⟩
      | succ n ih =>
        have e2 : (List.replicate (n + 1) w.lng).flatten = (List.replicate n w.lng).flatten ++ w.lng := by
          rw [List.replicate_succ', List.flatten_append]
          simp
        have h2 : ∀ c ∈ (List.replicate (n + 1) w.lng).flatten, c = 45 ∨ c ∈ signs many := fun c hc => by
          rw [e2] at hc
          rcases List.mem_append.mp hc with h3 | h3
          · exact ih.2 c h3
          · exact hin c h3
        refine ⟨?_, h2⟩
        show tjoin (tpw room (w.tri room) n) (w.tri room) = _
        rw [e2, ttold_app (many := many) hr ih.2 hin, ih.1, ← e]
    exact (k n).1
theorem Ws.tri_lng {room many : Nat} (hr : 1 ≤ room) : ∀ (ws : Ws) (t : Tr), ws.Can many → TrOk room many t → ws.tri room t = tjoin t (ttold room ws.lng)
  | .nil, t, _, a => (tunt_right a).symm
  | .cons w r, t, h, a => by
    have e1 := W.tri_lng (many := many) hr w h.1
    have o1 := W.tri_ok (room := room) hr w h.1
    have e2 := Ws.tri_lng hr r (tjoin t (w.tri room)) h.2 (tjoin_ok a o1)
    show r.tri room (tjoin t (w.tri room)) = tjoin t (ttold room (w.lng ++ r.lng))
    rw [e2, ttold_app (many := many) hr (W.lng_in w h.1) (Ws.lng_in r h.2), ← e1, tjoin_assoc a o1 (ttold_ok' hr (Ws.lng_in r h.2))]
end
mutual
theorem W.cnt_lng : ∀ w : W, w.cnt = w.lng.length
  | .push _ => rfl
  | .pop => rfl
  | .row ws => Ws.cnt_lng ws
  | .times n w => by
    have e := W.cnt_lng w
    show n * w.cnt = (List.replicate n w.lng).flatten.length
    rw [List.length_flatten, List.map_replicate, List.sum_replicate_nat, e]
theorem Ws.cnt_lng : ∀ ws : Ws, ws.cnt = ws.lng.length
  | .nil => rfl
  | .cons w r => by
    have e1 := W.cnt_lng w
    have e2 := Ws.cnt_lng r
    show w.cnt + r.cnt = (w.lng ++ r.lng).length
    rw [List.length_append, e1, e2]
end
/-- what steps cost -/
def sprc (f : Nat → Int) (l : List Nat) : Int := (l.map f).sum
theorem sprc_app (f : Nat → Int) (a b : List Nat) : sprc f (a ++ b) = sprc f a + sprc f b := by
  unfold sprc
  rw [List.map_append, List.sum_append]
mutual
theorem W.prc_lng (f : Nat → Int) : ∀ w : W, w.prc f = sprc f w.lng
  | .push c => by simp [W.prc, W.lng, sprc]
  | .pop => by simp [W.prc, W.lng, sprc]
  | .row ws => Ws.prc_lng f ws
  | .times n w => by
    have e := W.prc_lng f w
    show (n : Int) * w.prc f = sprc f (List.replicate n w.lng).flatten
    have k : ∀ n : Nat, (n : Int) * w.prc f = sprc f (List.replicate n w.lng).flatten := fun n => by
      induction n with
      | zero => simp [sprc]
      | succ n ih =>
        rw [List.replicate_succ, List.flatten_cons, sprc_app, ← ih, ← e, Int.natCast_succ, Int.add_mul, Int.one_mul, Int.add_comm]
    exact k n
theorem Ws.prc_lng (f : Nat → Int) : ∀ ws : Ws, ws.prc f = sprc f ws.lng
  | .nil => rfl
  | .cons w r => by
    have e1 := W.prc_lng f w
    have e2 := Ws.prc_lng f r
    show w.prc f + r.prc f = sprc f (w.lng ++ r.lng)
    rw [sprc_app, e1, e2]
end
end SK
namespace SK
open PySem PySem.Spec PyProof.Rows L2
/-! ### two rules: list(text), text * int -/
theorem call_listS {X : Cx} (hc : X.calm = true) : CallR X (.type "list") (fun xs H Q => ∃ z : Str, xs = [.str z] ∧ z.length ≤ sizeLine ∧ ∀ l, H l = none → Q (.ref l) (upd H l (.lst (z.cps.toList.map fun c => V.str ⟨#[c]⟩)))) := by
  intro pins s σ H xs us Q I r h
  obtain ⟨z, rfl, hz, q⟩ := h
  obtain ⟨u, rfl, rx⟩ := vals1 r
  obtain ⟨t, rfl⟩ := rx
  have hn : z.cps.size ≤ sizeLine := hz
  refine PySem.call_list_str (I.ok.hd hc) z t (fun h' tk acc' c' kp e hi => ?_) hn
  have hlen : z.cps.toList.length = z.cps.size := Array.length_toList
  have rv : Vals (z.cps.toList.map fun c => V.str ⟨#[c]⟩) acc'.toList := by
    obtain ⟨h1, h2⟩ := hi
    have hx : ∀ (cs : List Nat) (as : List Value), as.length = cs.length → (∀ (j : Nat) (v : Value), as[j]? = some v → ∃ c u, cs[j]? = some c ∧ v = .str ⟨#[c]⟩ u) → Vals (cs.map fun c => V.str ⟨#[c]⟩) as := by
      intro cs
      induction cs with
      | nil =>
        intro as hl _
        have e : as = [] := List.length_eq_zero_iff.mp hl
        subst e
        exact .nil
      | cons c r ih =>
        intro as hl ha
        cases as with
        | nil => cases hl
        | cons v vs =>
          obtain ⟨c', u, e1, e2⟩ := ha 0 v rfl
          cases e1
          subst e2
          exact .cons ⟨u, rfl⟩ (ih vs (Nat.succ.inj hl) fun j v hj => ha (j + 1) v hj)
    refine hx _ _ ?_ fun j v hj => ?_
    · rw [Array.length_toList, h1, hlen]
    · rw [Array.getElem?_toList] at hj
      obtain ⟨c, u, e1, e2⟩ := h2 j v hj
      exact ⟨c, u, by rw [Array.getElem?_toList]; exact e1, e2⟩
  exact ⟨.ref s.heap.objs.size, _, I.laid (t' := tk) kp (Nat.le_refl _) (show ObjOk X.prog X.w _ h' _ (.lst _) from ⟨by rw [List.length_map, hlen]; exact hn, acc'.toList, c', rv, by simpa using e⟩), rfl, q _ (I.hok.fresh (Nat.le_refl _))⟩
theorem mulOk {z : Str} {n : Nat} (h : z.length * n ≤ 16777216) (hn : n ≤ 1000000000000000000) : MulOk z (n : Int) := by
  have hp : (2 : Int) ^ 63 = 9223372036854775808 := by decide
  refine ⟨?_, fun h1 h2 => ?_, fun h1 h2 => ?_⟩
  · rw [hp]
    rw [Bool.or_eq_false_iff]
    exact ⟨decide_eq_false (by omega), decide_eq_false (by omega)⟩
  · rw [hp]
    have h' : (z.length : Int) * (n : Int) ≤ 16777216 := by
      have h0 := Int.ofNat_le.mpr h
      rw [Int.natCast_mul] at h0
      exact h0
    have h3 : (z.length : Int) ≤ (9223372036854775808 - 1 : Int) / (n : Int) := Int.le_ediv_of_mul_le (by omega) (by omega)
    omega
  · rw [Int.toNat_natCast]
    unfold Builtin.Str.tooLong
    have h4 : z.length * n ≤ sizeLine := h
    simp only [gt_iff_lt, decide_eq_false_iff_not]
    omega
theorem foldl_reps (l : List Nat) : ∀ (n : Nat) (acc : Array Nat), (List.replicate n l.toArray).foldl (· ++ ·) acc = acc ++ ((List.replicate n l).flatten).toArray
  | 0, acc => by simp
  | n + 1, acc => by
    rw [List.replicate_succ, List.foldl_cons, foldl_reps l n, List.replicate_succ, List.flatten_cons]
    simp
theorem mul_tx (l : List Nat) (n : Nat) : Txt.mul (tx l) (n : Int) = tx (List.replicate n l).flatten := by
  unfold Txt.mul
  by_cases h : (n : Int) < 1
  · have e : n = 0 := by omega
    subst e
    rw [if_pos h]
    rfl
  · rw [if_neg h]
    by_cases h2 : ((n : Int) == 1 || (tx l).length == 0) = true
    · rw [if_pos h2]
      rw [Bool.or_eq_true] at h2
      rcases h2 with h2 | h2
      · have e : n = 1 := by
          have := eq_of_beq h2
          omega
        subst e
        simp
      · have e : l = [] := by
          have := eq_of_beq h2
          rw [tx_len] at this
          exact List.length_eq_zero_iff.mp this
        subst e
        simp
    · rw [if_neg h2]
      have e := foldl_reps l n #[]
      show (⟨(List.replicate (n : Int).toNat l.toArray).foldl (· ++ ·) #[]⟩ : Str) = _
      rw [Int.toNat_natCast, e]
      simp [tx]
/-- text * int -/
def rMulS : R2 := fun x y H Q => ∃ (l : List Nat) (n : Nat), x = .str (tx l) ∧ y = .int n ∧ l.length * n ≤ 16777216 ∧ n ≤ 1000000000000000000 ∧ Q (.str (tx (List.replicate n l).flatten)) H
theorem op_mulS {X : Cx} : OpR X (binaryOp .Mult) rMulS := by
  intro pins s σ H x y v u Q I rx ry h
  obtain ⟨l, n, rfl, rfl, hz, hn, q⟩ := h
  obtain ⟨t, rfl⟩ := rx
  obtain ⟨t', rfl⟩ := ry
  refine SB.mul (mulOk (by rw [tx_len]; exact hz) hn) fun t'' k => ?_
  rw [mul_tx]
  exact ⟨.str (tx (List.replicate n l).flatten), H, I.tok _, ⟨_, rfl⟩, q⟩
theorem join_tx (ls : List (List Nat)) : Txt.join (tx []) (ls.map tx) = tx ls.flatten := by
  have h : ∀ (r : List (List Nat)) (acc : Array Nat), (r.map tx).foldl (fun (acc : Array Nat) (p : Str) => acc ++ (tx []).cps ++ p.cps) acc = acc ++ r.flatten.toArray := by
    intro r
    induction r with
    | nil =>
      intro acc
      simp
    | cons x r ih =>
      intro acc
      rw [List.map_cons, List.foldl_cons, ih, List.flatten_cons]
      simp [tx]
  show Builtin.Str.glued (tx []) (ls.map tx) = _
  unfold Builtin.Str.glued
  cases ls with
  | nil => rfl
  | cons x r =>
    have e := h r x.toArray
    show (⟨(r.map tx).foldl (fun (acc : Array Nat) (p : Str) => acc ++ (tx []).cps ++ p.cps) x.toArray⟩ : Str) = _
    rw [e]
    simp [tx]
theorem b_sum : bootBuiltins "sum" = some (.builtin "sum") := by decide +kernel
/-! ### tuples stand -/
structure Tups (H H' : Hp) : Prop where
  t : ∀ (b : Addr) (xs : List V), H b = some (.tup xs) → H' b = some (.tup xs)
  f : ∀ (b : Addr) (o : Obj) (xs : List V), H b = some (.frz o (.tup xs)) → H' b = some (.frz o (.tup xs))
instance {H H' : Hp} : CoeFun (Tups H H') (fun _ => ∀ (b : Addr) (xs : List V), H b = some (.tup xs) → H' b = some (.tup xs)) := ⟨Tups.t⟩
theorem Tups.refl (H : Hp) : Tups H H := ⟨fun _ _ h => h, fun _ _ _ h => h⟩
theorem Tups.of {H H' : Hp} (s : Same H H') : Tups H H' := ⟨fun b xs h => s b _ h, fun b o xs h => s b _ h⟩
theorem Tups.trans {H H1 H2 : Hp} (a : Tups H H1) (b : Tups H1 H2) : Tups H H2 := ⟨fun c xs h => b.t c xs (a.t c xs h), fun c o xs h => b.f c o xs (a.f c o xs h)⟩
theorem Keep.tups {p q : Addr} {H H' : Hp} {ns : List Int} {z : Int} (k : Keep p q H H') (B : BoxAt H p q ns z) : Tups H H' := ⟨fun _ _ h => k.tup B h, fun b o xs h => k _ _ h (B.no h fun _ => by intro z; cases z).1 (B.no h fun _ => by intro z; cases z).2⟩
theorem Tups.lst {H : Hp} {a : Addr} {xs ys : List V} (h : H a = some (.lst xs)) : Tups H (upd H a (.lst ys)) := ⟨fun b zs e => by
  rw [upd_ne (ne_of e h (by intro z; cases z))]
  exact e, fun b o zs e => by
  rw [upd_ne (ne_of e h (by intro z; cases z))]
  exact e⟩
theorem PlanAt.tups {H H' : Hp} {v : V} {p : Pl} (h : PlanAt H v p) (e : Tups H H') : PlanAt H' v p := by
  obtain ⟨a, b, h1, h2, ob, h3, h4⟩ := h
  exact ⟨a, b, h1, e.t _ _ h2, ob, h3, e.f _ _ _ h4⟩
theorem TripAt.tups {H H' : Hp} {v : V} {t : Tr} (h : TripAt H v t) (e : Tups H H') : TripAt H' v t := by
  obtain ⟨a, h1, h2⟩ := h
  exact ⟨a, h1, e _ _ h2⟩
/-! ### works as they stand in the heap -/
mutual
def WAt (H : Hp) : W → V → Prop
  | .push c, v => ∃ a, v = .ref a ∧ H a = some (.tup [.str "push", .str (tx [c])])
  | .pop, v => ∃ a, v = .ref a ∧ H a = some (.tup [.str "pop"])
  | .row ws, v => ∃ a b vs, v = .ref a ∧ H a = some (.tup [.str "row", .ref b]) ∧ H b = some (.tup vs) ∧ WsAt H ws vs
  | .times n w, v => ∃ a u, v = .ref a ∧ H a = some (.tup [.str "times", .int (n : Int), u]) ∧ WAt H w u
def WsAt (H : Hp) : Ws → List V → Prop
  | .nil, vs => vs = []
  | .cons w r, vs => ∃ v s, vs = v :: s ∧ WAt H w v ∧ WsAt H r s
end
mutual
theorem WAt.tups {H H' : Hp} (e : Tups H H') : ∀ {w : W} {v : V}, WAt H w v → WAt H' w v
  | .push c, v, h => by
    obtain ⟨a, h1, h2⟩ := h
    exact ⟨a, h1, e _ _ h2⟩
  | .pop, v, h => by
    obtain ⟨a, h1, h2⟩ := h
    exact ⟨a, h1, e _ _ h2⟩
  | .row ws, v, h => by
    obtain ⟨a, b, vs, h1, h2, h3, h4⟩ := h
    exact ⟨a, b, vs, h1, e _ _ h2, e _ _ h3, WsAt.tups e h4⟩
  | .times n w, v, h => by
    obtain ⟨a, u, h1, h2, h3⟩ := h
    exact ⟨a, u, h1, e _ _ h2, WAt.tups e h3⟩
theorem WsAt.tups {H H' : Hp} (e : Tups H H') : ∀ {ws : Ws} {vs : List V}, WsAt H ws vs → WsAt H' ws vs
  | .nil, vs, h => h
  | .cons w r, vs, h => by
    obtain ⟨v, s, h1, h2, h3⟩ := h
    exact ⟨v, s, h1, WAt.tups e h2, WsAt.tups e h3⟩
end
def Ws.list : Ws → List W
  | .nil => []
  | .cons w r => w :: r.list
theorem Ws.len_list : ∀ ws : Ws, ws.list.length = ws.len
  | .nil => rfl
  | .cons w r => by
    show r.list.length + 1 = r.len + 1
    rw [r.len_list]
theorem WsAt.len {H : Hp} : ∀ {ws : Ws} {vs : List V}, WsAt H ws vs → vs.length = ws.list.length
  | .nil, vs, h => by
    cases h
    rfl
  | .cons w r, vs, h => by
    obtain ⟨v, s, rfl, h2, h3⟩ := h
    show s.length + 1 = r.list.length + 1
    rw [h3.len]
theorem WsAt.get {H : Hp} : ∀ {ws : Ws} {vs : List V}, WsAt H ws vs → ∀ {i : Nat} {x : V}, vs[i]? = some x → ∃ w, ws.list[i]? = some w ∧ WAt H w x
  | .nil, vs, h, i, x, e => by
    cases h
    cases e
  | .cons w r, vs, h, i, x, e => by
    obtain ⟨v, s, rfl, h2, h3⟩ := h
    cases i with
    | zero =>
      cases e
      exact ⟨w, rfl, h2⟩
    | succ i => exact h3.get (i := i) e
theorem Ws.siz_list : ∀ ws : Ws, ws.siz = (ws.list.map W.siz).sum
  | .nil => rfl
  | .cons w r => by
    show w.siz + r.siz = (w.siz :: r.list.map W.siz).sum
    rw [List.sum_cons, r.siz_list]
theorem Ws.cnt_list : ∀ ws : Ws, ws.cnt = (ws.list.map W.cnt).sum
  | .nil => rfl
  | .cons w r => by
    show w.cnt + r.cnt = (w.cnt :: r.list.map W.cnt).sum
    rw [List.sum_cons, r.cnt_list]
theorem Ws.prc_list (f : Nat → Int) : ∀ ws : Ws, ws.prc f = (ws.list.map (W.prc f)).sum
  | .nil => rfl
  | .cons w r => by
    show w.prc f + r.prc f = (w.prc f :: r.list.map (W.prc f)).sum
    rw [List.sum_cons, r.prc_list]
theorem Ws.lng_list : ∀ ws : Ws, ws.lng = (ws.list.map W.lng).flatten
  | .nil => rfl
  | .cons w r => by
    show w.lng ++ r.lng = (w.lng :: r.list.map W.lng).flatten
    rw [List.flatten_cons, r.lng_list]
theorem Ws.tri_list (room : Nat) : ∀ (ws : Ws) (t : Tr), ws.tri room t = ws.list.foldl (fun t w => tjoin t (w.tri room)) t
  | .nil, _ => rfl
  | .cons w r, t => r.tri_list room (tjoin t (w.tri room))
theorem Ws.dep_mem : ∀ {ws : Ws} {w : W}, w ∈ ws.list → w.dep ≤ ws.dep
  | .nil, w, h => by cases h
  | .cons w' r, w, h => by
    show w.dep ≤ max w'.dep r.dep
    rcases List.mem_cons.mp h with h | h
    · subst h
      exact Nat.le_max_left ..
    · exact Nat.le_trans (Ws.dep_mem h) (Nat.le_max_right ..)
theorem Ws.can_mem {many : Nat} : ∀ {ws : Ws} {w : W}, ws.Can many → w ∈ ws.list → w.Can many
  | .nil, w, _, h => by cases h
  | .cons w' r, w, c, h => by
    rcases List.mem_cons.mp h with h | h
    · subst h
      exact c.1
    · exact Ws.can_mem c.2 h
theorem Ws.tm_mem {t : Nat} : ∀ {ws : Ws} {w : W}, ws.Tm t → w ∈ ws.list → w.Tm t
  | .nil, w, _, h => by cases h
  | .cons w' r, w, c, h => by
    rcases List.mem_cons.mp h with h | h
    · subst h
      exact c.1
    · exact Ws.tm_mem c.2 h
theorem Ws.cnt_mem : ∀ {ws : Ws} {w : W}, w ∈ ws.list → w.cnt ≤ ws.cnt
  | .nil, w, h => by cases h
  | .cons w' r, w, h => by
    show w.cnt ≤ w'.cnt + r.cnt
    rcases List.mem_cons.mp h with h | h
    · subst h
      omega
    · have := Ws.cnt_mem h
      omega
theorem s_push : ¬ (("push" : Str) = "pop") := by decide +kernel
theorem s_pu_ro : ¬ (("push" : Str) = "row") := by decide +kernel
theorem s_pu_ti : ¬ (("push" : Str) = "times") := by decide +kernel
theorem s_po_pu : ¬ (("pop" : Str) = "push") := by decide +kernel
theorem s_po_ro : ¬ (("pop" : Str) = "row") := by decide +kernel
theorem s_po_ti : ¬ (("pop" : Str) = "times") := by decide +kernel
theorem s_ro_pu : ¬ (("row" : Str) = "push") := by decide +kernel
theorem s_ro_po : ¬ (("row" : Str) = "pop") := by decide +kernel
theorem s_ro_ti : ¬ (("row" : Str) = "times") := by decide +kernel
theorem s_ti_pu : ¬ (("times" : Str) = "push") := by decide +kernel
theorem s_ti_po : ¬ (("times" : Str) = "pop") := by decide +kernel
theorem s_ti_ro : ¬ (("times" : Str) = "row") := by decide +kernel
theorem vne {a b : Str} (h : ¬ a = b) : ¬ (V.str a = V.str b) := fun z => by
  injection z with z
  exact h z
theorem sign_at {M : Nat} {r : Int} (hm : M ≤ 4) (r0 : 0 ≤ r) (r1 : r < (M : Int)) : ∃ c : Nat, c ∈ signs M ∧ atI (("abcd" : Str).cps.toList) r = some c := by
  obtain ⟨R, rfl⟩ : ∃ R : Nat, r = (R : Int) := ⟨r.toNat, by omega⟩
  have hR : R < M := by omega
  have h3 : R < ([97, 98, 99, 100] : List Nat).length := by show R < 4; omega
  refine ⟨([97, 98, 99, 100] : List Nat)[R], ?_, ?_⟩
  · unfold signs
    exact List.mem_take_iff_getElem.mpr ⟨R, by rw [Nat.lt_min]; exact ⟨hR, h3⟩, rfl⟩
  · exact atI_nat (by rw [s_abcd]; exact List.getElem?_eq_getElem h3)
/-- what a work is made of -/
def W.within : W → Ws
  | .push _ => .nil
  | .pop => .nil
  | .row ws => ws
  | .times _ w => .cons w .nil
structure WOk (many : Nat) (w : W) : Prop where
  can : w.Can many
  siz : w.siz ≤ 60
  dep : w.dep ≤ 8
/-- what a step costs -/
def cst (p : Pl) (c : Nat) : Int := if c = 45 then p.pop else p.pr.getD (c - 97) 0
/-! ### promises -/
def spAlone : Sp := fun vs H Q _ => ∃ (w : W) (v : V) (D : Addr) (many : Nat), vs = [v, .ref D] ∧ WAt H w v ∧ H D = some (.lst ((signs many).map fun c => V.str (tx [c]))) ∧ w.Can many ∧ giv (.bl true) H Q
def spWithin : Sp := fun vs H Q _ => ∃ (w : W) (v : V), vs = [v] ∧ WAt H w v ∧ ∀ (H' : Hp) (u : Addr) (xs : List V), Same H H' → H' u = some (.tup xs) → WsAt H' w.within xs → Q (.ref u) H'
def spChWork : Sp := fun vs H Q _ => ∃ v p u w, vs = [v, u] ∧ PlanAt H v p ∧ p.Ok ∧ WAt H w u ∧ WOk p.many w ∧ giv .non H Q
def spTri (n : Nat) : Sp := fun vs H Q _ => ∃ v p u w, vs = [v, u] ∧ PlanAt H v p ∧ p.Ok ∧ WAt H w u ∧ w.Can p.many ∧ w.dep ≤ n ∧ givT (w.tri p.room) H Q
def spPower : Sp := fun vs H Q _ => ∃ (v : V) (p : Pl) (u : V) (t : Tr) (n : Nat), vs = [v, u, .int n] ∧ PlanAt H v p ∧ p.Ok ∧ TripAt H u t ∧ TrOk p.room p.many t ∧ n ≤ 1000000000000000000 ∧ givT (tpw p.room t n) H Q
def spTold : Sp := fun vs H Q _ => ∃ v p u w, vs = [v, u] ∧ PlanAt H v p ∧ p.Ok ∧ WAt H w u ∧ WOk p.many w ∧ givT (w.tri p.room) H Q
def spRun : Sp := fun vs H Q _ => ∃ v p u w l, vs = [v, u, .str (tx l)] ∧ PlanAt H v p ∧ p.Ok ∧ WAt H w u ∧ WOk p.many w ∧ l.length ≤ p.room ∧ (∀ c ∈ l, c ∈ signs p.many) ∧ giv (.str (tx (tby (w.tri p.room) l))) H Q
def spPStep : Sp := fun vs H Q _ => ∃ v p c, vs = [v, .str (tx [c])] ∧ PlanAt H v p ∧ p.Ok ∧ (c = 45 ∨ c ∈ signs p.many) ∧ giv (.int (cst p c)) H Q
def spPWork (n : Nat) : Sp := fun vs H Q _ => ∃ v p u w, vs = [v, u] ∧ PlanAt H v p ∧ p.Ok ∧ WAt H w u ∧ w.Can p.many ∧ w.dep ≤ n ∧ giv (.int (w.prc (cst p))) H Q
def spCost : Sp := fun vs H Q _ => ∃ v p u w, vs = [v, u] ∧ PlanAt H v p ∧ p.Ok ∧ WAt H w u ∧ WOk p.many w ∧ giv (.int (w.prc (cst p))) H Q
def spLTuples (n : Nat) : Sp := fun vs H Q _ => ∃ u w many, vs = [u] ∧ WAt H w u ∧ (w : W).Can many ∧ w.dep ≤ n ∧ giv (.int ((w : W).siz : Int)) H Q
def spLCount (n : Nat) : Sp := fun vs H Q _ => ∃ u w many, vs = [u] ∧ WAt H w u ∧ (w : W).Can many ∧ w.dep ≤ n ∧ giv (.int ((w : W).cnt : Int)) H Q
def spLLong (n : Nat) : Sp := fun vs H Q _ => ∃ u w many, vs = [u] ∧ WAt H w u ∧ (w : W).Can many ∧ w.dep ≤ n ∧ w.Tm 4 ∧ w.dep ≤ 8 ∧ giv (.str (tx w.lng)) H Q
def spLWork (n : Nat) : Sp := fun vs H Q _ => ∃ (p q : Addr) (ns : List Int) (z : Int) (v : V) (pl : Pl) (m tm : Nat), vs = [.ref p, v, .int (m : Int), .int (tm : Int)] ∧ BoxAt H p q ns z ∧ PlanAt H v pl ∧ pl.Ok ∧ 1 ≤ m ∧ m ≤ n ∧ tm ≤ 1000000000000000000 ∧
  ∀ (w : W) (u : V) (ns' : List Int) (z' : Int) (H' : Hp), w.Can pl.many → w.dep ≤ m → w.Tm tm → WAt H' w u → BoxAt H' p q ns' z' → Keep p q H H' → Q u H'
def spLSome (n : Nat) : Sp := fun vs H Q _ => ∃ (p q : Addr) (ns : List Int) (z : Int) (v : V) (pl : Pl) (m tm lim : Nat), vs = [.ref p, v, .int (m : Int), .int (tm : Int), .int (lim : Int)] ∧ BoxAt H p q ns z ∧ PlanAt H v pl ∧ pl.Ok ∧ 1 ≤ m ∧ m ≤ n ∧ 2 ≤ m ∧ 2 ≤ tm ∧ tm ≤ 1000000000000000000 ∧ 2 ≤ lim ∧
  ∀ (w : W) (u : V) (ns' : List Int) (z' : Int) (H' : Hp), w.Can pl.many → w.dep ≤ m → w.siz ≤ lim → w.Tm tm → WAt H' w u → BoxAt H' p q ns' z' → Keep p q H H' → Q u H'
def ofL : List W → Ws
  | [] => .nil
  | w :: r => .cons w (ofL r)
theorem ofL_len : ∀ l : List W, (ofL l).len = l.length
  | [] => rfl
  | w :: r => by
    show (ofL r).len + 1 = r.length + 1
    rw [ofL_len r]
theorem ofL_can {many : Nat} : ∀ l : List W, (∀ w ∈ l, w.Can many) → (ofL l).Can many
  | [], _ => trivial
  | w :: r, h => ⟨h w (List.mem_cons_self ..), ofL_can r fun x hx => h x (List.mem_cons_of_mem _ hx)⟩
theorem ofL_tm {t : Nat} : ∀ l : List W, (∀ w ∈ l, w.Tm t) → (ofL l).Tm t
  | [], _ => trivial
  | w :: r, h => ⟨h w (List.mem_cons_self ..), ofL_tm r fun x hx => h x (List.mem_cons_of_mem _ hx)⟩
theorem ofL_dep {n : Nat} : ∀ l : List W, (∀ w ∈ l, w.dep ≤ n) → (ofL l).dep ≤ n
  | [], _ => Nat.zero_le _
  | w :: r, h => by
    show max w.dep (ofL r).dep ≤ n
    exact Nat.max_le.mpr ⟨h w (List.mem_cons_self ..), ofL_dep r fun x hx => h x (List.mem_cons_of_mem _ hx)⟩
/-- works and their values, one by one -/
def W2 (H : Hp) : List W → List V → Prop
  | [], vs => vs = []
  | w :: r, vs => ∃ v s, vs = v :: s ∧ WAt H w v ∧ W2 H r s
theorem W2.ws {H : Hp} : ∀ {l : List W} {vs : List V}, W2 H l vs → WsAt H (ofL l) vs
  | [], _, h => h
  | _ :: _, _, h => by
    obtain ⟨v, s, h1, h2, h3⟩ := h
    exact ⟨v, s, h1, h2, h3.ws⟩
theorem W2.tups {H H' : Hp} (e : Tups H H') : ∀ {l : List W} {vs : List V}, W2 H l vs → W2 H' l vs
  | [], _, h => h
  | _ :: _, _, h => by
    obtain ⟨v, s, h1, h2, h3⟩ := h
    exact ⟨v, s, h1, h2.tups e, h3.tups e⟩
theorem W2.snoc {H : Hp} {w : W} {u : V} (hu : WAt H w u) : ∀ {l : List W} {vs : List V}, W2 H l vs → W2 H (l ++ [w]) (vs ++ [u])
  | [], _, h => by
    cases h
    exact ⟨u, [], rfl, hu, rfl⟩
  | _ :: _, _, h => by
    obtain ⟨v, s, rfl, h2, h3⟩ := h
    exact ⟨v, s ++ [u], rfl, h2, h3.snoc hu⟩
theorem W2.len {H : Hp} : ∀ {l : List W} {vs : List V}, W2 H l vs → vs.length = l.length
  | [], _, h => by
    cases h
    rfl
  | _ :: r, _, h => by
    obtain ⟨v, s, rfl, h2, h3⟩ := h
    show s.length + 1 = r.length + 1
    rw [h3.len]
theorem tx1_len : ∀ l : List Nat, ((l.map fun c => tx [c]).map (·.length)).sum = l.length
  | [] => rfl
  | c :: r => by
    show 1 + ((r.map fun c => tx [c]).map (·.length)).sum = r.length + 1
    rw [tx1_len r, Nat.add_comm]
theorem flat1 : ∀ l : List Nat, (l.map fun c => [c]).flatten = l
  | [] => rfl
  | c :: r => by
    show c :: (r.map fun c => [c]).flatten = c :: r
    rw [flat1 r]
end SK
namespace SK
theorem tpw_comm {room many : Nat} {t : Tr} (a : TrOk room many t) (n : Nat) : tpw room t (n + 1) = tjoin t (tpw room t n) := by
  have e := tpw_add a 1 n
  rw [tpw_one a, Nat.add_comm] at e
  exact e
/-- where nothing stays, whatever goes ahead -/
theorem tjoin_const {room many : Nat} {t u : Tr} (a : TrOk room many t) (b : TrOk room many u) (h : u.k = 0) : tjoin t u = u := by
  have hc : ∀ x, tby u x = u.l := fun x => by
    simp only [tby, h, tp_zero, List.nil_append]
  exact tr_ext (c := 97) (tjoin_ok a b) b fun s _ => by rw [tby_join, hc, hc]
theorem tidy_eq {g k : Nat} {l : List Nat} (h : k ≠ 0) : tidy g k l = ⟨g, k, l⟩ := by
  unfold tidy
  rw [if_neg h]
theorem tidy_k (g k : Nat) (l : List Nat) : (tidy g k l).k = k := by
  unfold tidy
  by_cases h : k = 0
  · rw [if_pos h]
    exact h.symm
  · rw [if_neg h]
theorem tjoin_k (t u : Tr) : (tjoin t u).k = min (t.k - (u.g - t.l.length)) (u.k - (ct u.g t.l).length) := tidy_k _ _ _
theorem tpw_k_le {room many : Nat} {t : Tr} (a : TrOk room many t) (n : Nat) : (tpw room t (n + 1)).k ≤ (tpw room t n).k := by
  show (tjoin (tpw room t n) t).k ≤ _
  rw [tjoin_k]
  omega
theorem tpw_same {room many : Nat} {t : Tr} (a : TrOk room many t) {n : Nat} (h : (tpw room t (n + 1)).k = (tpw room t n).k) (h0 : (tpw room t n).k ≠ 0) : tpw room t (n + 1) = tpw room t n := by
  have b := tpw_ok a n
  have e1 : tpw room t (n + 1) = tjoin (tpw room t n) t := rfl
  have e2 := tpw_comm a n
  generalize tpw room t n = u at h h0 b e1 e2
  have k1 : (tjoin u t).k = u.k := by rw [← e1]; exact h
  have k2 : (tjoin t u).k = u.k := by rw [← e2]; exact h
  rw [tjoin_k, len_ct] at k1 k2
  have g1 : t.g - u.l.length = 0 := by omega
  have g2 : t.l.length - u.g = 0 := by omega
  have x1 : tjoin u t = ⟨u.g, u.k, tp t.k (ct t.g u.l) ++ t.l⟩ := by
    unfold tjoin
    rw [tidy_eq (by rw [len_ct]; omega)]
    have e3 : min (u.k - (t.g - u.l.length)) (t.k - (ct t.g u.l).length) = u.k := by rw [len_ct]; exact k1
    rw [e3, g1, Nat.add_zero]
  have x2 : (tjoin t u).l = u.l := by
    unfold tjoin
    rw [tidy_eq (by rw [len_ct]; omega)]
    have e3 : ct u.g t.l = [] := ct_all (by omega)
    show tp u.k (ct u.g t.l) ++ u.l = u.l
    rw [e3]
    simp [tp]
  have x3 : tp t.k (ct t.g u.l) ++ t.l = u.l := by
    have e4 : tjoin u t = tjoin t u := e1.symm.trans e2
    rw [← e4, x1] at x2
    exact x2
  rw [e1, x1, x3]
theorem tpw_low {room many : Nat} {t : Tr} (a : TrOk room many t) (hr : 1 ≤ room) : ∀ n, 1 ≤ n → tpw room t (n + 1) = tpw room t n ∨ (tpw room t n).k + n ≤ room
  | 0, h => absurd h (by omega)
  | 1, _ => by
    by_cases h : t.k = room
    · refine .inl ?_
      have hg : t.g = 0 := by have := a.gk; omega
      have hl : t.l = [] := List.length_eq_zero_iff.mp (by have := a.kl; omega)
      have e : t = tunt room := by
        cases t
        simp only at h hg hl
        subst h hg hl
        rfl
      show tjoin (tpw room t 1) t = tpw room t 1
      rw [tpw_one a]
      have e5 : tjoin (tunt room) t = t := tunt_left a
      rw [← e] at e5
      exact e5
    · refine .inr ?_
      rw [tpw_one a]
      have := a.gk
      omega
  | n + 2, _ => by
    rcases tpw_low a hr (n + 1) (by omega) with h | h
    · refine .inl ?_
      show tjoin (tpw room t (n + 2)) t = tpw room t (n + 2)
      have h' : tpw room t (n + 2) = tpw room t (n + 1) := h
      rw [h']
      exact h'
    · have hle := tpw_k_le a (n + 1)
      have hle' : (tpw room t (n + 2)).k ≤ (tpw room t (n + 1)).k := hle
      by_cases h0 : (tpw room t (n + 1)).k = 0
      · refine .inl ?_
        have c1 : tpw room t (n + 2) = tpw room t (n + 1) := by
          rw [tpw_comm a (n + 1)]
          exact tjoin_const a (tpw_ok a _) h0
        show tjoin (tpw room t (n + 2)) t = tpw room t (n + 2)
        rw [c1]
        exact c1
      · by_cases h1 : (tpw room t (n + 2)).k = (tpw room t (n + 1)).k
        · refine .inl ?_
          have c1 : tpw room t (n + 2) = tpw room t (n + 1) := tpw_same a h1 h0
          show tjoin (tpw room t (n + 2)) t = tpw room t (n + 2)
          rw [c1]
          exact c1
        · exact .inr (by omega)
theorem tpw_next {room many : Nat} {t : Tr} (a : TrOk room many t) (hr : 1 ≤ room) {n : Nat} (h : room ≤ n) : tpw room t (n + 1) = tpw room t n := by
  rcases tpw_low a hr n (by omega) with e | e
  · exact e
  · rw [tpw_comm a n]
    exact tjoin_const a (tpw_ok a _) (by omega)
/-- from as many as there's room on -/
theorem tpw_far {room many : Nat} {t : Tr} (a : TrOk room many t) (hr : 1 ≤ room) : ∀ m, tpw room t (room + m) = tpw room t room
  | 0 => rfl
  | m + 1 => by
    have e := tpw_next a hr (n := room + m) (by omega)
    rw [tpw_far a hr m] at e
    exact e
theorem tpw_mul {room many : Nat} {t : Tr} (a : TrOk room many t) (m : Nat) : ∀ n, tpw room (tpw room t m) n = tpw room t (m * n)
  | 0 => rfl
  | n + 1 => by
    show tjoin (tpw room (tpw room t m) n) (tpw room t m) = _
    rw [tpw_mul a m n, Nat.mul_succ, tpw_add a]
end SK
namespace SK
open PySem PySem.Spec PyProof.Rows L2
/-! ### triples compared -/
def trD (t : Tr) : PyData := .tuple [.int t.g, .int t.k, .str (tx t.l)]
theorem dp_trip {K : PySem.W.Frag} {H : Hp} {v : V} {t : Tr} (h : TripAt H v t) : Dp K H v (trD t) := by
  obtain ⟨a, rfl, ha⟩ := h
  exact .tup (SqT.of ha) (.cons (.int _) (.cons (.int _) (.cons (.str _) .nil)))
theorem signs_lt {many c : Nat} (h : c ∈ signs many) : c < 1114112 := by
  have h4 := List.mem_of_mem_take (show c ∈ List.take many [97, 98, 99, 100] from h)
  have : c = 97 ∨ c = 98 ∨ c = 99 ∨ c = 100 := by simpa using h4
  omega
theorem strOk_tx {l : List Nat} (h : ∀ c ∈ l, c < 1114112) : PyData.strOk (tx l) = true := by
  show l.toArray.all (· < 0x110000) = true
  rw [Array.all_eq_true']
  intro c hc
  exact decide_eq_true (h c (by simpa using hc))
theorem trD_can {room many : Nat} {t : Tr} (a : TrOk room many t) : PyData.canLay0 (trD t) = true := by
  show (true && (true && (PyData.strOk (tx t.l) && true))) = true
  rw [strOk_tx fun c hc => signs_lt (a.s c hc)]
  rfl
theorem trD_shaped {room many : Nat} {t : Tr} (a : TrOk room many t) : SeqAt.shaped (trD t) = true := by
  show (PyData.canLay0 (trD t) && decide (PyData.depth (trD t) ≤ 64)) = true
  rw [trD_can a]
  rfl
theorem trD_eqv {room many : Nat} {t : Tr} (a : TrOk room many t) : PyData.eqv (trD t) (trD t) = true := SeqAt.eqv_refl _ (trD_can a)
/-- t != u of the same triple -/
theorem ne_trip {K : PySem.W.Frag} {H : Hp} {Q : VK} {v u : V} {room many : Nat} {t : Tr} (a : TrOk room many t) (hv : TripAt H v t) (hu : TripAt H u t) (q : Q (.bl false) H) : rNeD K v u H Q := by
  refine ⟨trD t, trD t, dp_trip hv, dp_trip hu, trD_shaped a, trD_shaped a, ?_⟩
  rw [trD_eqv a]
  exact q
def spTimes : Sp := fun vs H Q _ => ∃ n : Nat, vs = [.int (n : Int)] ∧ n ≤ 1000000000000000000 ∧ giv .non H Q
def spJoined : Sp := fun vs H Q _ => ∃ v p a b t u, vs = [v, a, b] ∧ PlanAt H v p ∧ p.Ok ∧ TripAt H a t ∧ TrOk p.room p.many t ∧ TripAt H b u ∧ TrOk p.room p.many u ∧ givT (tjoin t u) H Q
end SK
/-! the least price of steps that do what a triple does; the mathematics -/
namespace SK
structure Pay (many : Nat) (m q : Int) (f : Nat → Int) : Prop where
  f45 : f 45 = q
  lo : ∀ c ∈ signs many, m ≤ f c
  m0 : 0 ≤ m
  q0 : 0 ≤ q
/-- how many are filled where something is kept -/
def phi (room : Nat) (t : Tr) : Nat := room - t.k - max t.g t.l.length
def wprice (m q : Int) (f : Nat → Int) (l : List Nat) (w : Nat × Nat) : Int := (w.1 : Int) * q + (sprc f l + (w.2 : Int) * (m + q))
def ways (room : Nat) (t : Tr) : List (Nat × Nat) := if t.k = 0 then [(0, room - t.l.length), (room, 0)] else [(t.g, phi room t)]
/-- the least price -/
def LB (room : Nat) (m q : Int) (f : Nat → Int) (t : Tr) : Int := if t.k = 0 then min (wprice m q f t.l (0, room - t.l.length)) (wprice m q f t.l (room, 0)) else wprice m q f t.l (t.g, phi room t)
theorem mulr {a b : Nat} {z : Int} (h : a ≤ b) (hz : 0 ≤ z) : (a : Int) * z ≤ (b : Int) * z := Int.mul_le_mul_of_nonneg_right (Int.ofNat_le.mpr h) hz
theorem muls (a : Nat) (z : Int) : ((a + 1 : Nat) : Int) * z = (a : Int) * z + z := by
  rw [Int.natCast_succ, Int.add_mul, Int.one_mul]
theorem mul0 {a : Nat} {z : Int} (hz : 0 ≤ z) : 0 ≤ (a : Int) * z := Int.mul_nonneg (Int.natCast_nonneg a) hz
theorem sprc_nn {many : Nat} {m q : Int} {f : Nat → Int} (P : Pay many m q f) : ∀ {l : List Nat}, (∀ c ∈ l, c ∈ signs many) → 0 ≤ sprc f l
  | [], _ => by simp [sprc]
  | c :: r, h => by
    have h1 := sprc_nn P (l := r) fun d hd => h d (List.mem_cons_of_mem _ hd)
    have h2 := P.lo c (h c (List.mem_cons_self ..))
    have := P.m0
    have e : sprc f (c :: r) = f c + sprc f r := by simp [sprc]
    omega
theorem sprc_one (f : Nat → Int) (c : Nat) : sprc f [c] = f c := by simp [sprc]
theorem LB_nn {room many : Nat} {m q : Int} {f : Nat → Int} (P : Pay many m q f) {t : Tr} (a : TrOk room many t) : 0 ≤ LB room m q f t := by
  have h1 := sprc_nn P a.s
  have h2 := P.m0
  have h3 := P.q0
  have h4 : 0 ≤ m + q := by omega
  unfold LB wprice
  split
  · have e1 := mul0 (a := room - t.l.length) h4
    have e2 := mul0 (a := room) h3
    simp only
    omega
  · have e1 := mul0 (a := phi room t) h4
    have e2 := mul0 (a := t.g) h3
    simp only
    omega
theorem LB_of0 {room : Nat} {m q : Int} {f : Nat → Int} {t : Tr} (h : t.k = 0) : LB room m q f t = min ((sprc f t.l + ((room - t.l.length : Nat) : Int) * (m + q))) ((room : Int) * q + sprc f t.l) := by
  unfold LB wprice
  rw [if_pos h]
  simp
theorem LB_ofk {room : Nat} {m q : Int} {f : Nat → Int} {t : Tr} (h : t.k ≠ 0) : LB room m q f t = (t.g : Int) * q + (sprc f t.l + ((phi room t : Nat) : Int) * (m + q)) := by
  unfold LB wprice
  rw [if_neg h]
theorem ct_one_price {many : Nat} {m q : Int} {f : Nat → Int} (P : Pay many m q f) {l : List Nat} (hl : ∀ c ∈ l, c ∈ signs many) (h : l ≠ []) : sprc f (ct 1 l) + m ≤ sprc f l := by
  have e : ct 1 l ++ [l.getLast h] = l := by
    unfold ct
    rw [← List.dropLast_eq_take]
    exact List.dropLast_concat_getLast h
  have h2 : sprc f l = sprc f (ct 1 l) + f (l.getLast h) := by
    have := sprc_app f (ct 1 l) [l.getLast h]
    rw [e, sprc_one] at this
    exact this
  have := P.lo _ (hl _ (List.getLast_mem h))
  omega
theorem tp_price {many : Nat} {m q : Int} {f : Nat → Int} (P : Pay many m q f) {l : List Nat} (hl : ∀ c ∈ l, c ∈ signs many) (k : Nat) : sprc f (tp k l) ≤ sprc f l := by
  have e : l.take (l.length - k) ++ tp k l = l := List.take_append_drop ..
  have h2 : sprc f l = sprc f (l.take (l.length - k)) + sprc f (tp k l) := by
    have := sprc_app f (l.take (l.length - k)) (tp k l)
    rw [e] at this
    exact this
  have := sprc_nn P (l := l.take (l.length - k)) fun c hc => hl c (List.mem_of_mem_take hc)
  omega
theorem push_join {room many c : Nat} {t : Tr} (a : TrOk room many t) (hr : 1 ≤ room) : tjoin t ⟨0, room - 1, [c]⟩ = tidy t.g (min t.k (room - 1 - t.l.length)) (tp (room - 1) t.l ++ [c]) := by
  unfold tjoin
  simp only [Nat.zero_sub, Nat.add_zero, Nat.sub_zero, ct_zero]
theorem LB_push {room many : Nat} {m q : Int} {f : Nat → Int} (P : Pay many m q f) (hr : 1 ≤ room) {t : Tr} (a : TrOk room many t) {c : Nat} (hc : c ∈ signs many) : LB room m q f (tjoin t ⟨0, room - 1, [c]⟩) ≤ LB room m q f t + f c := by
  have hm := P.m0
  have hq := P.q0
  have hz : 0 ≤ m + q := by omega
  have gk := a.gk
  have kl := a.kl
  have hp := tp_price P a.s (room - 1)
  rw [push_join a hr]
  by_cases hk : t.k = 0
  · have e : tidy t.g (min t.k (room - 1 - t.l.length)) (tp (room - 1) t.l ++ [c]) = ⟨0, 0, tp (room - 1) t.l ++ [c]⟩ := by
      rw [hk, Nat.zero_min]
      rfl
    rw [e, LB_of0 rfl, LB_of0 hk]
    simp only [sprc_app, sprc_one]
    have hl : (tp (room - 1) t.l ++ [c]).length = min (room - 1) t.l.length + 1 := by rw [List.length_append, len_tp]; rfl
    rw [hl]
    have := mulr (a := room - (min (room - 1) t.l.length + 1)) (b := room - t.l.length) (by omega) hz
    omega
  · by_cases h1 : t.k + t.l.length < room
    · have e : tidy t.g (min t.k (room - 1 - t.l.length)) (tp (room - 1) t.l ++ [c]) = ⟨t.g, t.k, t.l ++ [c]⟩ := by
        rw [Nat.min_eq_left (by omega), tidy_eq hk, tp_all (by omega)]
      rw [e, LB_ofk hk, LB_ofk (t := ⟨t.g, t.k, t.l ++ [c]⟩) hk]
      simp only [sprc_app, sprc_one]
      have := mulr (a := phi room ⟨t.g, t.k, t.l ++ [c]⟩) (b := phi room t) (by unfold phi; simp only [List.length_append, List.length_singleton]; omega) hz
      omega
    · have e : tidy t.g (min t.k (room - 1 - t.l.length)) (tp (room - 1) t.l ++ [c]) = tidy t.g (t.k - 1) (t.l ++ [c]) := by
        rw [Nat.min_eq_right (by omega), tp_all (by omega)]
        congr 1
        omega
      rw [e, LB_ofk hk]
      have h0 := mul0 (a := phi room t) hz
      have h2 := mul0 (a := t.g) hq
      by_cases hk1 : t.k = 1
      · have e2 : tidy t.g (t.k - 1) (t.l ++ [c]) = ⟨0, 0, t.l ++ [c]⟩ := by
          rw [hk1]
          rfl
        rw [e2, LB_of0 rfl]
        simp only [sprc_app, sprc_one, List.length_append, List.length_singleton]
        have e3 : room - (t.l.length + 1) = 0 := by omega
        rw [e3]
        simp only [Int.natCast_zero, Int.zero_mul]
        omega
      · rw [tidy_eq (by omega), LB_ofk (by simp only; omega)]
        simp only [sprc_app, sprc_one]
        have e3 : phi room ⟨t.g, t.k - 1, t.l ++ [c]⟩ = 0 := by
          unfold phi
          simp only [List.length_append, List.length_singleton]
          omega
        rw [e3]
        simp only [Int.natCast_zero, Int.zero_mul]
        omega
theorem pop_join {room many : Nat} {t : Tr} (a : TrOk room many t) (hr : 2 ≤ room) : tjoin t ⟨1, room - 1, []⟩ = tidy (t.g + (1 - t.l.length)) (min (t.k - (1 - t.l.length)) (room - 1 - (t.l.length - 1))) (ct 1 t.l) := by
  have kl := a.kl
  unfold tjoin
  simp only [len_ct, List.append_nil]
  rw [tp_all (by rw [len_ct]; omega)]
theorem LB_pop {room many : Nat} {m q : Int} {f : Nat → Int} (P : Pay many m q f) (hr : 1 ≤ room) {t : Tr} (a : TrOk room many t) : LB room m q f (tjoin t (tidy 1 (room - 1) [])) ≤ LB room m q f t + q := by
  have hm := P.m0
  have hq := P.q0
  have hz : 0 ≤ m + q := by omega
  have gk := a.gk
  have kl := a.kl
  have nn := LB_nn P a
  by_cases h1 : room = 1
  · subst h1
    have e : tjoin t (tidy 1 (1 - 1) []) = ⟨0, 0, []⟩ := by
      show tidy _ (min _ (0 - _)) (tp 0 _ ++ []) = _
      rw [Nat.zero_sub, Nat.min_zero, tp_zero]
      rfl
    rw [e, LB_of0 rfl]
    simp only [sprc, List.map_nil, List.sum_nil, List.length_nil]
    omega
  · rw [tidy_eq (by omega), pop_join a (by omega)]
    by_cases hl : t.l = []
    · have e : tidy (t.g + (1 - t.l.length)) (min (t.k - (1 - t.l.length)) (room - 1 - (t.l.length - 1))) (ct 1 t.l) = tidy (t.g + 1) (t.k - 1) [] := by
        rw [hl]
        simp only [List.length_nil, ct_all (l := []) (g := 1) (by simp)]
        congr 1
        omega
      rw [e]
      by_cases hk : t.k ≤ 1
      · have e2 : tidy (t.g + 1) (t.k - 1) [] = ⟨0, 0, []⟩ := by
          rw [Nat.sub_eq_zero_of_le hk]
          rfl
        rw [e2, LB_of0 rfl]
        simp only [sprc, List.map_nil, List.sum_nil, List.length_nil]
        by_cases hk0 : t.k = 0
        · rw [LB_of0 hk0, hl]
          simp only [sprc, List.map_nil, List.sum_nil, List.length_nil]
          omega
        · rw [LB_ofk hk0, hl]
          simp only [sprc, List.map_nil, List.sum_nil]
          have e3 : phi room t = room - 1 - t.g := by
            unfold phi
            rw [hl]
            simp only [List.length_nil]
            omega
          have h5 : ((phi room t : Nat) : Int) * q ≤ ((phi room t : Nat) : Int) * (m + q) := Int.mul_le_mul_of_nonneg_left (by omega) (Int.natCast_nonneg _)
          have h6 : (room : Int) * q = (t.g : Int) * q + ((phi room t : Nat) : Int) * q + q := by
            have e7 : (room : Int) = (t.g : Int) + ((phi room t : Nat) : Int) + 1 := by omega
            rw [e7, Int.add_mul, Int.add_mul, Int.one_mul]
          omega
      · rw [tidy_eq (by omega), LB_ofk (by simp only; omega), LB_ofk (by omega), hl]
        have e3 : phi room ⟨t.g + 1, t.k - 1, []⟩ = phi room t := by
          unfold phi
          rw [hl]
          simp only [List.length_nil]
          omega
        rw [e3]
        simp only [muls]
        omega
    · have hl1 : 1 ≤ t.l.length := List.length_pos_iff.mpr hl
      have e : tidy (t.g + (1 - t.l.length)) (min (t.k - (1 - t.l.length)) (room - 1 - (t.l.length - 1))) (ct 1 t.l) = tidy t.g t.k (ct 1 t.l) := by
        congr 1
        · omega
        · omega
      have hpr := ct_one_price P a.s hl
      rw [e]
      by_cases hk : t.k = 0
      · have e2 : tidy t.g t.k (ct 1 t.l) = ⟨0, 0, ct 1 t.l⟩ := by
          rw [hk]
          rfl
        rw [e2, LB_of0 rfl, LB_of0 hk]
        simp only [len_ct]
        have e3 : room - (t.l.length - 1) = (room - t.l.length) + 1 := by omega
        rw [e3, muls]
        omega
      · rw [tidy_eq hk, LB_ofk hk, LB_ofk (t := ⟨t.g, t.k, ct 1 t.l⟩) hk]
        have h5 := mulr (a := phi room ⟨t.g, t.k, ct 1 t.l⟩) (b := phi room t + 1) (by unfold phi; simp only [len_ct]; omega) hz
        rw [muls] at h5
        simp only
        omega
theorem LB_step {room many : Nat} {m q : Int} {f : Nat → Int} (P : Pay many m q f) (hr : 1 ≤ room) {t : Tr} (a : TrOk room many t) {c : Nat} (hc : c = 45 ∨ c ∈ signs many) : LB room m q f (tjoin t (tstep room c)) ≤ LB room m q f t + f c := by
  unfold tstep
  by_cases h : c = 45
  · rw [if_pos h, h, P.f45]
    exact LB_pop P hr a
  · rw [if_neg h]
    exact LB_push P hr a (hc.resolve_left h)
theorem LB_unt {room many : Nat} {m q : Int} {f : Nat → Int} (P : Pay many m q f) (hr : 1 ≤ room) : LB room m q f (tunt room) = 0 := by
  rw [LB_ofk (by show room ≠ 0; omega)]
  have e : phi room (tunt room) = 0 := by
    show room - room - _ = 0
    omega
  rw [e]
  simp [tunt, sprc]
theorem LB_steps {room many : Nat} {m q : Int} {f : Nat → Int} (P : Pay many m q f) (hr : 1 ≤ room) : ∀ (s : List Nat) (t : Tr), TrOk room many t → (∀ c ∈ s, c = 45 ∨ c ∈ signs many) → LB room m q f (s.foldl (fun t c => tjoin t (tstep room c)) t) ≤ LB room m q f t + sprc f s
  | [], t, _, _ => by simp [sprc]
  | c :: r, t, a, h => by
    have hc := h c (List.mem_cons_self ..)
    have h1 := LB_step P hr a hc
    have h2 := LB_steps P hr r _ (tjoin_ok a (tstep_ok hr hc)) fun d hd => h d (List.mem_cons_of_mem _ hd)
    have e : sprc f (c :: r) = f c + sprc f r := by simp [sprc]
    show LB room m q f (r.foldl _ (tjoin t (tstep room c))) ≤ _
    omega
/-- steps cost at least so much -/
theorem LB_told {room many : Nat} {m q : Int} {f : Nat → Int} (P : Pay many m q f) (hr : 1 ≤ room) {s : List Nat} (h : ∀ c ∈ s, c = 45 ∨ c ∈ signs many) : LB room m q f (ttold room s) ≤ sprc f s := by
  have := LB_steps P hr s (tunt room) tunt_ok h
  rw [LB_unt P hr] at this
  unfold ttold
  omega
/-! ### steps of a way -/
theorem gone_pops (room : Nat) : ∀ (p : Nat) (x : List Nat), gone room x (List.replicate p 45) = ct p x
  | 0, x => (ct_zero x).symm
  | p + 1, x => by
    rw [List.replicate_succ]
    show gone room (step room x 45) (List.replicate p 45) = _
    rw [gone_pops room p]
    show ct p (ct 1 x) = _
    rw [ct_ct]
    congr 1
    omega
theorem tp_tp_app (room : Nat) (y z : List Nat) : tp room (tp room y ++ z) = tp room (y ++ z) := by
  rw [tp_app, tp_app room y z, tp_tp]
  congr 2
  omega
theorem gone_signs (room : Nat) : ∀ (l x : List Nat), (∀ c ∈ l, c ≠ 45) → x.length ≤ room → gone room x l = tp room (x ++ l)
  | [], x, _, h => by
    rw [List.append_nil, tp_all h]
    rfl
  | c :: r, x, hl, h => by
    show gone room (step room x c) r = _
    have e : step room x c = tp room (x ++ [c]) := if_neg (hl c (List.mem_cons_self ..))
    rw [e, gone_signs room r _ (fun d hd => hl d (List.mem_cons_of_mem _ hd)) (by rw [len_tp]; omega), tp_tp_app, List.append_assoc]
    rfl
theorem gone_app (room : Nat) (x a b : List Nat) : gone room x (a ++ b) = gone room (gone room x a) b := by
  unfold gone
  rw [List.foldl_append]
theorem sign_not {many c : Nat} (h : c ∈ signs many) : c ≠ 45 := by
  have h1 := List.mem_of_mem_take h
  simp at h1
  omega
/-- the steps of a way -/
def wayS (c0 : Nat) (w : Nat × Nat) (l : List Nat) : List Nat :=
  if l.length ≤ w.1 then List.replicate w.2 c0 ++ List.replicate w.2 45 ++ List.replicate w.1 45 ++ l
  else List.replicate w.1 45 ++ l ++ (List.replicate w.2 c0 ++ List.replicate w.2 45)
theorem way_gone {room many c0 g k : Nat} {l x : List Nat} (gk : g + k ≤ room) (kl : k + l.length ≤ room) (hc : c0 ∈ signs many) (hl : ∀ c ∈ l, c ∈ signs many) (hx : x.length ≤ room) :
    gone room x (wayS c0 (g, room - k - max g l.length) l) = tp k (ct g x) ++ l := by
  have hl' : ∀ c ∈ l, c ≠ 45 := fun c h => sign_not (hl c h)
  have hr' : ∀ n, ∀ c ∈ List.replicate n c0, c ≠ 45 := fun n c h => by
    rw [List.eq_of_mem_replicate h]
    exact sign_not hc
  unfold wayS
  by_cases h : l.length ≤ g
  · rw [if_pos h, Nat.max_eq_left h]
    simp only
    rw [gone_app, gone_app, gone_app, gone_signs room _ x (hr' _) hx, gone_pops, gone_pops, ct_ct, ct_tp, ct_app_ge (by rw [List.length_replicate]; omega)]
    rw [List.length_replicate]
    have e1 : room - (room - k - g + g) = k := by omega
    have e2 : room - k - g + g - (room - k - g) = g := by omega
    rw [e1, e2, gone_signs room l _ hl' (by rw [len_tp]; omega), tp_all (by rw [List.length_append, len_tp]; omega)]
  · have h' : g ≤ l.length := by omega
    rw [if_neg h, Nat.max_eq_right h']
    simp only
    rw [gone_app, gone_app, gone_app, gone_pops room g x, gone_signs room l _ hl' (by rw [len_ct]; omega), gone_signs room (List.replicate _ c0) _ (hr' _) (by rw [len_tp]; omega), gone_pops, tp_tp_app, ct_tp, ct_app_ge (by rw [List.length_replicate]; omega)]
    rw [List.length_replicate, Nat.sub_self, ct_zero]
    have e1 : room - (room - k - l.length) = k + l.length := by omega
    rw [e1, tp_app, tp_all (l := l) (by omega)]
    congr 2
    omega
theorem way_in {many c0 : Nat} {w : Nat × Nat} {l : List Nat} (hc : c0 ∈ signs many) (hl : ∀ c ∈ l, c ∈ signs many) : ∀ c ∈ wayS c0 w l, c = 45 ∨ c ∈ signs many := fun c h => by
  have k1 : ∀ n, c ∈ List.replicate n c0 → c = 45 ∨ c ∈ signs many := fun n h => by
    rw [List.eq_of_mem_replicate h]
    exact .inr hc
  have k2 : ∀ n, c ∈ List.replicate n 45 → c = 45 ∨ c ∈ signs many := fun n h => .inl (List.eq_of_mem_replicate h)
  unfold wayS at h
  split at h
  · simp only [List.mem_append] at h
    rcases h with ((h | h) | h) | h
    · exact k1 _ h
    · exact k2 _ h
    · exact k2 _ h
    · exact .inr (hl c h)
  · simp only [List.mem_append] at h
    rcases h with (h | h) | (h | h)
    · exact k2 _ h
    · exact .inr (hl c h)
    · exact k1 _ h
    · exact k2 _ h
theorem sprc_rep (f : Nat → Int) (c : Nat) : ∀ n : Nat, sprc f (List.replicate n c) = (n : Int) * f c
  | 0 => by simp [sprc]
  | n + 1 => by
    have e : sprc f (List.replicate (n + 1) c) = f c + sprc f (List.replicate n c) := by simp [sprc, List.replicate_succ]
    rw [e, sprc_rep f c n, muls]
    omega
theorem way_price {many c0 : Nat} {m q : Int} {f : Nat → Int} (P : Pay many m q f) (hm : f c0 = m) (w : Nat × Nat) (l : List Nat) : sprc f (wayS c0 w l) = wprice m q f l w := by
  unfold wayS wprice
  split
  · simp only [sprc_app, sprc_rep, P.f45, hm, Int.mul_add]
    omega
  · simp only [sprc_app, sprc_rep, P.f45, hm, Int.mul_add]
    omega
theorem way_len {c0 : Nat} (w : Nat × Nat) (l : List Nat) : (wayS c0 w l).length = w.1 + 2 * w.2 + l.length := by
  unfold wayS
  split
  · simp only [List.length_append, List.length_replicate]
    omega
  · simp only [List.length_append, List.length_replicate]
    omega
/-- the steps of each way do what the triple does -/
theorem way_told {room many c0 : Nat} {t : Tr} (hr : 1 ≤ room) (a : TrOk room many t) (hc : c0 ∈ signs many) {w : Nat × Nat} (h : w ∈ ways room t) : ttold room (wayS c0 w t.l) = t := by
  have hin := way_in (w := w) hc a.s
  refine tr_ext (c := 97) (ttold_ok' hr hin) a fun n hn => ?_
  have hx : (List.replicate n 97).length ≤ room := by rw [List.length_replicate]; exact hn
  rw [tby_told hr _ hx]
  unfold ways at h
  by_cases hk : t.k = 0
  · rw [if_pos hk] at h
    have gk := a.gk
    have kl := a.kl
    have hz := a.z hk
    rcases List.mem_cons.mp h with h | h
    · have e := way_gone (c0 := c0) (g := 0) (k := 0) (l := t.l) (x := List.replicate n 97) (by omega) (by omega) hc a.s hx
      rw [Nat.sub_zero, Nat.zero_max] at e
      rw [h, e]
      simp only [tby, hk, hz]
    · have h' : w = (room, 0) := by simpa using h
      have e := way_gone (c0 := c0) (g := room) (k := 0) (l := t.l) (x := List.replicate n 97) (by omega) (by omega) hc a.s hx
      have e2 : room - 0 - max room t.l.length = 0 := by omega
      rw [e2] at e
      rw [h', e]
      simp only [tby, hk, hz, tp_zero]
  · rw [if_neg hk] at h
    have h' : w = (t.g, phi room t) := by simpa using h
    rw [h']
    exact way_gone (c0 := c0) a.gk a.kl hc a.s hx
/-- subadditive -/
theorem LB_has {room many c0 : Nat} {m q : Int} {f : Nat → Int} (P : Pay many m q f) (hr : 1 ≤ room) (hc : c0 ∈ signs many) (hm : f c0 = m) {t : Tr} (a : TrOk room many t) : ∃ s, (∀ c ∈ s, c = 45 ∨ c ∈ signs many) ∧ ttold room s = t ∧ sprc f s = LB room m q f t := by
  by_cases hk : t.k = 0
  · by_cases h : wprice m q f t.l (0, room - t.l.length) ≤ wprice m q f t.l (room, 0)
    · refine ⟨wayS c0 (0, room - t.l.length) t.l, way_in hc a.s, way_told hr a hc (by unfold ways; rw [if_pos hk]; simp), ?_⟩
      rw [way_price P hm]
      unfold LB
      rw [if_pos hk]
      omega
    · refine ⟨wayS c0 (room, 0) t.l, way_in hc a.s, way_told hr a hc (by unfold ways; rw [if_pos hk]; simp), ?_⟩
      rw [way_price P hm]
      unfold LB
      rw [if_pos hk]
      omega
  · refine ⟨wayS c0 (t.g, phi room t) t.l, way_in hc a.s, way_told hr a hc (by unfold ways; rw [if_neg hk]; simp), ?_⟩
    rw [way_price P hm]
    unfold LB
    rw [if_neg hk]
theorem LB_join {room many c0 : Nat} {m q : Int} {f : Nat → Int} (P : Pay many m q f) (hr : 1 ≤ room) (hc : c0 ∈ signs many) (hm : f c0 = m) {t u : Tr} (a : TrOk room many t) (b : TrOk room many u) : LB room m q f (tjoin t u) ≤ LB room m q f t + LB room m q f u := by
  obtain ⟨s, h1, h2, h3⟩ := LB_has P hr hc hm a
  obtain ⟨s', h4, h5, h6⟩ := LB_has P hr hc hm b
  have h7 := LB_told P hr (s := s ++ s') fun c hc => (List.mem_append.mp hc).elim (h1 c) (h4 c)
  rw [ttold_app hr h1 h4, h2, h5, sprc_app, h3, h6] at h7
  exact h7
theorem LB_work {room many : Nat} {m q : Int} {f : Nat → Int} (P : Pay many m q f) (hr : 1 ≤ room) {w : W} (h : w.Can many) : LB room m q f (w.tri room) ≤ w.prc f := by
  rw [W.tri_lng hr w h, W.prc_lng]
  exact LB_told P hr (W.lng_in w h)
end SK
namespace SK
open PySem PySem.Spec PyProof.Rows L2 LamX NdefX
/-! ### a lambda with parameters, called -/
/-- the lambda as a function made in the running frame -/
def lamF (X : Cx) (params : Arguments) (scope : Scope) (c' : Addr) : NF := ⟨"<lambda>", X.env.qual ++ "<lambda>", params, [], scope, cloFrom X.env.cells scope.names [], c'⟩
theorem lam_run {P : Program} {w : World} {K : PySem.W.Frag} {mg : Str → Option Value} {base : Heap} {N ps fr : List Str} {F : NF} {f : Addr} {A : Around} {outer : List Env} {s : Shared} {H : Hp} {us : List Value} {vs : List V} {ws : List (Option V)} {k : Nat} {body : Expr} {pm ctv : Value} {t : TE} {Q : VK}
    (S : NScope N ps fr F.scope) (hr : Room (k + 1) A) (e0 : Env0 P w K mg base A outer s H) (ho : s.heap.get? f = some (PySem.W.kla_obj F.name F.qual F.params body F.scope F.cl pm F.c ctv)) (hc : s.heap.CodeRec (.ref F.c) F.qual)
    (hbind : bindArgs (PySem.W.kla_fn F.name F.qual F.params body F.scope F.cl pm (.ref F.c) ctv) ⟨us, []⟩ = pure (ps.zip us)) (hl : vs.length = ps.length) (r : Vals vs us) (C : CellsAt F.cl fr ws s.heap H)
    (hbody : PE (ncx C8.CX0 P w K mg base N F f A outer s H C8.E0) body t) (ht : t (startF N vs ws) H Q) :
    codeAny (model P w) A (.call (.ref f) ⟨us, []⟩) (CR C8.CX0 outer P w H s Q C8.E0) s := by
  have lim : s.heap.NoLimit := e0.mod.nolimit.keeps fun b o e => (e0.bs b o e).1
  refine PySem.W.kla_callFunE hr.depth ho rfl S.co S.gen rfl hc ?_
  rw [hbind]
  refine wpAny_pure (wpAny_newFunctionEnv S.nocell (fun ⟨n, _⟩ hy => S.par n (List.of_mem_zip hy).1) (fun h₁ hns hsb => ⟨lim.fresh _ hsb, ?_⟩) S.kind)
  show codeAny _ _ (.expr body (envF F f s.heap.objs.size)) _ _
  have kp : ∀ b o, s.heap.get? b = some o → h₁.get? b = some o := fun b o e => hsb.extBut b o (Nat.ne_of_lt (Heap.lt_size e)) (Heap.get?_push_of_some _ e)
  have J : Inv (ncx C8.CX0 P w K mg base N F f A outer s H C8.E0) [] (startF N vs ws) H { s with heap := h₁, toks := s.toks + (ps.zip us).length } := inv_startN S hr.hd e0 hl r C hns kp
  refine PySem.W.kla_codeExpr (wpAny_mono (hbody.run [] _ _ H Q J ht) (fun v s' hq => ?_) fun e s' hq => hq)
  obtain ⟨w', H', J', rv, q⟩ := hq
  exact ⟨w', H', J'.os, J'.bare, J'.base, J'.hok, rv, q⟩
theorem Room.in1 {k : Nat} {A : Around} (r : Room (k + 1) A) : Room k A.in1 := ⟨r.hd, by have := r.dp; show A.depth + 3 * k + 5 < _; omega, by have := r.un; show A.units + 1 + 16 * k + 200 < _; omega⟩
/-! ### min(xs, key=f) of a list -/
section
variable {X : Cx} {pins : List (Addr × Obj)} {σ : L2.St} {H : Hp} {s : Shared}
theorem min_key_list (hcalm : X.calm = true) (I : L2.Inv X pins σ H s) {f : Addr} {fo : Obj} (hf : s.heap.get? f = some fo) (hfc : ∀ v, fo.data ≠ .cell v) (hfn : H f = none) (hfL : f ≠ X.env.locals) (hfr : f ∉ X.fs) {a : Addr} {xs : List V} (ha : H a = some (.lst xs)) (hne : 0 < xs.length) (kf : Nat → Int) {Q : VK}
    (turn : ∀ (od : Obj) (pins' : List (Addr × Obj)) (s' : Shared) (i : Nat) (v : V) (u : Value), Inv X pins' σ (upd H a (.frz od (.lst xs))) s' → s'.heap.get? f = some fo → xs[i]? = some v → RelV v u →
      codeAny (model X.prog X.w) X.A.in1 (.call (.ref f) ⟨[u], []⟩) (CR C8.CX0 X.stack X.prog X.w (upd H a (.frz od (.lst xs))) s' (fun k H' => k = .int (kf i) ∧ H' = upd H a (.frz od (.lst xs))) C8.E0) s')
    (q : ∀ od v, xs[argBest (fun i j => decide (kf i < kf j)) (xs.length - 1)]? = some v → Q v (upd H a (.frz od (.lst xs)))) :
    wpAny (model X.prog X.w) X.A (call (.builtin "min") [.ref a] [(Str.ofString "key", .ref f)]) (EP X pins σ Q) X.xe s := by
  obtain ⟨od, I0⟩ := I.lock ha (by trivial)
  have hfn0 : upd H a (.frz od (.lst xs)) f = none := by
    rw [upd_ne (fun z => by rw [z, ha] at hfn; cases hfn)]
    exact hfn
  have I1 : L2.Inv X (pins ++ [(f, fo)]) σ (upd H a (.frz od (.lst xs))) s := I0.pins_of fun p hp => by
    rcases List.mem_append.mp hp with z | z
    · exact I0.pin p (List.mem_append_right _ z)
    · have e : p = (f, fo) := by simpa using z
      subst e
      exact ⟨hf, hfn0, hfL, hfr, hfc⟩
  have haz : upd H a (.frz od (.lst xs)) a = some (.frz od (.lst xs)) := upd_same
  obtain ⟨e1, hz, its, n, rv, hob⟩ := I1.hok a _ haz
  rw [e1] at hob
  cases hob
  have hlen := rv.length
  have hlt : a < s.heap.objs.size := Heap.lt_size e1
  have dl : ∀ {s' : Shared} {pins' : List (Addr × Obj)}, Inv X pins' σ (upd H a (.frz (seqObj "list" its.toArray n) (.lst xs))) s' → s'.heap.get? a = some (seqObj "list" its.toArray n) := fun J => (J.hok a _ haz).1
  have isl : ∀ {h : Heap}, h.get? a = some (seqObj "list" its.toArray n) → h.IsList a its.toArray := fun e => ⟨_, e, rfl, n, rfl⟩
  have hd : X.A.in1.handled = none := I.ok.hd hcalm
  refine call_min_walkK (wpAny_pyIter_list (isl e1) ?_)
  have W := (Walks.list (prog := X.prog) (w := X.w) (A := X.A.in1) hd s.heap.objs.size a (Nat.ne_of_lt hlt) its.toArray).toS
  have hI : (s.heap.push { cls := .type "list_iterator", data := .fields #[.ref a, .int 0 0] }).objs.size = s.heap.objs.size + 1 := size_push' ..
  have gI : (s.heap.push { cls := .type "list_iterator", data := .fields #[.ref a, .int 0 0] }).get? s.heap.objs.size = some { cls := .type "list_iterator", data := .fields #[.ref a, .int 0 0] } := Heap.get?_push_size _ rfl
  have J0 : L2.Inv X (pins ++ [(f, fo)]) σ (upd H a (.frz (seqObj "list" its.toArray n) (.lst xs))) { s with heap := s.heap.push { cls := .type "list_iterator", data := .fields #[.ref a, .int 0 0] } } := I1.kept (t' := s.toks) fun b o e => Heap.get?_push_of_some _ e
  have fpI : FpOk X (pins ++ [(f, fo)]) (upd H a (.frz (seqObj "list" its.toArray n) (.lst xs))) s.heap.objs.size := I1.fpOk (Nat.le_refl _) (I1.hok.fresh (Nat.le_refl _))
  have fpS : FpOk X (pins ++ [(f, fo)]) (upd H a (.frz (seqObj "list" its.toArray n) (.lst xs))) (s.heap.objs.size + 1) := I1.fpOk (Nat.le_succ _) (I1.hok.fresh (Nat.le_succ _))
  refine ⟨s.heap.objs.size, _, _, _, its.toArray.size, _, _, fun s' => Inv X (pins ++ [(f, fo)]) σ (upd H a (.frz (seqObj "list" its.toArray n) (.lst xs))) s', fun i k _ => ∃ t, k = .int (kf i) t, fun i j => decide (kf i < kf j), rfl, W, ⟨⟨_, gI, rfl, rfl⟩, isl (Heap.get?_push_of_some _ e1)⟩, fun b hb => ?_, ?_, ?_, J0, fun v s' hv hJ => ?_⟩
  · show b < (s.heap.push _).objs.size
    rw [hI]
    have hb' : b = s.heap.objs.size ∨ b = a := by simpa using hb
    rcases hb' with z | z
    · rw [z]
      exact Nat.lt_succ_self _
    · rw [z]
      exact Nat.lt_succ_of_lt hlt
  · rw [List.size_toArray, ← hlen]
    exact hne
  · refine ⟨fun s1 s2 hJ hm => ?_, fun i k s1 s2 hv _ => hv, fun i v s1 o Q1 E1 hi hP hJ hst hS hQ => ?_, fun i j ki kj s1 Q1 E1 hJ hi hj hQ => ?_⟩
    · obtain ⟨m1, m2, m3, m4, m5⟩ := hm
      obtain ⟨hh, g, d, t, os'⟩ := s2
      obtain rfl : g = s1.gens := m2
      obtain rfl : d = s1.drawn := m3
      obtain rfl : os' = s1.os := m4
      refine L2.Inv.turnedL hJ (ch := (s.heap.push { cls := .type "list_iterator", data := .fields #[.ref a, .int 0 0] }).objs.size :: [s.heap.objs.size]) m1 fun b hb => ?_
      rw [hI] at hb
      rcases List.mem_cons.mp hb with z | z
      · rw [z]
        exact fpS
      · have z' : b = s.heap.objs.size := by simpa using z
        rw [z']
        exact fpI
    · have hv : its.toArray[i]? = some v := hP
      have hi' : i < xs.length := by
        rw [List.size_toArray] at hi
        omega
      have hx : xs[i]? = some xs[i] := List.getElem?_eq_getElem hi'
      have rx : RelV xs[i] v := by
        obtain ⟨u, hu, ru⟩ := rv.get hx
        have e : its.toArray[i]? = some u := by simpa using hu
        rw [hv] at e
        cases e
        exact ru
      obtain ⟨⟨oI, hoI, hoc, hod⟩, hls⟩ := hst
      rw [hI] at hS
      have nfr : ∀ b, b ≠ X.env.locals → b ∉ X.fs → b ∉ frs X.stack := fun b h1 h2 z => by
        rcases List.mem_cons.mp (hJ.stkSub b z) with e | e
        · exact h1 e
        · exact h2 e
      have hf1 : s1.heap.get? f = some fo := (hJ.pin (f, fo) (List.mem_append_right _ (List.mem_append_right _ (by simp)))).1
      refine wpAny_call (codeAny_mono (turn _ _ s1 i xs[i] v hJ hf1 hx rx) fun r s2 hq => ?_)
      cases r with
      | error e => exact False.elim hq
      | ok fl =>
        cases fl with
        | next => exact False.elim hq
        | brk => exact False.elim hq
        | cont => exact False.elim hq
        | ret u =>
          obtain ⟨k', H', os, bare, un, hok, ru, rfl, rfl⟩ := hq
          obtain ⟨t, rfl⟩ := ru
          have J2 : L2.Inv X (pins ++ [(f, fo)]) σ (upd H a (.frz (seqObj "list" its.toArray n) (.lst xs))) s2 := hJ.call' os un hok bare (fun b z => absurd z (by simp))
          refine hQ _ s2 J2 ⟨⟨oI, un.keep _ _ hoI fpI.1 (nfr _ fpI.2.1 fpI.2.2.1) (by simp), hoc, hod⟩, isl (dl J2)⟩ ?_ ⟨t, rfl⟩ fun j k' h => h
          rw [hI]
          exact un.keep _ _ hS fpS.1 (nfr _ fpS.2.1 fpS.2.2.1) (by simp)
    · obtain ⟨t1, rfl⟩ := hi
      obtain ⟨t2, rfl⟩ := hj
      exact CmpOf.ints_lt (prog := X.prog) (w := X.w) (A := X.A.in1) (P := fun i v => ∃ t, v = .int (kf i) t) kf (fun i v h => h) i j _ _ _ _ _ ⟨t1, rfl⟩ ⟨t2, rfl⟩ hQ
  · have hv' : its.toArray[argBest (fun i j => decide (kf i < kf j)) (its.toArray.size - 1)]? = some v := hv
    rw [List.size_toArray, ← hlen] at hv'
    have hb : argBest (fun i j => decide (kf i < kf j)) (xs.length - 1) < its.length := by
      obtain ⟨h1, _⟩ := Array.getElem?_eq_some_iff.mp hv'
      simpa using h1
    have hx : xs[argBest (fun i j => decide (kf i < kf j)) (xs.length - 1)]? = some (xs[argBest (fun i j => decide (kf i < kf j)) (xs.length - 1)]'(by omega)) := List.getElem?_eq_getElem (by omega)
    obtain ⟨u, hu, ru⟩ := rv.get hx
    have e : its.toArray[argBest (fun i j => decide (kf i < kf j)) (xs.length - 1)]? = some u := by simpa using hu
    rw [hv'] at e
    cases e
    exact ⟨_, _, hJ.unpinned, ru, q _ _ hx⟩
/-! ### min(e, key=lambda ..) -/
theorem Tabs.upd {T : List (Addr × Str)} {H : Hp} {a : Addr} {xs : List V} {o : HO} (t : Tabs T H) (h : H a = some (.lst xs)) : Tabs T (upd H a o) := fun p hp => by
  obtain ⟨ps, h1, h2, h3⟩ := t p hp
  refine ⟨ps, ?_, h2, fun pos cv hc => ?_⟩
  · rw [upd_ne (ne_of h1 h (by intro z; cases z))]
    exact h1
  · obtain ⟨c, e1, e2⟩ := h3 pos cv hc
    refine ⟨c, e1, ?_⟩
    rw [upd_ne (ne_of e2 h (by intro z; unfold CodeO at z; cases z))]
    exact e2
theorem Tups.ofN {H H' : Hp} (e : ExtN H H') : Tups H H' := ⟨fun b xs h => e b _ h (by intro ps z; cases z), fun b o xs h => e b _ h (by intro ps z; cases z)⟩
def bestN (kf : Nat → Int) (n : Nat) : Nat := argBest (fun i j => decide (kf i < kf j)) (n - 1)
def tMinKey (T : List (Addr × Str)) (ta : TA) (js : List Nat) (N : List Str) (tb : TE) : TE := fun σ H Q => ta σ H fun vs H1 => Tabs T H1 ∧ ∃ (a : Addr) (xs : List V) (kf : Nat → Int), vs = [.ref a] ∧ H1 a = some (.lst xs) ∧ 0 < xs.length ∧
  (∀ (H2 : Hp) (i : Nat) (x : V) (Q' : VK), Tups H1 H2 → xs[i]? = some x → Q' (.int (kf i)) H2 → tb (startF N [x] (js.map (slotAt σ))) H2 Q') ∧
  ∀ (H2 : Hp) (od : Obj) (x : V), ExtN H1 H2 → Tabs T H2 → xs[bestN kf xs.length]? = some x → Q x (L2.upd H2 a (.frz od (.lst xs)))
theorem pe_minkey {T : List (Addr × Str)} {c P : Addr} {p pos kpos lpos : Pos} {e : Expr} {ta : TA} {tb : TE} {params : Arguments} {body : Expr} {scope : Scope} {N ps fr : List Str} {js : List Nat} {k : Nat}
    (hcalm : X.calm = true) (hg : Gl X "min") (hm : X.mg "min" = none) (ha : PA X [e] ta)
    (TB : TabB X.base X.mg c P) (hcode : X.env.code = .ref c) (hmT : (P, X.env.qual ++ "<lambda>") ∈ T) (hu : ∀ p ∈ T, p.1 = P → p.2 = X.env.qual ++ "<lambda>") (hr : Room (k + 2) X.A)
    (S : NScope N ps fr scope) (hps : ps.length = 1) (hfree : ∀ y ∈ scope.names, y.2 = .free → X.env.scope.names.lookup y.1 = some .cell ∨ X.env.scope.names.lookup y.1 = some .free) (hfr : ∀ y ∈ fr, (y, NameKind.free) ∈ scope.names) (hjs : js.map (fun j => X.N[j]?) = fr.map some)
    (hdef : defaultsOf params X.env = ([], [])) (hbind : ∀ (q : Str) (cl : List (Str × Addr)) (pm cv ctv u : Value), bindArgs (PySem.W.kla_fn "<lambda>" q params body scope cl pm cv ctv) ⟨[u], []⟩ = pure (ps.zip [u]))
    (hbody : ∀ (c' f : Addr) (A : Around) (outer : List Env) (s : Shared) (H : Hp), PE (ncx C8.CX0 X.prog X.w X.K X.mg X.base N (lamF X params scope c') f A outer s H C8.E0) body tb)
    (he : backTo pos (starEach [e] X.env) = (false, eval e X.env) :: backTo pos (starEach [] X.env) := by rfl) (hpl : (backTo pos (starEach [e] X.env)).any (·.1) = false := by rfl) :
    PE X (.Call (.Name "min" p) [e] [⟨some "key", .Lambda params body scope lpos, kpos⟩] pos) (tMinKey T ta js N tb) := by
  refine ⟨fun pins s σ H Q I h => ?_⟩
  refine wpAny_Call_Name_kw (ld_blt I hg hm b_min ?_ (by decide) (by decide))
  refine PyProof.Rows.callWith_kw (thn (ha.run pos pins s σ H _ I h) fun us s1 ⟨vs, H1, I1, r1, q1⟩ => ?_) he hpl rfl rfl
  obtain ⟨hT, a, xs, kf, rfl, hax, hne, hb, hq⟩ := q1
  obtain rfl := Vals.ref1 r1
  show wpAny _ _ (evalAll ((do let v ← eval (.Lambda params body scope lpos) X.env; standAt pos; pure v) :: [])) _ _ _
  refine wpAny_evalAll_cons (wpAny_bind (lam_make2 I1 TB hcode hmT hu hT hdef (fun y hy e => (hfree y hy e).elim (fun z => I1.ok.has _ (.inl z)) fun z => I1.ok.has _ (.inr z)) fun f c' pm' ctv H2 s' I2 eN T2 hf hfn hfr' hco => wpAny_bind (wpAny_standAt (wpAny_pure (wpAny_evalAll_nil ?_)))))
  have hax2 : H2 a = some (.lst xs) := eN _ _ hax (by intro ps z; cases z)
  have hfL : f ≠ X.env.locals := fun z => by
    obtain ⟨m, ⟨o, es, ep, ho, hd, _⟩, _⟩ := I2.loc
    rw [z, ho] at hf
    cases hf
    cases hd
  have hfs : f ∉ X.fs := fun z => hfr' (by
    rcases I2.ok.stk with e | ⟨e, hfm⟩
    · rw [e]
      exact z
    · rw [e]
      unfold frs at *
      simp only [List.filterMap_cons]
      split
      · exact z
      · exact List.mem_cons_of_mem _ z)
  show wpAny _ _ (call (.builtin "min") [.ref a] [(Str.ofString "key", .ref f)]) _ _ _
  refine min_key_list hcalm I2 hf (fun v z => by cases z) hfn hfL hfs hax2 hne kf (fun od pins' s3 i v u J hf3 hx rx => ?_) fun od v hv => hq H2 od v eN T2 hv
  have hco' : L2.upd H2 a (.frz od (.lst xs)) c' = some (CodeO c' (X.env.qual ++ "<lambda>")) := by
    rw [upd_ne (ne_of hco hax2 (by intro z; unfold CodeO at z; cases z))]
    exact hco
  refine lam_run (F := lamF X params scope c') (k := k) (ps := ps) S hr.in1 J.env0.in1 hf3 (codeO_at J.hok hco') (hbind _ _ _ _ _ u) (by rw [hps]; rfl) (.cons rx .nil) (cells_of J (Caps.made J.ok hfree hfr hjs)) (hbody _ _ _ _ _ _) ?_
  exact hb _ i v _ ((Tups.ofN eN).trans ⟨fun b ys e => by
    rw [upd_ne (ne_of e hax2 (by intro z; cases z))]
    exact e, fun b o ys e => by
    rw [upd_ne (ne_of e hax2 (by intro z; cases z))]
    exact e⟩) hx ⟨rfl, rfl⟩
end
/-! ### a def whose code object is known -/
structure DnL (K : PySem.W.Frag) (mg : Str → Option Value) (x : Str) (st : Stmt) (ps : List Str) (c : Addr) : Prop where
  ex : ∃ (f : Addr) (oc : Value) (od : Option Addr) (kV doc pm : Value) (an : Option Addr) (ct : Value) (osl : Array (Option Value)),
    K.lookup f = some ⟨oc, od, .func (PySem.W.fnOf x x (defArgs st) (defBody st) (defScope st) .none kV doc pm an (.ref c) ct), osl⟩ ∧ PySem.W.codeIn K (.ref c) x = true ∧ PySem.W.keepIn K (.ref f) = true ∧ mg x = some (.ref f) ∧ Binds K (PySem.W.fnOf x x (defArgs st) (defBody st) (defScope st) .none kV doc pm an (.ref c) ct) ps []
theorem DnL.cal {P : Program} {w : World} {K : PySem.W.Frag} {mg : Str → Option Value} {base : Heap} {x : Str} {st : Stmt} {N ps : List Str} {k : Nat} {sp : Sp} {c : Addr} (D : DnL K mg x st ps c) (S : FnScope N ps (defScope st)) (len : ∀ vs H Q E, sp vs H Q E → vs.length = ps.length)
    (hbody : ∀ (f : Addr) (A : Around) (outer : List Env) (s : Shared) (H : Hp) (vs : List V) (Q : VK) (E : XK), Room k (A.deeper (envOfC x (defScope st) s.heap.objs.size f (.ref c))) → sp vs H Q E →
      ∃ t, PSs (cxOf CX0 P w K mg base N x (defScope st) f (.ref c) A outer s H E).nox (defBody st) t ∧ t { nx := fun _ H' => Q .non H', rt := Q } (start N vs) H) : C8.Cal P w K mg base (k + 1) x sp [] := by
  obtain ⟨f, oc, od, kV, doc, pm, an, ct, osl, lk, hcd, hk, hm, hb⟩ := D.ex
  exact ⟨f, _, ps, [], fn_of lk hcd S len fun A outer s H vs Q E hr hsp => by
    obtain ⟨t, h, q⟩ := hbody f A outer s H vs Q E hr hsp
    exact ⟨t, h.nox, q⟩, hm, hk, hb, .nil⟩
theorem dnL_mk {K : PySem.W.Frag} {mg : Str → Option Value} {x : Str} {st : Stmt} {ps : List Str} {h : Heap} {f c : Addr} {oc : Value} {od an : Option Addr} {osl : Array (Option Value)} {kV doc pm ct : Value} (X : K.In h) (G : h.Ns mainGlobals mg)
    (a : PySem.W.nsIn K mainGlobals x = some (some (.ref f))) (l : K.lookup f = some ⟨oc, od, .func (PySem.W.fnOf x x (defArgs st) (defBody st) (defScope st) .none kV doc pm an (.ref c) ct), osl⟩)
    (hc : PySem.W.codeIn K (.ref c) x = true) (k : PySem.W.keepIn K (.ref f) = true)
    (hb : ∀ (kV doc pm : Value) (an : Option Addr) (cdv ct : Value) (us : List Value), us.length = ps.length → bindArgs (PySem.W.fnOf x x (defArgs st) (defBody st) (defScope st) .none kV doc pm an cdv ct) ⟨us, []⟩ = pure (ps.zip us)) : DnL K mg x st ps c :=
  ⟨f, oc, od, kV, doc, pm, an, ct, osl, l, hc, k, PySem.W.mg_of X G a, .all (hb kV doc pm an (.ref c) ct)⟩
def lamQ : Str := (("cheapest_way" : Str) ++ ".<locals>.") ++ "<lambda>"
end SK
namespace SK
open PySem PySem.Spec PyProof.Rows L2 LamX NdefX
section
variable {X : Cx}
/-- min(t) of a tuple of ints -/
def rMinT (K : PySem.W.Frag) : List V → Hp → VK → Prop := fun vs H Q => ∃ (a : Addr) (ns : List Int), vs = [V.ref a] ∧ SqT K H a (ns.map V.int) ∧ 0 < ns.length ∧ ∀ m, m ∈ ns → (∀ y, y ∈ ns → m ≤ y) → Q (.int m) H
theorem cr_minT (hc : X.calm = true) : CallR X (.builtin "min") (rMinT X.K) := by
  intro pins s σ H vs us Q I r h
  obtain ⟨a, ns, rfl, hs, hne, q⟩ := h
  obtain ⟨its, rv, hl, _⟩ := I.tuple hs
  rw [Vals.ref1 r]
  have hi := rv.ints
  obtain ⟨xs, e⟩ := hi.allInts.items
  have hn : numsOf (intItems xs).toList = ns := by rw [← e]; exact hi.numsOf
  rw [nums_intItems] at hn
  subst hn
  rw [e] at hl
  have hsz : 0 < xs.size := by simpa using hne
  obtain ⟨ob, hob, hcl, n, hd⟩ := id hl
  have hlt : a < s.heap.objs.size := Heap.lt_size hob
  have hT : s.heap.IsTuple a (intItems xs) := hl
  refine call_min_walk (wpAny_pyIter_tuple hT ?_)
  refine ⟨_, _, _, _, _, _, _, rfl, Walks.tuple (A := X.A.in1) (I.ok.hd hc) _ a (Nat.ne_of_lt hlt) (intItems xs), ⟨⟨_, Heap.get?_push_size _ rfl, rfl, rfl⟩, hT.push _⟩, fun b hb => ?_, by simpa [intItems] using hsz, CmpOf.ints_lt (numAt xs) (fun _ _ => intItems_at), fun v h' tk hP hk => ?_⟩
  · show b < (s.heap.push _).objs.size
    rw [Heap.size_push]
    rcases List.mem_cons.mp hb with rfl | hb
    · exact Nat.lt_succ_self _
    · rcases List.mem_cons.mp hb with rfl | hb
      · exact Nat.lt_succ_of_lt hlt
      · cases hb
  · have hv : (intItems xs)[argBest (fun i j => decide (numAt xs i < numAt xs j)) (xs.size - 1)]? = some v := by simpa [intItems] using hP
    obtain ⟨t, rfl⟩ := intItems_at hv
    obtain ⟨h1, h2⟩ := argBest_lt (numAt xs) (xs.size - 1)
    have hk' : ∀ b o, s.heap.get? b = some o → h'.get? b = some o := fun b o e => by
      refine hk b o (fun hm => ?_) (Heap.get?_push_of_some _ e)
      rcases List.mem_cons.mp hm with e1 | hm
      · exact absurd (e1 ▸ Heap.lt_size e) (Nat.lt_irrefl _)
      · cases hm
    refine ⟨.int _, H, I.kept hk', ⟨_, rfl⟩, q _ ?_ fun y ha => ?_⟩
    · rw [numAt_eq]; exact PySem.getD_mem (by rw [List.length_map, Array.length_toList]; omega)
    · obtain ⟨j, hj, rfl⟩ := mem_getD ha
      rw [List.length_map, Array.length_toList] at hj
      rw [← numAt_eq]; exact h2 j (by omega)
/-- t.index(i), the first place, of ints -/
def rTIdx (K : PySem.W.Frag) : V → List V → Hp → VK → Prop := fun x xs H Q => ∃ p, ∃ ys : List Int, ∃ z j, x = .ref p ∧ xs = [.int z] ∧ SqT K H p (ys.map V.int) ∧ ys[j]? = some z ∧ (∀ m, m < j → ys[m]? ≠ some z) ∧ Q (.int (j : Nat)) H
theorem flat_ints (ys : List Int) : (ys.map V.int).all flatV = true := by
  rw [List.all_map]
  exact List.all_eq_true.mpr fun _ _ => rfl
theorem mt_tup_indexI : MtR X "tuple.index" (rTIdx X.K) := by
  intro pins s σ H x xs v us Q I rx rs h
  obtain ⟨p, ys, z, j, rfl, rfl, hq, hy, hno, q⟩ := h
  cases rx
  obtain ⟨u, rfl, t, rfl⟩ := vals1 rs
  obtain ⟨its, r, pl, hz⟩ := I.tuple hq
  obtain ⟨⟨cls, dd, dt, sl⟩, ho, hc, n, hd⟩ := pl
  simp only at hc hd
  subst hc
  subst hd
  have hl : its.toArray.size = ys.length := by rw [List.size_toArray, ← r.length, List.length_map]
  have hj : j < its.toArray.size := by rw [hl]; exact (List.getElem?_eq_some_iff.mp hy).1
  have at' : ∀ (m : Nat) (hm : m < its.toArray.size), ∃ y t', ys[m]? = some y ∧ its.toArray[m] = Value.int y t' := fun m hm => by
    have hm' : m < ys.length := by rw [← hl]; exact hm
    obtain ⟨w, hw, t', hw'⟩ := r.get (i := m) (x := .int ys[m]) (by simp [hm'])
    refine ⟨ys[m], t', List.getElem?_eq_getElem hm', ?_⟩
    have e := (List.getElem?_eq_some_iff.mp hw).2
    rw [← hw', ← e]
    simp
  have mt : ∀ (m : Nat) (hm : m < its.toArray.size), ∀ y, ys[m]? = some y → eqU (.int z) its.toArray[m] = eqV (.int y) (.int z) := fun m hm y h1 => by
    obtain ⟨y', t', h2, h3⟩ := at' m hm
    rw [h1] at h2
    cases h2
    rw [h3]
    exact eqU_of (show RelV (.int y) (Value.int y t') from ⟨t', rfl⟩) rfl
  refine call_meets PySem.F.slot_tuple_index ⟨_, ho, rfl⟩ PySem.F.entry_tuple_index (PySem.F.args_tuple_index_2 _ _) (TI.tuple_indexAt p its.toArray n dd sl (.int z t) (eqU (.int z)) j hj ?_ ?_)
    ⟨ho, fun w hw => mem_eqAt (x := .int z) ⟨t, rfl⟩ rfl r (flat_ints ys) w (by simpa using hw), ⟨.int (j : Nat), H, I.tok _, ⟨_, rfl⟩, q⟩⟩
  · rw [mt j hj z hy]
    show (z == z) = true
    exact beq_self_eq_true z
  · intro m hm hmj
    obtain ⟨y, t', h1, h2⟩ := at' m hm
    rw [mt m hm y h1]
    show (y == z) = false
    exact beq_eq_false_iff_ne.mpr fun e => hno m hmj (e ▸ h1)
end
theorem b_abs : bootBuiltins "abs" = some (.builtin "abs") := by decide +kernel
end SK
namespace SK
open PySem PySem.Spec PyProof.Rows L2 LamX
/-! ### the least price, the cheapest sign, the cheapest way -/
def mnI : List Int → Int
  | [] => 0
  | [x] => x
  | x :: y :: r => min x (mnI (y :: r))
theorem mnI_le : ∀ (l : List Int), ∀ y ∈ l, mnI l ≤ y
  | [], y, h => by cases h
  | [x], y, h => by
    have e : y = x := by simpa using h
    rw [e]
    exact Int.le_refl _
  | x :: z :: r, y, h => by
    have ih := mnI_le (z :: r)
    show min x (mnI (z :: r)) ≤ y
    rcases List.mem_cons.mp h with e | e
    · omega
    · have := ih y e
      omega
theorem mnI_mem : ∀ (l : List Int), l ≠ [] → mnI l ∈ l
  | [], h => absurd rfl h
  | [x], _ => by simp [mnI]
  | x :: z :: r, _ => by
    have ih := mnI_mem (z :: r) (by simp)
    show min x (mnI (z :: r)) ∈ x :: z :: r
    by_cases h : x ≤ mnI (z :: r)
    · rw [Int.min_eq_left h]
      exact List.mem_cons_self ..
    · rw [Int.min_eq_right (by omega)]
      exact List.mem_cons_of_mem _ ih
theorem mnI_of {l : List Int} {m : Int} (h1 : m ∈ l) (h2 : ∀ y ∈ l, m ≤ y) : m = mnI l := by
  have a := h2 _ (mnI_mem l (by intro z; rw [z] at h1; cases h1))
  have b := mnI_le l m h1
  omega
def csg (p : Pl) : Nat := 97 + p.pr.idxOf (mnI p.pr)
theorem signs_mem {many c : Nat} (hm : many ≤ 4) : c ∈ signs many ↔ 97 ≤ c ∧ c < 97 + many := by
  have h : many = 0 ∨ many = 1 ∨ many = 2 ∨ many = 3 ∨ many = 4 := by omega
  rcases h with h | h | h | h | h <;> subst h <;> simp [signs] <;> omega
theorem Pl.Ok.ne {p : Pl} (ok : p.Ok) : p.pr ≠ [] := fun z => by
  have h1 := ok.pl
  have h2 := ok.m1
  rw [z] at h1
  simp at h1
  omega
theorem csg_lt {p : Pl} (ok : p.Ok) : p.pr.idxOf (mnI p.pr) < p.many := by
  rw [← ok.pl]
  exact List.idxOf_lt_length_iff.mpr (mnI_mem _ ok.ne)
theorem csg_in {p : Pl} (ok : p.Ok) : csg p ∈ signs p.many := by
  have := csg_lt ok
  exact (signs_mem ok.m4).mpr ⟨by unfold csg; omega, by unfold csg; omega⟩
theorem cst_csg {p : Pl} (ok : p.Ok) : cst p (csg p) = mnI p.pr := by
  have h := csg_lt ok
  have h2 : p.pr.idxOf (mnI p.pr) < p.pr.length := by rw [ok.pl]; exact h
  unfold cst csg
  rw [if_neg (by omega), Nat.add_sub_cancel_left]
  simp [List.getD, List.getElem?_eq_getElem h2, List.getElem_idxOf h2]
theorem mn_in {p : Pl} (ok : p.Ok) : 1 ≤ mnI p.pr ∧ mnI p.pr ≤ 99 := ok.pr _ (mnI_mem _ ok.ne)
theorem cst_sign {p : Pl} (ok : p.Ok) {c : Nat} (h : c ∈ signs p.many) : cst p c ∈ p.pr := by
  have h' := (signs_mem ok.m4).mp h
  unfold cst
  rw [if_neg (by omega)]
  have h2 : c - 97 < p.pr.length := by rw [ok.pl]; omega
  simp [List.getD, List.getElem?_eq_getElem h2]
theorem cst_in {p : Pl} (ok : p.Ok) {c : Nat} (h : c = 45 ∨ c ∈ signs p.many) : 1 ≤ cst p c ∧ cst p c ≤ 99 := by
  by_cases e : c = 45
  · unfold cst
    rw [if_pos e]
    exact ⟨ok.q1, ok.q9⟩
  · exact ok.pr _ (cst_sign ok (h.resolve_left e))
theorem pay_p {p : Pl} (ok : p.Ok) : Pay p.many (mnI p.pr) p.pop (cst p) := by
  have := mn_in ok
  have := ok.q1
  exact ⟨by unfold cst; rw [if_pos rfl], fun c hc => mnI_le _ _ (cst_sign ok hc), by omega, by omega⟩
theorem pay_1 (many : Nat) : Pay many 1 1 (fun _ => 1) := ⟨rfl, fun _ _ => Int.le_refl _, by decide, by decide⟩
def wkey (p : Pl) (w : Nat × Nat) : Int := (w.1 : Int) * p.pop + (w.2 : Int) * (mnI p.pr + p.pop)
def chW (p : Pl) (t : Tr) : Nat × Nat := (ways p.room t).getD (bestN (fun i => wkey p ((ways p.room t).getD i (0, 0))) (ways p.room t).length) (0, 0)
theorem chW_k {p : Pl} {t : Tr} (h : t.k ≠ 0) : chW p t = (t.g, phi p.room t) := by
  unfold chW ways
  rw [if_neg h]
  rfl
theorem chW_0 {p : Pl} {t : Tr} (h : t.k = 0) : chW p t = if wkey p (p.room, 0) < wkey p (0, p.room - t.l.length) then (p.room, 0) else (0, p.room - t.l.length) := by
  unfold chW ways
  rw [if_pos h]
  show [(0, p.room - t.l.length), (p.room, 0)].getD (if decide (wkey p (p.room, 0) < wkey p (0, p.room - t.l.length)) = true then 1 else 0) (0, 0) = _
  by_cases c : wkey p (p.room, 0) < wkey p (0, p.room - t.l.length)
  · rw [decide_eq_true c, if_pos rfl, if_pos c]
    rfl
  · rw [decide_eq_false c, if_neg (by decide), if_neg c]
    rfl
theorem chW_mem (p : Pl) (t : Tr) : chW p t ∈ ways p.room t := by
  by_cases h : t.k = 0
  · rw [chW_0 h]
    unfold ways
    rw [if_pos h]
    split <;> simp
  · rw [chW_k h]
    unfold ways
    rw [if_neg h]
    simp
theorem wprice_key (p : Pl) (t : Tr) (w : Nat × Nat) : wprice (mnI p.pr) p.pop (cst p) t.l w = wkey p w + sprc (cst p) t.l := by
  unfold wprice wkey
  omega
theorem chW_LB (p : Pl) (t : Tr) : wprice (mnI p.pr) p.pop (cst p) t.l (chW p t) = LB p.room (mnI p.pr) p.pop (cst p) t := by
  unfold LB
  by_cases h : t.k = 0
  · rw [if_pos h, chW_0 h]
    simp only [wprice_key]
    split <;> omega
  · rw [if_neg h, chW_k h]
theorem ways_le {p : Pl} (ok : p.Ok) {t : Tr} (a : TrOk p.room p.many t) {w : Nat × Nat} (h : w ∈ ways p.room t) : w.1 ≤ 9 ∧ w.2 ≤ 9 := by
  have := ok.r9
  have := a.gk
  unfold ways at h
  split at h
  · rcases List.mem_cons.mp h with e | e
    · rw [e]
      exact ⟨by omega, by show p.room - _ ≤ 9; omega⟩
    · have e' : w = (p.room, 0) := by simpa using e
      rw [e']
      exact ⟨by show p.room ≤ 9; omega, by show 0 ≤ 9; omega⟩
  · have e' : w = (t.g, phi p.room t) := by simpa using h
    rw [e']
    exact ⟨by show t.g ≤ 9; omega, by show phi p.room t ≤ 9; unfold phi; omega⟩
/-- the cheapest steps -/
def chS (p : Pl) (t : Tr) : List Nat := wayS (csg p) (chW p t) t.l
theorem chS_in {p : Pl} (ok : p.Ok) {t : Tr} (a : TrOk p.room p.many t) : ∀ c ∈ chS p t, c = 45 ∨ c ∈ signs p.many := way_in (csg_in ok) a.s
theorem chS_told {p : Pl} (ok : p.Ok) {t : Tr} (a : TrOk p.room p.many t) : ttold p.room (chS p t) = t := way_told ok.r1 a (csg_in ok) (chW_mem p t)
theorem chS_price {p : Pl} (ok : p.Ok) (t : Tr) : sprc (cst p) (chS p t) = LB p.room (mnI p.pr) p.pop (cst p) t := by
  unfold chS
  rw [way_price (pay_p ok) (cst_csg ok), chW_LB]
theorem chS_len {p : Pl} (ok : p.Ok) {t : Tr} (a : TrOk p.room p.many t) : (chS p t).length ≤ 40 := by
  have h := ways_le ok a (chW_mem p t)
  have := ok.r9
  have := a.kl
  unfold chS
  rw [way_len]
  omega
def few (p : Pl) (t : Tr) : Int := LB p.room 1 1 (fun _ => 1) t
theorem sprc_1 (l : List Nat) : sprc (fun _ => 1) l = (l.length : Int) := by
  induction l with
  | nil => rfl
  | cons c r ih =>
    have e : sprc (fun _ => 1) (c :: r) = 1 + sprc (fun _ => 1) r := by simp [sprc]
    rw [e, ih]
    simp
    omega
/-! ### pairs of ints in the heap -/
def PairsAt (H : Hp) : List (Nat × Nat) → List V → Prop
  | [], vs => vs = []
  | w :: r, vs => ∃ a s, vs = .ref a :: s ∧ H a = some (.tup [.int (w.1 : Int), .int (w.2 : Int)]) ∧ PairsAt H r s
theorem PairsAt.tups {H H' : Hp} (e : Tups H H') : ∀ {ws : List (Nat × Nat)} {vs : List V}, PairsAt H ws vs → PairsAt H' ws vs
  | [], _, h => h
  | _ :: _, _, ⟨a, s, h1, h2, h3⟩ => ⟨a, s, h1, e _ _ h2, h3.tups e⟩
theorem PairsAt.len {H : Hp} : ∀ {ws : List (Nat × Nat)} {vs : List V}, PairsAt H ws vs → vs.length = ws.length
  | [], _, h => by cases h; rfl
  | _ :: r, _, ⟨a, s, h1, h2, h3⟩ => by
    subst h1
    show s.length + 1 = r.length + 1
    rw [h3.len]
theorem PairsAt.get {H : Hp} : ∀ {ws : List (Nat × Nat)} {vs : List V}, PairsAt H ws vs → ∀ {i : Nat} {x : V}, vs[i]? = some x → ∃ w a, ws[i]? = some w ∧ x = .ref a ∧ H a = some (.tup [.int (w.1 : Int), .int (w.2 : Int)])
  | [], vs, h, i, x, e => by
    cases h
    cases e
  | w :: r, vs, ⟨a, s, h1, h2, h3⟩, i, x, e => by
    subst h1
    cases i with
    | zero =>
      cases e
      exact ⟨w, a, rfl, rfl, h2⟩
    | succ i => exact h3.get (i := i) e
/-! ### all but the tables stands -/
def givN (T : List (Addr × Str)) (v : V) (H : Hp) (Q : VK) : Prop := ∀ H', ExtN H H' → Tabs T H' → Q v H'
theorem ExtN.ofS {H H' : Hp} (s : Same H H') : ExtN H H' := fun b o h _ => s b o h
theorem Tabs.same {T : List (Addr × Str)} {H H' : Hp} (t : Tabs T H) (s : Same H H') : Tabs T H' := t.ext s
theorem PlanAt.ext {H H' : Hp} {v : V} {p : Pl} (h : PlanAt H v p) (e : ExtN H H') : PlanAt H' v p := h.tups (Tups.ofN e)
theorem TripAt.ext {H H' : Hp} {v : V} {t : Tr} (h : TripAt H v t) (e : ExtN H H') : TripAt H' v t := h.tups (Tups.ofN e)
theorem BoxAt.ext {H H' : Hp} {p q : Addr} {ns : List Int} {z : Int} (h : BoxAt H p q ns z) (e : ExtN H H') : BoxAt H' p q ns z := ⟨e _ _ h.b (by intro ps z; cases z), e _ _ h.l (by intro ps z; cases z), h.ne⟩
theorem Tabs.keep {T : List (Addr × Str)} {H H' : Hp} {p q : Addr} {ns : List Int} {z : Int} (t : Tabs T H) (b : BoxAt H p q ns z) (k : Keep p q H H') : Tabs T H' := fun x hx => by
  obtain ⟨ps, h1, h2, h3⟩ := t x hx
  refine ⟨ps, ?_, h2, fun pos cv hc => ?_⟩
  · exact k _ _ h1 (ne_of h1 b.b (by intro z; cases z)) (ne_of h1 b.l (by intro z; cases z))
  · obtain ⟨c, e1, e2⟩ := h3 pos cv hc
    exact ⟨c, e1, k _ _ e2 (ne_of e2 b.b (by intro z; unfold CodeO at z; cases z)) (ne_of e2 b.l (by intro z; unfold CodeO at z; cases z))⟩
/-! ### promises -/
def spPSteps : Sp := fun vs H Q _ => ∃ v p l, vs = [v, .str (tx l)] ∧ PlanAt H v p ∧ p.Ok ∧ l.length ≤ 10000 ∧ (∀ c ∈ l, c = 45 ∨ c ∈ signs p.many) ∧ giv (.int (sprc (cst p) l)) H Q
def spWays : Sp := fun vs H Q _ => ∃ v p u t, vs = [v, u] ∧ PlanAt H v p ∧ p.Ok ∧ TripAt H u t ∧ TrOk p.room p.many t ∧ ∀ (D : Addr) (H' : Hp) (xs : List V), Same H H' → H D = none → H' D = some (.lst xs) → PairsAt H' (ways p.room t) xs → Q (.ref D) H'
def spCSign : Sp := fun vs H Q _ => ∃ v p, vs = [v] ∧ PlanAt H v p ∧ p.Ok ∧ giv (.str (tx [csg p])) H Q
def spStepsW : Sp := fun vs H Q _ => ∃ v p a w l, vs = [v, .ref a, .str (tx l)] ∧ PlanAt H v p ∧ p.Ok ∧ H a = some (.tup [.int ((w : Nat × Nat).1 : Int), .int (w.2 : Int)]) ∧ w.1 ≤ 9 ∧ w.2 ≤ 9 ∧ l.length ≤ 9 ∧ giv (.str (tx (wayS (csg p) w l))) H Q
def spChWay (T : List (Addr × Str)) : Sp := fun vs H Q _ => ∃ v p u t, vs = [v, u] ∧ PlanAt H v p ∧ p.Ok ∧ TripAt H u t ∧ TrOk p.room p.many t ∧ Tabs T H ∧ ∀ (a : Addr) (H' : Hp), ExtN H H' → Tabs T H' → H' a = some (.tup [.int ((chW p t).1 : Int), .int ((chW p t).2 : Int)]) → Q (.ref a) H'
def spCheap (T : List (Addr × Str)) : Sp := fun vs H Q _ => ∃ v p u t, vs = [v, u] ∧ PlanAt H v p ∧ p.Ok ∧ TripAt H u t ∧ TrOk p.room p.many t ∧ Tabs T H ∧ ∀ (a : Addr) (H' : Hp), ExtN H H' → Tabs T H' → H' a = some (.tup [.int (LB p.room (mnI p.pr) p.pop (cst p) t), .str (tx (chS p t))]) → Q (.ref a) H'
def spFill (T : List (Addr × Str)) : Sp := fun vs H Q _ => ∃ v p u t, vs = [v, u] ∧ PlanAt H v p ∧ p.Ok ∧ TripAt H u t ∧ TrOk p.room p.many t ∧ Tabs T H ∧ givN T (.int ((chW p t).2 : Int)) H Q
def spFew : Sp := fun vs H Q _ => ∃ v p u t, vs = [v, u] ∧ PlanAt H v p ∧ p.Ok ∧ TripAt H u t ∧ TrOk p.room p.many t ∧ giv (.int (few p t)) H Q
def spJudged : Sp := fun vs H Q _ => ∃ v p u t l, vs = [v, u, .str (tx l)] ∧ PlanAt H v p ∧ p.Ok ∧ TripAt H u t ∧ TrOk p.room p.many t ∧ l.length ≤ 10000 ∧ (∀ c ∈ l, c = 45 ∨ c ∈ signs p.many) ∧ ttold p.room l = t ∧ giv (.int (sprc (cst p) l)) H Q
def spLawT (K : PySem.W.Frag) (T : List (Addr × Str)) : Sp := fun vs H Q _ => ∃ (a : Addr) (ns : List Int), vs = [.ref a] ∧ SqL K H a (ns.map V.int) ∧ ns.length ≤ 63 ∧ Tabs T H ∧ ∀ H', Q (.bl true) H'
end SK
namespace SK
open PySem PySem.Spec PyProof.Rows L2
def top (i : Nat) : Stmt := PySem.Challenge.pw_sinkstack_k06_whole_one_told_price.main.body.getD i (.Pass ⟨0, 0, 0, 0⟩)
abbrev s_signs_of : Stmt := top 14
abbrev N_signs_of : List Str := ["plan"]
abbrev P_signs_of : List Str := ["plan"]
theorem sc_signs_of : FnScope N_signs_of P_signs_of (defScope s_signs_of) := ⟨rfl, rfl, rfl, by decide +kernel, rfl, by decide +kernel, by decide +kernel⟩
abbrev s_is_number : Stmt := top 15
abbrev N_is_number : List Str := ["value", "low", "high"]
abbrev P_is_number : List Str := ["value", "low", "high"]
theorem sc_is_number : FnScope N_is_number P_is_number (defScope s_is_number) := ⟨rfl, rfl, rfl, by decide +kernel, rfl, by decide +kernel, by decide +kernel⟩
abbrev s_is_text_of : Stmt := top 16
abbrev N_is_text_of : List Str := ["value", "signs", "sign"]
abbrev P_is_text_of : List Str := ["value", "signs"]
theorem sc_is_text_of : FnScope N_is_text_of P_is_text_of (defScope s_is_text_of) := ⟨rfl, rfl, rfl, by decide +kernel, rfl, by decide +kernel, by decide +kernel⟩
abbrev s_check_plan : Stmt := top 17
abbrev N_check_plan : List Str := ["plan", "room", "many", "prices", "pop_price"]
abbrev P_check_plan : List Str := ["plan"]
theorem sc_check_plan : FnScope N_check_plan P_check_plan (defScope s_check_plan) := ⟨rfl, rfl, rfl, by decide +kernel, rfl, by decide +kernel, by decide +kernel⟩
abbrev s_are_prices : Stmt := top 18
abbrev N_are_prices : List Str := ["prices", "many", "price"]
abbrev P_are_prices : List Str := ["prices", "many"]
theorem sc_are_prices : FnScope N_are_prices P_are_prices (defScope s_are_prices) := ⟨rfl, rfl, rfl, by decide +kernel, rfl, by decide +kernel, by decide +kernel⟩
abbrev s_check_steps : Stmt := top 19
abbrev N_check_steps : List Str := ["plan", "steps"]
abbrev P_check_steps : List Str := ["plan", "steps"]
theorem sc_check_steps : FnScope N_check_steps P_check_steps (defScope s_check_steps) := ⟨rfl, rfl, rfl, by decide +kernel, rfl, by decide +kernel, by decide +kernel⟩
abbrev s_check_triple : Stmt := top 20
abbrev N_check_triple : List Str := ["plan", "triple"]
abbrev P_check_triple : List Str := ["plan", "triple"]
theorem sc_check_triple : FnScope N_check_triple P_check_triple (defScope s_check_triple) := ⟨rfl, rfl, rfl, by decide +kernel, rfl, by decide +kernel, by decide +kernel⟩
abbrev s_is_triple : Stmt := top 21
abbrev N_is_triple : List Str := ["plan", "triple", "room", "gone", "kept", "laid"]
abbrev P_is_triple : List Str := ["plan", "triple"]
theorem sc_is_triple : FnScope N_is_triple P_is_triple (defScope s_is_triple) := ⟨rfl, rfl, rfl, by decide +kernel, rfl, by decide +kernel, by decide +kernel⟩
abbrev s_check_work : Stmt := top 22
abbrev N_check_work : List Str := ["plan", "work", "signs", "waiting", "number", "found", "deep", "inner"]
abbrev P_check_work : List Str := ["plan", "work"]
theorem sc_check_work : FnScope N_check_work P_check_work (defScope s_check_work) := ⟨rfl, rfl, rfl, by decide +kernel, rfl, by decide +kernel, by decide +kernel⟩
abbrev s_is_work_alone : Stmt := top 23
abbrev N_is_work_alone : List Str := ["work", "signs"]
abbrev P_is_work_alone : List Str := ["work", "signs"]
theorem sc_is_work_alone : FnScope N_is_work_alone P_is_work_alone (defScope s_is_work_alone) := ⟨rfl, rfl, rfl, by decide +kernel, rfl, by decide +kernel, by decide +kernel⟩
abbrev s_works_within : Stmt := top 24
abbrev N_works_within : List Str := ["work"]
abbrev P_works_within : List Str := ["work"]
theorem sc_works_within : FnScope N_works_within P_works_within (defScope s_works_within) := ⟨rfl, rfl, rfl, by decide +kernel, rfl, by decide +kernel, by decide +kernel⟩
abbrev s_told : Stmt := top 26
abbrev N_told : List Str := ["plan", "work"]
abbrev P_told : List Str := ["plan", "work"]
theorem sc_told : FnScope N_told P_told (defScope s_told) := ⟨rfl, rfl, rfl, by decide +kernel, rfl, by decide +kernel, by decide +kernel⟩
abbrev s_told_of_steps : Stmt := top 27
abbrev N_told_of_steps : List Str := ["plan", "steps"]
abbrev P_told_of_steps : List Str := ["plan", "steps"]
theorem sc_told_of_steps : FnScope N_told_of_steps P_told_of_steps (defScope s_told_of_steps) := ⟨rfl, rfl, rfl, by decide +kernel, rfl, by decide +kernel, by decide +kernel⟩
abbrev s_joined : Stmt := top 28
abbrev N_joined : List Str := ["plan", "one", "other"]
abbrev P_joined : List Str := ["plan", "one", "other"]
theorem sc_joined : FnScope N_joined P_joined (defScope s_joined) := ⟨rfl, rfl, rfl, by decide +kernel, rfl, by decide +kernel, by decide +kernel⟩
abbrev s_triple_of_work : Stmt := top 29
abbrev N_triple_of_work : List Str := ["plan", "work", "whole", "inner"]
abbrev P_triple_of_work : List Str := ["plan", "work"]
theorem sc_triple_of_work : FnScope N_triple_of_work P_triple_of_work (defScope s_triple_of_work) := ⟨rfl, rfl, rfl, by decide +kernel, rfl, by decide +kernel, by decide +kernel⟩
abbrev s_triple_of_steps : Stmt := top 30
abbrev N_triple_of_steps : List Str := ["plan", "steps", "whole", "step"]
abbrev P_triple_of_steps : List Str := ["plan", "steps"]
theorem sc_triple_of_steps : FnScope N_triple_of_steps P_triple_of_steps (defScope s_triple_of_steps) := ⟨rfl, rfl, rfl, by decide +kernel, rfl, by decide +kernel, by decide +kernel⟩
abbrev s_triple_of_step : Stmt := top 31
abbrev N_triple_of_step : List Str := ["plan", "step"]
abbrev P_triple_of_step : List Str := ["plan", "step"]
theorem sc_triple_of_step : FnScope N_triple_of_step P_triple_of_step (defScope s_triple_of_step) := ⟨rfl, rfl, rfl, by decide +kernel, rfl, by decide +kernel, by decide +kernel⟩
abbrev s_untouched : Stmt := top 32
abbrev N_untouched : List Str := ["plan"]
abbrev P_untouched : List Str := ["plan"]
theorem sc_untouched : FnScope N_untouched P_untouched (defScope s_untouched) := ⟨rfl, rfl, rfl, by decide +kernel, rfl, by decide +kernel, by decide +kernel⟩
abbrev s_tidied : Stmt := top 33
abbrev N_tidied : List Str := ["gone", "kept", "laid"]
abbrev P_tidied : List Str := ["gone", "kept", "laid"]
theorem sc_tidied : FnScope N_tidied P_tidied (defScope s_tidied) := ⟨rfl, rfl, rfl, by decide +kernel, rfl, by decide +kernel, by decide +kernel⟩
abbrev s_join_triples : Stmt := top 34
abbrev N_join_triples : List Str := ["one", "other", "gone", "kept", "laid", "next_gone", "next_kept", "next_laid", "deeper", "left", "still_kept"]
abbrev P_join_triples : List Str := ["one", "other"]
theorem sc_join_triples : FnScope N_join_triples P_join_triples (defScope s_join_triples) := ⟨rfl, rfl, rfl, by decide +kernel, rfl, by decide +kernel, by decide +kernel⟩
abbrev s_power_triple : Stmt := top 35
abbrev N_power_triple : List Str := ["plan", "triple", "many", "whole", "doubled", "left"]
abbrev P_power_triple : List Str := ["plan", "triple", "many"]
theorem sc_power_triple : FnScope N_power_triple P_power_triple (defScope s_power_triple) := ⟨rfl, rfl, rfl, by decide +kernel, rfl, by decide +kernel, by decide +kernel⟩
abbrev s_without_top : Stmt := top 36
abbrev N_without_top : List Str := ["stack", "many"]
abbrev P_without_top : List Str := ["stack", "many"]
theorem sc_without_top : FnScope N_without_top P_without_top (defScope s_without_top) := ⟨rfl, rfl, rfl, by decide +kernel, rfl, by decide +kernel, by decide +kernel⟩
abbrev s_top_of : Stmt := top 37
abbrev N_top_of : List Str := ["stack", "many"]
abbrev P_top_of : List Str := ["stack", "many"]
theorem sc_top_of : FnScope N_top_of P_top_of (defScope s_top_of) := ⟨rfl, rfl, rfl, by decide +kernel, rfl, by decide +kernel, by decide +kernel⟩
abbrev s_cost : Stmt := top 39
abbrev N_cost : List Str := ["plan", "work"]
abbrev P_cost : List Str := ["plan", "work"]
theorem sc_cost : FnScope N_cost P_cost (defScope s_cost) := ⟨rfl, rfl, rfl, by decide +kernel, rfl, by decide +kernel, by decide +kernel⟩
abbrev s_cheapest : Stmt := top 40
abbrev N_cheapest : List Str := ["plan", "triple", "way", "steps"]
abbrev P_cheapest : List Str := ["plan", "triple"]
theorem sc_cheapest : FnScope N_cheapest P_cheapest (defScope s_cheapest) := ⟨rfl, rfl, rfl, by decide +kernel, rfl, by decide +kernel, by decide +kernel⟩
abbrev s_fewest : Stmt := top 41
abbrev N_fewest : List Str := ["plan", "triple", "popped", "filled"]
abbrev P_fewest : List Str := ["plan", "triple"]
theorem sc_fewest : FnScope N_fewest P_fewest (defScope s_fewest) := ⟨rfl, rfl, rfl, by decide +kernel, rfl, by decide +kernel, by decide +kernel⟩
abbrev s_judged : Stmt := top 42
abbrev N_judged : List Str := ["plan", "triple", "steps"]
abbrev P_judged : List Str := ["plan", "triple", "steps"]
theorem sc_judged : FnScope N_judged P_judged (defScope s_judged) := ⟨rfl, rfl, rfl, by decide +kernel, rfl, by decide +kernel, by decide +kernel⟩
abbrev s_fillers : Stmt := top 43
abbrev N_fillers : List Str := ["plan", "triple"]
abbrev P_fillers : List Str := ["plan", "triple"]
theorem sc_fillers : FnScope N_fillers P_fillers (defScope s_fillers) := ⟨rfl, rfl, rfl, by decide +kernel, rfl, by decide +kernel, by decide +kernel⟩
abbrev s_ways : Stmt := top 44
abbrev N_ways : List Str := ["plan", "triple", "gone", "kept", "laid", "room"]
abbrev P_ways : List Str := ["plan", "triple"]
theorem sc_ways : FnScope N_ways P_ways (defScope s_ways) := ⟨rfl, rfl, rfl, by decide +kernel, rfl, by decide +kernel, by decide +kernel⟩
abbrev s_cheapest_way : Stmt := top 45
abbrev N_cheapest_way : List Str := ["plan", "triple", "filler_price", "pop_price"]
abbrev P_cheapest_way : List Str := ["plan", "triple"]
theorem sc_cheapest_way : FnScope N_cheapest_way P_cheapest_way (defScope s_cheapest_way) := ⟨rfl, rfl, rfl, by decide +kernel, rfl, by decide +kernel, by decide +kernel⟩
abbrev s_steps_of_way : Stmt := top 46
abbrev N_steps_of_way : List Str := ["plan", "way", "laid", "popped", "filled", "filling"]
abbrev P_steps_of_way : List Str := ["plan", "way", "laid"]
theorem sc_steps_of_way : FnScope N_steps_of_way P_steps_of_way (defScope s_steps_of_way) := ⟨rfl, rfl, rfl, by decide +kernel, rfl, by decide +kernel, by decide +kernel⟩
abbrev s_cheapest_sign : Stmt := top 47
abbrev N_cheapest_sign : List Str := ["plan", "prices"]
abbrev P_cheapest_sign : List Str := ["plan"]
theorem sc_cheapest_sign : FnScope N_cheapest_sign P_cheapest_sign (defScope s_cheapest_sign) := ⟨rfl, rfl, rfl, by decide +kernel, rfl, by decide +kernel, by decide +kernel⟩
abbrev s_price_of_work : Stmt := top 48
abbrev N_price_of_work : List Str := ["plan", "work", "inner"]
abbrev P_price_of_work : List Str := ["plan", "work"]
theorem sc_price_of_work : FnScope N_price_of_work P_price_of_work (defScope s_price_of_work) := ⟨rfl, rfl, rfl, by decide +kernel, rfl, by decide +kernel, by decide +kernel⟩
abbrev s_price_of_steps : Stmt := top 49
abbrev N_price_of_steps : List Str := ["plan", "steps", "step"]
abbrev P_price_of_steps : List Str := ["plan", "steps"]
theorem sc_price_of_steps : FnScope N_price_of_steps P_price_of_steps (defScope s_price_of_steps) := ⟨rfl, rfl, rfl, by decide +kernel, rfl, by decide +kernel, by decide +kernel⟩
abbrev s_price_of_step : Stmt := top 50
abbrev N_price_of_step : List Str := ["plan", "step"]
abbrev P_price_of_step : List Str := ["plan", "step"]
theorem sc_price_of_step : FnScope N_price_of_step P_price_of_step (defScope s_price_of_step) := ⟨rfl, rfl, rfl, by decide +kernel, rfl, by decide +kernel, by decide +kernel⟩
abbrev s_law_begun : Stmt := top 52
abbrev N_law_begun : List Str := ["_law_script", "_law_stirred", "_law_cell"]
abbrev P_law_begun : List Str := ["_law_script"]
theorem sc_law_begun : FnScope N_law_begun P_law_begun (defScope s_law_begun) := ⟨rfl, rfl, rfl, by decide +kernel, rfl, by decide +kernel, by decide +kernel⟩
abbrev s_law_take : Stmt := top 53
abbrev N_law_take : List Str := ["_law_box", "_law_size", "_law_figure"]
abbrev P_law_take : List Str := ["_law_box", "_law_size"]
theorem sc_law_take : FnScope N_law_take P_law_take (defScope s_law_take) := ⟨rfl, rfl, rfl, by decide +kernel, rfl, by decide +kernel, by decide +kernel⟩
abbrev s_law_plan : Stmt := top 55
abbrev N_law_plan : List Str := ["_law_box", "_law_room", "_law_signs_here", "_law_size", "_law_prices", "_law_k"]
abbrev P_law_plan : List Str := ["_law_box", "_law_room", "_law_signs_here"]
theorem sc_law_plan : FnScope N_law_plan P_law_plan (defScope s_law_plan) := ⟨rfl, rfl, rfl, by decide +kernel, rfl, by decide +kernel, by decide +kernel⟩
abbrev s_law_signs : Stmt := top 56
abbrev N_law_signs : List Str := ["_law_box", "_law_plan_here", "_law_limit", "_law_k"]
abbrev P_law_signs : List Str := ["_law_box", "_law_plan_here", "_law_limit"]
theorem sc_law_signs : FnScope N_law_signs P_law_signs (defScope s_law_signs) := ⟨rfl, rfl, rfl, by decide +kernel, rfl, by decide +kernel, by decide +kernel⟩
abbrev s_law_work : Stmt := top 58
abbrev N_law_work : List Str := ["_law_box", "_law_plan_here", "_law_deep", "_law_times", "_law_way", "_law_k"]
abbrev P_law_work : List Str := ["_law_box", "_law_plan_here", "_law_deep", "_law_times"]
theorem sc_law_work : FnScope N_law_work P_law_work (defScope s_law_work) := ⟨rfl, rfl, rfl, by decide +kernel, rfl, by decide +kernel, by decide +kernel⟩
abbrev s_law_tuples : Stmt := top 59
abbrev N_law_tuples : List Str := ["_law_work_here", "_law_part"]
abbrev P_law_tuples : List Str := ["_law_work_here"]
theorem sc_law_tuples : FnScope N_law_tuples P_law_tuples (defScope s_law_tuples) := ⟨rfl, rfl, rfl, by decide +kernel, rfl, by decide +kernel, by decide +kernel⟩
abbrev s_law_some : Stmt := top 60
abbrev N_law_some : List Str := ["_law_box", "_law_plan_here", "_law_deep", "_law_times", "_law_limit", "_law_found"]
abbrev P_law_some : List Str := ["_law_box", "_law_plan_here", "_law_deep", "_law_times", "_law_limit"]
theorem sc_law_some : FnScope N_law_some P_law_some (defScope s_law_some) := ⟨rfl, rfl, rfl, by decide +kernel, rfl, by decide +kernel, by decide +kernel⟩
abbrev s_law_triple : Stmt := top 61
abbrev N_law_triple : List Str := ["_law_box", "_law_plan_here", "_law_kept", "_law_laid"]
abbrev P_law_triple : List Str := ["_law_box", "_law_plan_here"]
theorem sc_law_triple : FnScope N_law_triple P_law_triple (defScope s_law_triple) := ⟨rfl, rfl, rfl, by decide +kernel, rfl, by decide +kernel, by decide +kernel⟩
abbrev s_law : Stmt := top 62
abbrev N_law : List Str := ["_law_script", "_law_box", "_law_turn", "_law_plan_here", "_law_triple_here", "_law_low", "_law_gone", "_law_kept", "_law_laid", "_law_room", "_law_fill", "_law_paid", "_law_paths", "_law_sums", "_law_price", "_law_steps_here", "_law_few", "_law_work_here", "_law_other", "_law_both", "_law_pops", "_law_rest", "_law_sign"]
abbrev P_law : List Str := ["_law_script"]
theorem sc_law : FnScope N_law P_law (defScope s_law) := ⟨rfl, rfl, rfl, by decide +kernel, rfl, by decide +kernel, by decide +kernel⟩
/-! ### what the module's names hold -/
structure Gx (mg : Str → Option Value) : Prop where
  SIGNS : ∃ u, mg "SIGNS" = some u ∧ RelV (.str (tx [97, 98, 99, 100])) u
  POP_STEP : ∃ u, mg "POP_STEP" = some u ∧ RelV (.str (tx [45])) u
  MOST_ROOM : ∃ u, mg "MOST_ROOM" = some u ∧ RelV (.int 9) u
  MOST_PRICE : ∃ u, mg "MOST_PRICE" = some u ∧ RelV (.int 99) u
  MOST_TIMES : ∃ u, mg "MOST_TIMES" = some u ∧ RelV (.int 1000000000000000000) u
  MOST_WORKS : ∃ u, mg "MOST_WORKS" = some u ∧ RelV (.int 60) u
  MOST_DEEP : ∃ u, mg "MOST_DEEP" = some u ∧ RelV (.int 8) u
  isi : mg "isinstance" = none
  bool : mg "bool" = none
  int : mg "int" = none
  str : mg "str" = none
  tuple : mg "tuple" = none
  len : mg "len" = none
  all : mg "all" = none
  max : mg "max" = none
  min : mg "min" = none
  range : mg "range" = none
  list : mg "list" = none
  reversed : mg "reversed" = none
  sum : mg "sum" = none
  abs : mg "abs" = none
section
variable {P : Program} {w : World} {K : PySem.W.Frag} {mg : Str → Option Value} {base : Heap}
theorem ok_signs_of (D : Dn K mg "signs_of" s_signs_of P_signs_of) (g : Gx mg) : C8.Cal P w K mg base 1 "signs_of" spSigns [] := by
  refine D.cal sc_signs_of (fun vs H Q E h => ?_) (fun f cdv A outer s H vs Q E hr h => ?_)
  · obtain ⟨v, p, rfl, ⟨a, b, rfl, ha, hb⟩, ok, q⟩ := h
    rfl
  obtain ⟨v, p, rfl, ⟨a, b, rfl, ha, hb⟩, ok, q⟩ := h
  have nd := sc_signs_of.nd
  refine ⟨_, (pss_one (ps_ret (pe_slice sl_str (C8.pe_gc rfl g.SIGNS) po_none (po_some (pe_ix ix_tup (pv 0) pe_int (fun _ _ => rfl)))))), ?_⟩
  refine ⟨_, rfl, a, _, 1, _, rfl, rfl, SqT.of ha, rfl, _, rfl, _, rfl, sz (by decide), ?_⟩
  rw [cut_to (l := [97, 98, 99, 100]) (n := p.many) ok.m4]
  exact q H (Same.refl H)
theorem ok_is_number (D : Dn K mg "is_number" s_is_number P_is_number) (g : Gx mg) : C8.Cal P w K mg base 1 "is_number" spNum [] := by
  refine D.cal sc_is_number (fun vs H Q E h => ?_) (fun f cdv A outer s H vs Q E hr h => ?_)
  · obtain ⟨i, lo, hi, rfl, q⟩ := h
    rfl
  obtain ⟨i, lo, hi, rfl, q⟩ := h
  have nd := sc_is_number.nd
  refine ⟨_, (pss_one (ps_ret (pe_and (pe_callB call_isi rfl g.isi b_isi (pa_cons (pv 0) (pa_cons (pe_bltn (v := .ty "int") rfl g.int b_int rfl) pa_nil))) (pe_and (pe_not (pe_callB call_isi rfl g.isi b_isi (pa_cons (pv 0) (pa_cons (pe_bltn (v := .ty "bool") rfl g.bool b_bool rfl) pa_nil)))) (pe_one (pe_chain op_le op_le (pv 1) (pv 0) (pv 2))))))), ?_⟩
  refine ⟨_, rfl, _, _, _, _, _, rfl, .ty "int", ty_int, kit_ty k_int_int, _, rfl, iteT ?_⟩
  refine ⟨_, rfl, _, _, _, _, _, rfl, .ty "bool", ty_int, kit_ty k_int_bool, _, rfl, _, rfl, iteT ?_⟩
  refine ⟨_, rfl, _, rfl, _, _, rfl, rfl, _, rfl, ite2 (fun c => ?_) (fun c => ?_)⟩
  · have c1 : lo ≤ i := of_decide_eq_true c
    refine ⟨_, rfl, _, _, rfl, rfl, ?_⟩
    have e : decide (lo ≤ i ∧ i ≤ hi) = decide (i ≤ hi) := by simp [c1]
    have q1 := q H (Same.refl H)
    rw [e] at q1
    exact q1
  · have c1 : ¬ lo ≤ i := fun z => c (decide_eq_true z)
    have e : decide (lo ≤ i ∧ i ≤ hi) = false := by simp [c1]
    have q1 := q H (Same.refl H)
    rw [e] at q1
    exact q1
theorem ok_is_text_of (D : Dn K mg "is_text_of" s_is_text_of P_is_text_of) (g : Gx mg) : C8.Cal P w K mg base 1 "is_text_of" spTextOf [] := by
  refine D.cal sc_is_text_of (fun vs H Q E h => ?_) (fun f cdv A outer s H vs Q E hr h => ?_)
  · obtain ⟨l, sg, rfl, hl, q⟩ := h
    rfl
  obtain ⟨l, sg, rfl, hl, q⟩ := h
  have nd := sc_is_text_of.nd
  refine ⟨_, (pss_one (ps_ret (pe_and (pe_callB call_isi rfl g.isi b_isi (pa_cons (pv 0) (pa_cons (pe_bltn (v := .ty "str") rfl g.str b_str rfl) pa_nil))) (pe_one (pe_callB (cr_all rfl) rfl g.all b_all (pa_cons (pe_lc (own := [("sign", 2)]) rfl nd (pi_str (pv 0)) (blkOk_by (own := [("sign", 2)]) (N := N_is_text_of) (sc := defScope s_is_text_of) (by decide +kernel)) (fun _ _ _ _ _ => (pg_name (i := 2) nd rfl (.inl rfl))) (fun _ _ _ _ _ => pts_nil) (fun _ _ _ _ _ => (pe_cmpR op_in_sign (pv 2) (pv 1) rfl))) pa_nil)))))), ?_⟩
  refine ⟨_, rfl, _, _, _, _, _, rfl, .ty "str", ty_str, kit_ty k_str_str, _, rfl, iteT ?_⟩
  refine ⟨_, rfl, _, rfl, fun D hD => ?_⟩
  have hn : (tx l).cps.size = l.length := tx_len l
  refine lc_it (walk_str (z := tx l)) (fun i H2 => Same H H2 ∧ H2 D = some (.lst ((l.take i).map fun c => V.bl (decide (c ∈ sg))))) ⟨Same.new hD _, upd_same⟩ (fun _ _ _ _ => trivial) ?_ ?_
  · rintro i x H2 H3 hi ⟨s2, h2⟩ ⟨rfl, c, hc, rfl⟩
    have hc' : l[i]? = some c := by
      rw [← hc]
      simp [tx]
    refine ⟨rfl, ?_⟩
    refine ⟨_, rfl, _, rfl, c, tx sg, rfl, rfl, _, h2, ?_, fun b o e => ?_, ?_⟩
    · rw [List.length_map, List.length_take]
      exact szl (by omega)
    · rw [upd_ne (ne_of_none e hD)]
      exact s2 b o e
    · rw [upd_same, List.take_add_one, hc']
      simp [tx_list]
      exact decide_eq_decide.mpr Iff.rfl
  · rintro H2 ⟨s2, h2⟩
    rw [hn, List.take_of_length_le (Nat.le_refl _)] at h2
    refine ⟨D, l.map fun c => decide (c ∈ sg), rfl, SqL.of (by rw [h2, List.map_map]; rfl), ?_⟩
    have e : (l.map fun c => decide (c ∈ sg)).all id = decide (∀ c ∈ l, c ∈ sg) := by
      rw [List.all_map, Bool.eq_iff_iff]
      simp
    rw [e]
    exact q H2 s2
theorem ok_are_prices (D : Dn K mg "are_prices" s_are_prices P_are_prices) (g : Gx mg) (c_is_number : C8.Cal P w K mg base 1 "is_number" spNum []) : C8.Cal P w K mg base 2 "are_prices" spPrices [] := by
  refine D.cal sc_are_prices (fun vs H Q E h => ?_) (fun f cdv A outer s H vs Q E hr h => ?_)
  · obtain ⟨b, p, rfl, hb, ok, q⟩ := h
    rfl
  obtain ⟨b, p, rfl, hb, ok, q⟩ := h
  have nd := sc_are_prices.nd
  refine ⟨_, (pss_cons (ps_if (PW.pt (pw_or (pt_not (pt_val (pe_callB call_isi rfl g.isi b_isi (pa_cons (pv 0) (pa_cons (pe_bltn (v := .ty "tuple") rfl g.tuple b_tuple rfl) pa_nil))))) (pw_or1 (pt_cmpR op_ne (pe_callB call_len_seq rfl g.len PySem.boot_len (pa_cons (pv 0) pa_nil)) (pv 1) (nomark _))))) (pss_one (ps_ret pe_bl)) pss_nil)
    (pss_one (ps_ret (pe_callB (cr_all rfl) rfl g.all b_all (pa_cons (pe_lc (own := [("price", 2)]) rfl nd (pi_tup (pv 0)) (blkOk_by (own := [("price", 2)]) (N := N_are_prices) (sc := defScope s_are_prices) (by decide +kernel)) (fun _ _ _ _ _ => (pg_name (i := 2) nd rfl (.inl rfl))) (fun _ _ _ _ _ => pts_nil) (fun _ _ _ _ _ => (C8.pe_c c_is_number (by exact hr) (by decide) rfl (pa_cons (pv 2) (pa_cons pe_int (pa_cons (C8.pe_gc rfl g.MOST_PRICE) pa_nil)))))) pa_nil))))), ?_⟩
  have hl : (p.pr.map V.int).length = p.many := by rw [List.length_map]; exact ok.pl
  refine ⟨_, rfl, _, _, _, _, _, rfl, .ty "tuple", hb.ty, kit_ty k_tup_tup, _, rfl, iteF ?_⟩
  refine ⟨_, rfl, b, _, rfl, .inr (TupF.sq hb), _, rfl, rfl, _, rfl, iteNS (by rw [hl]) ?_⟩
  refine ⟨_, rfl, b, rfl, ⟨_, TupF.sq hb⟩, fun D hD => ?_⟩
  refine lc_it (walk_tup (a := b) (xs := p.pr.map V.int)) (fun i H2 => Same H H2 ∧ H2 D = some (.lst ((List.replicate i true).map V.bl))) ⟨Same.new hD _, upd_same⟩ (fun i H2 _ h2 => TupF.sq (PrAt.mono hb h2.1)) ?_ ?_
  · rintro i x H2 H3 hi ⟨s2, h2⟩ ⟨rfl, hx⟩
    rw [List.getElem?_map] at hx
    obtain ⟨y, hy, rfl⟩ := Option.map_eq_some_iff.mp hx
    have hy' := ok.pr y (List.mem_of_getElem? hy)
    refine ⟨rfl, ?_⟩
    refine ⟨_, rfl, y, 1, 99, rfl, fun H4 s4 => ⟨_, s4 _ _ h2, ?_, fun b o e => ?_, ?_⟩⟩
    · rw [List.length_map, List.length_replicate]
      have := ok.m4
      exact szl (by omega)
    · rw [upd_ne (ne_of_none e hD)]
      exact s4 _ _ (s2 b o e)
    · rw [upd_same, List.replicate_succ', List.map_append, decide_eq_true hy']
      rfl
  · rintro H2 ⟨s2, h2⟩
    refine ⟨D, _, rfl, SqL.of h2, ?_⟩
    have e : (List.replicate (p.pr.map V.int).length true).all id = true := by simp
    rw [e]
    exact q H2 s2
theorem mem_steps {c n : Nat} : c ∈ signs n ++ [45] ↔ c = 45 ∨ c ∈ signs n := by
  rw [List.mem_append, List.mem_singleton, Or.comm]
theorem ok_check_plan (D : Dn K mg "check_plan" s_check_plan P_check_plan) (g : Gx mg) (c_is_number : C8.Cal P w K mg base 1 "is_number" spNum []) (c_are_prices : C8.Cal P w K mg base 2 "are_prices" spPrices []) : C8.Cal P w K mg base 3 "check_plan" spChPlan [] := by
  refine D.cal sc_check_plan (fun vs H Q E h => ?_) (fun f cdv A outer s H vs Q E hr h => ?_)
  · obtain ⟨v, p, rfl, ⟨a, b, rfl, ha, hb⟩, ok, q⟩ := h
    rfl
  obtain ⟨v, p, rfl, ⟨a, b, rfl, ha, hb⟩, ok, q⟩ := h
  have nd := sc_check_plan.nd
  refine ⟨_, (pss_cons (ps_if (PW.pt (pw_or (pt_not (pt_val (pe_callB call_isi rfl g.isi b_isi (pa_cons (pv 0) (pa_cons (pe_bltn (v := .ty "tuple") rfl g.tuple b_tuple rfl) pa_nil))))) (pw_or1 (pt_cmpR op_ne (pe_callB call_len_seq rfl g.len PySem.boot_len (pa_cons (pv 0) pa_nil)) pe_int (nomark _))))) (pss_one ps_never) pss_nil)
    (pss_cons (ps_asg (pv 0) (pg_tup (by rfl) (pgs_cons (pg_name (i := 1) nd rfl (.inl rfl)) (pgs_cons (pg_name (i := 2) nd rfl (.inl rfl)) (pgs_cons (pg_name (i := 3) nd rfl (.inl rfl)) (pgs_cons (pg_name (i := 4) nd rfl (.inl rfl)) pgs_nil))))))
    (pss_cons (ps_if (pt_not (pt_val (C8.pe_c c_is_number hr (by decide) rfl (pa_cons (pv 1) (pa_cons pe_int (pa_cons (C8.pe_gc rfl g.MOST_ROOM) pa_nil)))))) (pss_one ps_never) pss_nil)
    (pss_cons (ps_if (pt_not (pt_val (C8.pe_c c_is_number hr (by decide) rfl (pa_cons (pv 2) (pa_cons pe_int (pa_cons (pe_callB call_len_str rfl g.len PySem.boot_len (pa_cons (C8.pe_gc rfl g.SIGNS) pa_nil)) pa_nil)))))) (pss_one ps_never) pss_nil)
    (pss_cons (ps_if (pt_not (pt_val (C8.pe_c c_are_prices hr (by decide) rfl (pa_cons (pv 3) (pa_cons (pv 2) pa_nil))))) (pss_one ps_never) pss_nil)
    (pss_one (ps_if (pt_not (pt_val (C8.pe_c c_is_number hr (by decide) rfl (pa_cons (pv 4) (pa_cons pe_int (pa_cons (C8.pe_gc rfl g.MOST_PRICE) pa_nil)))))) (pss_one ps_never) pss_nil))))))), ?_⟩
  refine ⟨_, rfl, _, _, _, _, _, rfl, .ty "tuple", ty_tup ha, kit_ty k_tup_tup, _, rfl, iteF ?_⟩
  refine ⟨_, rfl, a, _, rfl, .inr (SqT.of ha), rfl, _, rfl, iteNS rfl ?_⟩
  refine ⟨_, rfl, a, _, rfl, SqT.of ha, rfl, _, _, rfl, _, _, rfl, _, _, rfl, _, _, rfl, rfl, ?_⟩
  have e0 : decide ((1 : Int) ≤ (p.room : Int) ∧ (p.room : Int) ≤ 9) = true := decide_eq_true (by have := ok.r1; have := ok.r9; omega)
  have e1 : decide ((1 : Int) ≤ (p.many : Int) ∧ (p.many : Int) ≤ 4) = true := decide_eq_true (by have := ok.m1; have := ok.m4; omega)
  have e3 : decide ((1 : Int) ≤ p.pop ∧ p.pop ≤ 99) = true := decide_eq_true ⟨ok.q1, ok.q9⟩
  refine ⟨_, rfl, p.room, 1, 9, rfl, fun H1 s1 => ⟨_, rfl, ?_⟩⟩
  rw [e0]
  refine iteF ?_
  refine ⟨_, rfl, _, rfl, by rw [tx_len]; exact sz (by decide), p.many, 1, 4, rfl, fun H2 s2 => ⟨_, rfl, ?_⟩⟩
  rw [e1]
  refine iteF ?_
  refine ⟨_, rfl, _, rfl, b, p, rfl, PrAt.mono hb (s1.trans s2), ok, fun H3 s3 => ⟨_, rfl, iteF ?_⟩⟩
  refine ⟨_, rfl, p.pop, 1, 99, rfl, fun H4 s4 => ⟨_, rfl, ?_⟩⟩
  rw [e3]
  refine iteF ?_
  exact q H4 (s1.trans (s2.trans (s3.trans s4)))
theorem ok_check_steps (D : Dn K mg "check_steps" s_check_steps P_check_steps) (g : Gx mg) (c_signs_of : C8.Cal P w K mg base 1 "signs_of" spSigns []) (c_is_text_of : C8.Cal P w K mg base 1 "is_text_of" spTextOf []) : C8.Cal P w K mg base 2 "check_steps" spChSteps [] := by
  refine D.cal sc_check_steps (fun vs H Q E h => ?_) (fun f cdv A outer s H vs Q E hr h => ?_)
  · obtain ⟨v, p, l, rfl, ⟨a, b, rfl, ha, hb⟩, ok, hl, hs, q⟩ := h
    rfl
  obtain ⟨v, p, l, rfl, ⟨a, b, rfl, ha, hb⟩, ok, hl, hs, q⟩ := h
  have nd := sc_check_steps.nd
  refine ⟨_, (pss_one (ps_if (pt_not (pt_val (C8.pe_c c_is_text_of hr (by decide) rfl (pa_cons (pv 1) (pa_cons (pe_op op_add_str (C8.pe_c c_signs_of hr (by decide) rfl (pa_cons (pv 0) pa_nil)) (C8.pe_gc rfl g.POP_STEP)) pa_nil))))) (pss_one ps_never) pss_nil)), ?_⟩
  refine ⟨_, rfl, _, rfl, _, p, rfl, ⟨a, b, rfl, ha, hb⟩, ok, fun H1 s1 => ⟨_, _, rfl, rfl, ?_, ?_⟩⟩
  · rw [tx_len, tx_len]
    have := signs_len p.many
    exact sz (by simp; omega)
  rw [tx_app]
  refine ⟨l, _, rfl, hl, fun H2 s2 => ⟨_, rfl, ?_⟩⟩
  rw [decide_eq_true (fun c hc => mem_steps.mpr (hs c hc))]
  exact iteF (q H2 (s1.trans s2))
theorem ok_is_triple (D : Dn K mg "is_triple" s_is_triple P_is_triple) (g : Gx mg) (c_is_number : C8.Cal P w K mg base 1 "is_number" spNum []) (c_signs_of : C8.Cal P w K mg base 1 "signs_of" spSigns []) (c_is_text_of : C8.Cal P w K mg base 1 "is_text_of" spTextOf []) : C8.Cal P w K mg base 2 "is_triple" spIsTriple [] := by
  refine D.cal sc_is_triple (fun vs H Q E h => ?_) (fun f cdv A outer s H vs Q E hr h => ?_)
  · obtain ⟨v, p, u, t, rfl, ⟨a, b, rfl, ha, hb⟩, ok, ⟨c, rfl, hc⟩, tok, q⟩ := h
    rfl
  obtain ⟨v, p, u, t, rfl, ⟨a, b, rfl, ha, hb⟩, ok, ⟨c, rfl, hc⟩, tok, q⟩ := h
  have nd := sc_is_triple.nd
  refine ⟨_, (pss_cons (ps_if (PW.pt (pw_or (pt_not (pt_val (pe_callB call_isi rfl g.isi b_isi (pa_cons (pv 1) (pa_cons (pe_bltn (v := .ty "tuple") rfl g.tuple b_tuple rfl) pa_nil))))) (pw_or1 (pt_cmpR op_ne (pe_callB call_len_seq rfl g.len PySem.boot_len (pa_cons (pv 1) pa_nil)) pe_int (nomark _))))) (pss_one (ps_ret pe_bl)) pss_nil)
    (pss_cons (ps_set (i := 2) nd rfl (.inl rfl) (pe_ix ix_tup (pv 0) pe_int (fun _ _ => rfl)))
    (pss_cons (ps_asg (pv 1) (pg_tup (by rfl) (pgs_cons (pg_name (i := 3) nd rfl (.inl rfl)) (pgs_cons (pg_name (i := 4) nd rfl (.inl rfl)) (pgs_cons (pg_name (i := 5) nd rfl (.inl rfl)) pgs_nil)))))
    (pss_cons (ps_if (PW.pt (pw_or (pt_not (pt_val (C8.pe_c c_is_number hr (by decide) rfl (pa_cons (pv 3) (pa_cons pe_int (pa_cons (pv 2) pa_nil)))))) (pw_or1 (pt_not (pt_val (C8.pe_c c_is_number hr (by decide) rfl (pa_cons (pv 4) (pa_cons pe_int (pa_cons (pv 2) pa_nil))))))))) (pss_one (ps_ret pe_bl)) pss_nil)
    (pss_cons (ps_if (pt_not (pt_val (C8.pe_c c_is_text_of hr (by decide) rfl (pa_cons (pv 5) (pa_cons (C8.pe_c c_signs_of hr (by decide) rfl (pa_cons (pv 0) pa_nil)) pa_nil))))) (pss_one (ps_ret pe_bl)) pss_nil)
    (pss_cons (ps_if (PW.pt (pw_and (pt_cmpR op_eq (pv 4) pe_int (nomark _)) (pw_and1 (pt_cmpR op_ne (pv 3) pe_int (nomark _))))) (pss_one (ps_ret pe_bl)) pss_nil)
    (pss_one (ps_ret (pe_and (pe_cmpR op_le (pe_op op_add (pv 3) (pv 4)) (pv 2) (nomark _)) (pe_one (pe_cmpR op_le (pe_op op_add (pe_callB call_len_str rfl g.len PySem.boot_len (pa_cons (pv 5) pa_nil)) (pv 4)) (pv 2) (nomark _)))))))))))), ?_⟩
  have h1 := tok.gk
  have h2 := tok.kl
  have h3 := tok.z
  have hr9 := ok.r9
  refine ⟨_, rfl, _, _, _, _, _, rfl, .ty "tuple", ty_tup hc, kit_ty k_tup_tup, _, rfl, iteF ?_⟩
  refine ⟨_, rfl, c, _, rfl, .inr (SqT.of hc), rfl, _, rfl, iteNS rfl ?_⟩
  refine ⟨_, rfl, a, _, 0, _, rfl, rfl, SqT.of ha, rfl, ?_⟩
  refine ⟨_, rfl, c, _, rfl, SqT.of hc, rfl, _, _, rfl, _, _, rfl, _, _, rfl, rfl, ?_⟩
  refine ⟨_, rfl, _, rfl, t.g, 0, p.room, rfl, fun H1 s1 => ⟨_, rfl, ?_⟩⟩
  rw [decide_eq_true (by omega)]
  refine iteF ?_
  refine ⟨_, rfl, _, rfl, t.k, 0, p.room, rfl, fun H2 s2 => ⟨_, rfl, ?_⟩⟩
  rw [decide_eq_true (by omega)]
  refine iteF ?_
  refine ⟨_, rfl, _, rfl, _, p, rfl, ⟨a, b, rfl, (s1.trans s2) _ _ ha, PrAt.mono hb (s1.trans s2)⟩, ok, fun H3 s3 => ?_⟩
  refine ⟨t.l, signs p.many, rfl, by omega, fun H4 s4 => ⟨_, rfl, ?_⟩⟩
  rw [decide_eq_true tok.s]
  refine iteF ?_
  refine ⟨_, rfl, rfl, _, rfl, ite2 (fun z => ?_) (fun z => ?_)⟩
  · have z1 : t.k = 0 := by
      have z1 := of_decide_eq_true z
      injection z1 with z2
      omega
    have z2 := h3 z1
    refine ⟨_, rfl, rfl, _, rfl, iteNS (by rw [z2]; rfl) ?_⟩
    refine ⟨_, rfl, _, rfl, _, _, rfl, rfl, _, rfl, _, _, rfl, rfl, _, rfl, ?_⟩
    rw [decide_eq_true (by omega)]
    refine iteT ⟨_, rfl, _, rfl, by rw [tx_len]; exact sz (by omega), _, rfl, _, _, rfl, rfl, _, rfl, _, _, rfl, rfl, ?_⟩
    show Q (.bl (decide (((tx t.l).length : Int) + (t.k : Int) ≤ (p.room : Int)))) H4
    rw [tx_len, decide_eq_true (by omega)]
    exact q _ (s1.trans (s2.trans (s3.trans s4)))
  · refine iteF ?_
    refine ⟨_, rfl, _, rfl, _, _, rfl, rfl, _, rfl, _, _, rfl, rfl, _, rfl, ?_⟩
    rw [decide_eq_true (by omega)]
    refine iteT ⟨_, rfl, _, rfl, by rw [tx_len]; exact sz (by omega), _, rfl, _, _, rfl, rfl, _, rfl, _, _, rfl, rfl, ?_⟩
    show Q (.bl (decide (((tx t.l).length : Int) + (t.k : Int) ≤ (p.room : Int)))) H4
    rw [tx_len, decide_eq_true (by omega)]
    exact q _ (s1.trans (s2.trans (s3.trans s4)))
theorem ok_check_triple (D : Dn K mg "check_triple" s_check_triple P_check_triple) (g : Gx mg) (c_is_triple : C8.Cal P w K mg base 2 "is_triple" spIsTriple []) : C8.Cal P w K mg base 3 "check_triple" spChTriple [] := by
  refine D.cal sc_check_triple (fun vs H Q E h => ?_) (fun f cdv A outer s H vs Q E hr h => ?_)
  · obtain ⟨v, p, u, t, rfl, hp, ok, ht, tok, q⟩ := h
    rfl
  obtain ⟨v, p, u, t, rfl, hp, ok, ht, tok, q⟩ := h
  have nd := sc_check_triple.nd
  refine ⟨_, (pss_one (ps_if (pt_not (pt_val (C8.pe_c c_is_triple hr (by decide) rfl (pa_cons (pv 0) (pa_cons (pv 1) pa_nil))))) (pss_one ps_never) pss_nil)), ?_⟩
  refine ⟨_, rfl, _, rfl, v, p, u, t, rfl, hp, ok, ht, tok, fun H1 s1 => ⟨_, rfl, iteF ?_⟩⟩
  exact q H1 s1
theorem ok_without_top (D : Dn K mg "without_top" s_without_top P_without_top) (g : Gx mg) : C8.Cal P w K mg base 1 "without_top" spWithout [] := by
  refine D.cal sc_without_top (fun vs H Q E h => ?_) (fun f cdv A outer s H vs Q E hr h => ?_)
  · obtain ⟨l, n, rfl, hl, q⟩ := h
    rfl
  obtain ⟨l, n, rfl, hl, q⟩ := h
  have nd := sc_without_top.nd
  refine ⟨_, (pss_one (ps_ret (pe_slice sl_str (pv 0) po_none (po_some (pe_callB (call_max2 rfl) rfl g.max b_max (pa_cons (pe_op op_sub (pe_callB call_len_str rfl g.len PySem.boot_len (pa_cons (pv 0) pa_nil)) (pv 1)) (pa_cons pe_int pa_nil))))))), ?_⟩
  have e : (if (0 : Int) > (((tx l).length : Nat) : Int) - (n : Int) then (0 : Int) else (((tx l).length : Nat) : Int) - (n : Int)) = ((l.length - n : Nat) : Int) := by
    rw [tx_len]
    split <;> omega
  refine ⟨_, rfl, _, rfl, _, rfl, by rw [tx_len]; exact sz (by omega), _, rfl, _, _, rfl, rfl, _, _, rfl, ?_⟩
  rw [e]
  refine ⟨_, rfl, _, rfl, by rw [tx_len]; exact sz (by omega), ?_⟩
  rw [cut_to (Nat.sub_le ..)]
  exact q H (Same.refl H)
theorem ok_top_of (D : Dn K mg "top_of" s_top_of P_top_of) (g : Gx mg) : C8.Cal P w K mg base 1 "top_of" spTop [] := by
  refine D.cal sc_top_of (fun vs H Q E h => ?_) (fun f cdv A outer s H vs Q E hr h => ?_)
  · obtain ⟨l, n, rfl, hl, q⟩ := h
    rfl
  obtain ⟨l, n, rfl, hl, q⟩ := h
  have nd := sc_top_of.nd
  refine ⟨_, (pss_one (ps_ret (pe_slice sl_str (pv 0) (po_some (pe_callB (call_max2 rfl) rfl g.max b_max (pa_cons (pe_op op_sub (pe_callB call_len_str rfl g.len PySem.boot_len (pa_cons (pv 0) pa_nil)) (pv 1)) (pa_cons pe_int pa_nil)))) po_none))), ?_⟩
  have e : (if (0 : Int) > (((tx l).length : Nat) : Int) - (n : Int) then (0 : Int) else (((tx l).length : Nat) : Int) - (n : Int)) = ((l.length - n : Nat) : Int) := by
    rw [tx_len]
    split <;> omega
  refine ⟨_, rfl, _, rfl, _, rfl, by rw [tx_len]; exact sz (by omega), _, rfl, _, _, rfl, rfl, _, _, rfl, ?_⟩
  rw [e]
  refine ⟨_, rfl, _, rfl, by rw [tx_len]; exact sz (by omega), ?_⟩
  rw [cut_from (Nat.sub_le ..)]
  exact q H (Same.refl H)
theorem ok_tidied (D : Dn K mg "tidied" s_tidied P_tidied) (g : Gx mg) : C8.Cal P w K mg base 1 "tidied" spTidied [] := by
  refine D.cal sc_tidied (fun vs H Q E h => ?_) (fun f cdv A outer s H vs Q E hr h => ?_)
  · obtain ⟨a, b, l, rfl, q⟩ := h
    rfl
  obtain ⟨a, b, l, rfl, q⟩ := h
  have nd := sc_tidied.nd
  refine ⟨_, (pss_cons (ps_if (pt_cmpR op_eq (pv 1) pe_int (nomark _)) (pss_one (ps_ret (pe_tup (pa_cons pe_int (pa_cons pe_int (pa_cons (pv 2) pa_nil)))))) pss_nil)
    (pss_one (ps_ret (pe_tup (pa_cons (pv 0) (pa_cons (pv 1) (pa_cons (pv 2) pa_nil))))))), ?_⟩
  refine ⟨_, rfl, rfl, _, rfl, ite2 (fun c => ?_) (fun c => ?_)⟩
  · have c' : b = 0 := by
      have c1 := of_decide_eq_true c
      injection c1 with c2
      omega
    refine ⟨_, rfl, by show 3 ≤ sizeLine; decide, fun p hp => ?_⟩
    refine q _ _ (Same.new hp _) ⟨p, rfl, ?_⟩
    unfold tidy
    rw [if_pos c', upd_same]
    rfl
  · have c' : ¬ b = 0 := fun z => by
      subst z
      exact c (decide_eq_true rfl)
    refine ⟨_, rfl, _, rfl, _, rfl, by show 3 ≤ sizeLine; decide, fun p hp => ?_⟩
    refine q _ _ (Same.new hp _) ⟨p, rfl, ?_⟩
    unfold tidy
    rw [if_neg c', upd_same]
theorem ok_untouched (D : Dn K mg "untouched" s_untouched P_untouched) (g : Gx mg) : C8.Cal P w K mg base 1 "untouched" spUnt [] := by
  refine D.cal sc_untouched (fun vs H Q E h => ?_) (fun f cdv A outer s H vs Q E hr h => ?_)
  · obtain ⟨v, p, rfl, ⟨a, b, rfl, ha, hb⟩, q⟩ := h
    rfl
  obtain ⟨v, p, rfl, ⟨a, b, rfl, ha, hb⟩, q⟩ := h
  have nd := sc_untouched.nd
  refine ⟨_, (pss_one (ps_ret (pe_tup (pa_cons pe_int (pa_cons (pe_ix ix_tup (pv 0) pe_int (fun _ _ => rfl)) (pa_cons pe_str pa_nil)))))), ?_⟩
  refine ⟨_, rfl, a, _, 0, _, rfl, rfl, SqT.of ha, rfl, by show 3 ≤ sizeLine; decide, fun e he => ?_⟩
  refine q _ _ (Same.new he _) ⟨e, rfl, ?_⟩
  rw [upd_same]
  exact congrArg (fun z => some (HO.tup [V.int 0, V.int p.room, V.str z])) s_empty
theorem ok_join_triples (D : Dn K mg "join_triples" s_join_triples P_join_triples) (g : Gx mg) (c_without_top : C8.Cal P w K mg base 1 "without_top" spWithout []) (c_top_of : C8.Cal P w K mg base 1 "top_of" spTop []) (c_tidied : C8.Cal P w K mg base 1 "tidied" spTidied []) : C8.Cal P w K mg base 2 "join_triples" spJoin [] := by
  refine D.cal sc_join_triples (fun vs H Q E h => ?_) (fun f cdv A outer s H vs Q E hr h => ?_)
  · obtain ⟨_, _, t, u, rfl, ⟨a, rfl, ha⟩, ⟨b, rfl, hb⟩, ht, hu, q⟩ := h
    rfl
  obtain ⟨_, _, t, u, rfl, ⟨a, rfl, ha⟩, ⟨b, rfl, hb⟩, ht, hu, q⟩ := h
  have nd := sc_join_triples.nd
  refine ⟨_, (pss_cons (ps_asg (pv 0) (pg_tup (by rfl) (pgs_cons (pg_name (i := 2) nd rfl (.inl rfl)) (pgs_cons (pg_name (i := 3) nd rfl (.inl rfl)) (pgs_cons (pg_name (i := 4) nd rfl (.inl rfl)) pgs_nil)))))
    (pss_cons (ps_asg (pv 1) (pg_tup (by rfl) (pgs_cons (pg_name (i := 5) nd rfl (.inl rfl)) (pgs_cons (pg_name (i := 6) nd rfl (.inl rfl)) (pgs_cons (pg_name (i := 7) nd rfl (.inl rfl)) pgs_nil)))))
    (pss_cons (ps_set (i := 8) nd rfl (.inl rfl) (pe_callB (call_max2 rfl) rfl g.max b_max (pa_cons (pe_op op_sub (pv 5) (pe_callB call_len_str rfl g.len PySem.boot_len (pa_cons (pv 4) pa_nil))) (pa_cons pe_int pa_nil))))
    (pss_cons (ps_set (i := 9) nd rfl (.inl rfl) (C8.pe_c c_without_top hr (by decide) rfl (pa_cons (pv 4) (pa_cons (pv 5) pa_nil))))
    (pss_cons (ps_set (i := 10) nd rfl (.inl rfl) (pe_callB (call_max2 rfl) rfl g.max b_max (pa_cons (pe_callB (call_min2 rfl) rfl g.min b_min (pa_cons (pe_op op_sub (pv 3) (pv 8)) (pa_cons (pe_op op_sub (pv 6) (pe_callB call_len_str rfl g.len PySem.boot_len (pa_cons (pv 9) pa_nil))) pa_nil))) (pa_cons pe_int pa_nil))))
    (pss_one (ps_ret (C8.pe_c c_tidied hr (by decide) rfl (pa_cons (pe_op op_add (pv 2) (pv 8)) (pa_cons (pv 10) (pa_cons (pe_op op_add_str (C8.pe_c c_top_of hr (by decide) rfl (pa_cons (pv 9) (pa_cons (pv 6) pa_nil))) (pv 7)) pa_nil))))))))))), ?_⟩
  refine ⟨_, rfl, a, _, rfl, SqT.of ha, rfl, _, _, rfl, _, _, rfl, _, _, rfl, rfl, ?_⟩
  refine ⟨_, rfl, b, _, rfl, SqT.of hb, rfl, _, _, rfl, _, _, rfl, _, _, rfl, rfl, ?_⟩
  have e1 : (if (0 : Int) > (u.g : Int) - (((tx t.l).length : Nat) : Int) then (0 : Int) else (u.g : Int) - (((tx t.l).length : Nat) : Int)) = ((u.g - t.l.length : Nat) : Int) := by
    rw [tx_len]
    split <;> omega
  refine ⟨_, rfl, _, rfl, _, rfl, by rw [tx_len]; exact sz (by omega), _, _, rfl, rfl, _, _, rfl, ?_⟩
  rw [e1]
  refine ⟨_, rfl, _, rfl, t.l, u.g, rfl, by omega, fun H1 s1 => ?_⟩
  have e2 : (if (0 : Int) > (if (u.k : Int) - (((tx (ct u.g t.l)).length : Nat) : Int) < (t.k : Int) - ((u.g - t.l.length : Nat) : Int) then (u.k : Int) - (((tx (ct u.g t.l)).length : Nat) : Int) else (t.k : Int) - ((u.g - t.l.length : Nat) : Int)) then (0 : Int)
      else (if (u.k : Int) - (((tx (ct u.g t.l)).length : Nat) : Int) < (t.k : Int) - ((u.g - t.l.length : Nat) : Int) then (u.k : Int) - (((tx (ct u.g t.l)).length : Nat) : Int) else (t.k : Int) - ((u.g - t.l.length : Nat) : Int)))
      = ((min (t.k - (u.g - t.l.length)) (u.k - (ct u.g t.l).length) : Nat) : Int) := by
    rw [tx_len]
    split <;> split <;> omega
  have hc := len_ct u.g t.l
  refine ⟨_, rfl, _, rfl, _, _, rfl, rfl, _, rfl, _, rfl, _, rfl, by rw [tx_len]; exact sz (by omega), _, _, rfl, rfl, _, _, rfl, _, _, rfl, ?_⟩
  rw [e2]
  refine ⟨_, rfl, _, rfl, _, _, rfl, rfl, _, rfl, _, rfl, _, rfl, ct u.g t.l, u.k, rfl, by omega, fun H2 s2 => ⟨_, rfl, _, _, rfl, rfl, ?_, ?_⟩⟩
  · rw [tx_len, tx_len, len_tp]
    exact sz (by omega)
  rw [tx_app]
  exact ⟨t.g + (u.g - t.l.length), _, _, rfl, fun H3 v s3 hv => q H3 v (s1.trans (s2.trans s3)) hv⟩
theorem ok_triple_of_step (D : Dn K mg "triple_of_step" s_triple_of_step P_triple_of_step) (g : Gx mg) (c_tidied : C8.Cal P w K mg base 1 "tidied" spTidied []) : C8.Cal P w K mg base 2 "triple_of_step" spTStep [] := by
  refine D.cal sc_triple_of_step (fun vs H Q E h => ?_) (fun f cdv A outer s H vs Q E hr h => ?_)
  · obtain ⟨v, p, c, rfl, ⟨a, b, rfl, ha, hb⟩, ok, q⟩ := h
    rfl
  obtain ⟨v, p, c, rfl, ⟨a, b, rfl, ha, hb⟩, ok, q⟩ := h
  have nd := sc_triple_of_step.nd
  refine ⟨_, (pss_cons (ps_if (pt_cmpR op_eq (pv 1) (C8.pe_gc rfl g.POP_STEP) (nomark _)) (pss_one (ps_ret (C8.pe_c c_tidied hr (by decide) rfl (pa_cons pe_int (pa_cons (pe_op op_sub (pe_ix ix_tup (pv 0) pe_int (fun _ _ => rfl)) pe_int) (pa_cons pe_str pa_nil)))))) pss_nil)
    (pss_one (ps_ret (pe_tup (pa_cons pe_int (pa_cons (pe_op op_sub (pe_ix ix_tup (pv 0) pe_int (fun _ _ => rfl)) pe_int) (pa_cons (pv 1) pa_nil))))))), ?_⟩
  have hr1 := ok.r1
  have e : (p.room : Int) - 1 = ((p.room - 1 : Nat) : Int) := by omega
  refine ⟨_, rfl, rfl, _, rfl, ite2 (fun z => ?_) (fun z => ?_)⟩
  · have z' : c = 45 := by
      have z1 := of_decide_eq_true z
      injection z1 with z2
      have z3 := str_inj.mp z2
      exact List.head_eq_of_cons_eq z3
    refine ⟨_, rfl, a, _, 0, _, rfl, rfl, SqT.of ha, rfl, _, _, rfl, rfl, ?_⟩
    refine ⟨1, p.room - 1, [], (by show [V.int 1, V.int ((p.room : Int) - 1), V.str ""] = _; rw [e, s_empty]; rfl), fun H1 v s1 hv => q H1 v s1 ?_⟩
    unfold tstep
    rw [if_pos z']
    exact hv
  · have z' : ¬ c = 45 := fun y => by
      subst y
      exact z (decide_eq_true rfl)
    refine ⟨_, rfl, a, _, 0, _, rfl, rfl, SqT.of ha, rfl, _, _, rfl, rfl, _, rfl, by show 3 ≤ sizeLine; decide, fun x hx => ?_⟩
    refine q _ _ (Same.new hx _) ⟨x, rfl, ?_⟩
    unfold tstep
    rw [if_neg z', upd_same]
    exact congrArg (fun z => some (HO.tup [V.int 0, V.int z, V.str (tx [c])])) e
theorem ok_triple_of_steps (D : Dn K mg "triple_of_steps" s_triple_of_steps P_triple_of_steps) (g : Gx mg) (c_untouched : C8.Cal P w K mg base 1 "untouched" spUnt []) (c_triple_of_step : C8.Cal P w K mg base 2 "triple_of_step" spTStep []) (c_join_triples : C8.Cal P w K mg base 2 "join_triples" spJoin []) : C8.Cal P w K mg base 3 "triple_of_steps" spTSteps [] := by
  refine D.cal sc_triple_of_steps (fun vs H Q E h => ?_) (fun f cdv A outer s H vs Q E hr h => ?_)
  · obtain ⟨v, p, l, rfl, ⟨a, b, rfl, ha, hb⟩, ok, hs, q⟩ := h
    rfl
  obtain ⟨v, p, l, rfl, ⟨a, b, rfl, ha, hb⟩, ok, hs, q⟩ := h
  have nd := sc_triple_of_steps.nd
  refine ⟨_, (pss_cons (ps_set (i := 2) nd rfl (.inl rfl) (C8.pe_c c_untouched hr (by decide) rfl (pa_cons (pv 0) pa_nil)))
    (pss_cons (ps_for PassesOwn.never rfl (pi_str (pv 1)) (pg_name (i := 3) nd rfl (.inl rfl)) (pss_one (ps_set (i := 2) nd rfl (.inl rfl) (C8.pe_c c_join_triples hr (by decide) rfl (pa_cons (pv 2) (pa_cons (C8.pe_c c_triple_of_step hr (by decide) rfl (pa_cons (pv 0) (pa_cons (pv 3) pa_nil))) pa_nil))))))
    (pss_one (ps_ret (pv 2))))), ?_⟩
  have hr1 := ok.r1
  have hr9 := ok.r9
  have hn : (tx l).cps.size = l.length := tx_len l
  refine ⟨_, rfl, _, p, rfl, ⟨a, b, rfl, ha, hb⟩, fun H1 v1 s1 hv1 => ?_⟩
  refine ⟨_, rfl, _, rfl, for_it (walk_str (z := tx l)) (fun i σ H2 => ∃ (v2 : V) (o : Option V), σ = [some (.ref a), some (.str (tx l)), some v2, o] ∧ Same H H2 ∧ TripAt H2 v2 ((l.take i).foldl (fun t c => tjoin t (tstep p.room c)) (tunt p.room)))
    ⟨v1, none, rfl, s1, hv1⟩ (fun _ _ _ _ _ => trivial) ?_ ?_⟩
  · rintro i x σ H2 H3 hi ⟨v2, o, rfl, s2, hv2⟩ ⟨rfl, c, hc, rfl⟩
    have hc' : l[i]? = some c := by
      rw [← hc]
      simp [tx]
    have hcm : c ∈ l := List.mem_of_getElem? hc'
    have ok1 := ttold_ok (room := p.room) (many := p.many) hr1 (l.take i) (tunt p.room) tunt_ok (fun d hd => hs d (List.mem_of_mem_take hd))
    have ok2 := tstep_ok (room := p.room) (many := p.many) (c := c) hr1 (hs c hcm)
    have k1 := ok1.kl
    have k2 := ok2.kl
    refine ⟨_, rfl, _, rfl, _, rfl, _, p, c, rfl, ⟨a, b, rfl, s2 _ _ ha, PrAt.mono hb s2⟩, ok, fun H4 v4 s4 hv4 => ?_⟩
    refine ⟨_, _, _, _, rfl, hv2.mono s4, hv4, by omega, by omega, fun H5 v5 s5 hv5 => ?_⟩
    refine ⟨v5, _, rfl, s2.trans (s4.trans s5), ?_⟩
    rw [List.take_add_one, hc', List.foldl_append]
    exact hv5
  · rintro σ H2 ⟨v2, o, rfl, s2, hv2⟩
    rw [hn, List.take_of_length_le (Nat.le_refl _)] at hv2
    exact ⟨_, rfl, q H2 v2 s2 hv2⟩
theorem ok_told_of_steps (D : Dn K mg "told_of_steps" s_told_of_steps P_told_of_steps) (g : Gx mg) (c_check_plan : C8.Cal P w K mg base 3 "check_plan" spChPlan []) (c_check_steps : C8.Cal P w K mg base 2 "check_steps" spChSteps []) (c_triple_of_steps : C8.Cal P w K mg base 3 "triple_of_steps" spTSteps []) : C8.Cal P w K mg base 4 "told_of_steps" spToldSteps [] := by
  refine D.cal sc_told_of_steps (fun vs H Q E h => ?_) (fun f cdv A outer s H vs Q E hr h => ?_)
  · obtain ⟨v, p, l, rfl, hp, ok, hl, hs, q⟩ := h
    rfl
  obtain ⟨v, p, l, rfl, hp, ok, hl, hs, q⟩ := h
  have nd := sc_told_of_steps.nd
  refine ⟨_, (pss_cons (ps_expr (C8.pe_c c_check_plan hr (by decide) rfl (pa_cons (pv 0) pa_nil)))
    (pss_cons (ps_expr (C8.pe_c c_check_steps hr (by decide) rfl (pa_cons (pv 0) (pa_cons (pv 1) pa_nil))))
    (pss_one (ps_ret (C8.pe_c c_triple_of_steps hr (by decide) rfl (pa_cons (pv 0) (pa_cons (pv 1) pa_nil))))))), ?_⟩
  refine ⟨_, rfl, v, p, rfl, hp, ok, fun H1 s1 => ?_⟩
  refine ⟨_, rfl, _, rfl, v, p, l, rfl, hp.mono s1, ok, hl, hs, fun H2 s2 => ?_⟩
  exact ⟨_, rfl, _, rfl, v, p, l, rfl, hp.mono (s1.trans s2), ok, hs, fun H3 v3 s3 h3 => q H3 v3 (s1.trans (s2.trans s3)) h3⟩
theorem ok_law_take (D : Dn K mg "_law_take" s_law_take P_law_take) (g : Gx mg) : C8.Cal P w K mg base 1 "_law_take" spTake [] := by
  refine D.cal sc_law_take (fun vs H Q E h => ?_) (fun f cdv A outer s H vs Q E hr h => ?_)
  · obtain ⟨p, q, ns, z, n, rfl, B, h0, h9, kk⟩ := h
    rfl
  obtain ⟨p, q, ns, z, n, rfl, B, h0, h9, kk⟩ := h
  have nd := sc_law_take.nd
  refine ⟨_, (pss_cons (ps_if (pt_cmpR (op_eqD hr.units) (pe_ix ix_list (pv 0) pe_int (fun _ _ => rfl)) (pe_lst pa_nil) (nomark _)) (pss_cons (ps_asg (pe_op op_modN (pe_op op_mul (pe_ix ix_list (pv 0) pe_int (fun _ _ => rfl)) pe_int) pe_int) (pg_sub (pv 0) pe_int set_list))
    (pss_one (ps_ret (pe_op op_modN (pe_op op_fdivN (pe_ix ix_list (pv 0) pe_int (fun _ _ => rfl)) pe_int) (pv 1))))) pss_nil)
    (pss_cons (ps_set (i := 2) nd rfl (.inl rfl) (pe_ix ix_list (pe_ix ix_list (pv 0) pe_int (fun _ _ => rfl)) pe_int (fun _ _ => rfl)))
    (pss_cons (ps_asg (pe_op op_fdivW (pv 2) (pv 1)) (pg_sub (pe_ix ix_list (pv 0) pe_int (fun _ _ => rfl)) pe_int set_list))
    (pss_cons (ps_if (PW.pt (pw_or (pt_cmpR op_eq (pe_ix ix_list (pe_ix ix_list (pv 0) pe_int (fun _ _ => rfl)) pe_int (fun _ _ => rfl)) pe_int (nomark _)) (pw_or1 (pt_cmpR op_eq (pe_ix ix_list (pe_ix ix_list (pv 0) pe_int (fun _ _ => rfl)) pe_int (fun _ _ => rfl)) (pe_un un_neg pe_int) (nomark _))))) (pss_one (ps_expr (pe_bm PySem.F.plainAttrs_list PySem.F.slot_list_pop PySem.F.type_list_pop mt_popAt (pe_ix ix_list (pv 0) pe_int (fun _ _ => rfl)) (pa_cons pe_int pa_nil)))) pss_nil)
    (pss_one (ps_ret (pe_op op_modN (pv 2) (pv 1)))))))), ?_⟩
  refine ⟨_, rfl, p, _, 0, _, rfl, rfl, SqL.of B.b, rfl, by show 0 ≤ sizeLine; decide, fun D hD => ?_⟩
  have s1 : Same H (upd H D (.lst [])) := Same.new hD _
  have B1 := B.mono s1
  refine ⟨.list (ns.map PyData.int), .list [], .lst (SqL.of B1.l) (dpAll ns), .lst (SqL.of upd_same) .nil, shp ns, shp [], _, rfl, ?_⟩
  cases ns with
  | nil =>
    refine iteT ?_
    refine ⟨_, rfl, p, _, 1, _, rfl, rfl, SqL.of B1.b, rfl, _, _, rfl, rfl, .inr ⟨by decide, by decide⟩, _, _, rfl, rfl, by show ((2147483647 : Int) ≠ 0); decide, ?_⟩
    refine ⟨_, rfl, p, _, 1, 1, rfl, rfl, B1.b, rfl, ?_⟩
    refine ⟨_, rfl, p, _, 1, _, rfl, rfl, SqL.of upd_same, rfl, _, _, rfl, rfl, ⟨by decide, by decide⟩, _, rfl, _, _, rfl, rfl, by show n ≠ 0; omega, ?_⟩
    obtain ⟨f1, f2⟩ := fmod_in (x := ((z * 48271).fmod 2147483647).fdiv 7) h0
    refine kk _ [] ((z * 48271).fmod 2147483647) _ f1 f2 ⟨upd_same, by rw [upd_ne B.ne.symm]; exact B1.l, B.ne⟩ fun b o e e1 e2 => ?_
    rw [upd_ne e1]
    exact s1 _ _ e
  | cons x r =>
    refine iteF ?_
    refine ⟨_, rfl, p, _, 0, _, rfl, rfl, SqL.of B1.b, rfl, q, _, 0, _, rfl, rfl, SqL.of B1.l, at0, ?_⟩
    refine ⟨_, rfl, _, rfl, _, _, rfl, rfl, divW h0 h9, ?_⟩
    refine ⟨_, rfl, p, _, 0, _, rfl, rfl, SqL.of B1.b, rfl, q, _, 0, 0, rfl, rfl, B1.l, ix0, ?_⟩
    have B2 : BoxAt (upd (upd H D (.lst [])) q (.lst (((x / n) :: r).map V.int))) p q ((x / n) :: r) z := ⟨by rw [upd_ne B.ne]; exact B1.b, upd_same, B.ne⟩
    have k2 : Keep p q H (upd (upd H D (.lst [])) q (.lst (((x / n) :: r).map V.int))) := fun b o e e1 e2 => by
      rw [upd_ne e2]
      exact s1 _ _ e
    obtain ⟨f1, f2⟩ := fmod_in (x := x) h0
    have pop : ∀ (T : Prop), (∀ (ns' : List Int) (H' : Hp), BoxAt H' p q ns' z → Keep p q H H' → T) → T := fun T h => h _ _ B2 k2
    have fin : ∀ (ns' : List Int) (H' : Hp), BoxAt H' p q ns' z → Keep p q H H' → tRet (tOp (rI (fun _ j => j ≠ 0) fun i j => V.int (i.fmod j)) (tVar 2) (tVar 1)) { nx := fun _ H' => Q V.non H', rt := Q } [some (.ref p), some (.int n), some (.int x)] H' := fun ns' H' b k =>
      ⟨_, rfl, _, rfl, _, _, rfl, rfl, by show n ≠ 0; omega, kk _ ns' z H' f1 f2 b k⟩
    have B3 : BoxAt (upd (upd (upd H D (.lst [])) q (.lst (((x / n) :: r).map V.int))) q (.lst (r.map V.int))) p q r z := ⟨by rw [upd_ne B.ne]; exact B2.b, upd_same, B.ne⟩
    have k3 : Keep p q H (upd (upd (upd H D (.lst [])) q (.lst (((x / n) :: r).map V.int))) q (.lst (r.map V.int))) := fun b o e e1 e2 => by
      rw [upd_ne e2]
      exact k2 _ _ e e1 e2
    refine ⟨_, rfl, p, _, 0, _, rfl, rfl, SqL.of B2.b, rfl, q, _, 0, _, rfl, rfl, SqL.of B2.l, at0, rfl, _, rfl, ite2 (fun c => ?_) (fun c => ?_)⟩
    · refine iteT ?_
      refine ⟨_, rfl, p, _, 0, _, rfl, rfl, SqL.of B2.b, rfl, .inl ⟨rfl, _, SqL.of B2.l⟩, q, _, 0, 0, _, rfl, rfl, B2.l, by decide, by decide, sq0, rfl, ?_⟩
      exact fin r _ B3 k3
    · refine ⟨_, rfl, p, _, 0, _, rfl, rfl, SqL.of B2.b, rfl, q, _, 0, _, rfl, rfl, SqL.of B2.l, at0, _, rfl, rfl, _, rfl, ite2 (fun c2 => ?_) (fun c2 => ?_)⟩
      · refine ⟨_, rfl, p, _, 0, _, rfl, rfl, SqL.of B2.b, rfl, .inl ⟨rfl, _, SqL.of B2.l⟩, q, _, 0, 0, _, rfl, rfl, B2.l, by decide, by decide, sq0, rfl, ?_⟩
        exact fin r _ B3 k3
      · exact fin _ _ B2 k2
theorem ok_law_begun (D : Dn K mg "_law_begun" s_law_begun P_law_begun) (g : Gx mg) : C8.Cal P w K mg base 1 "_law_begun" (spLBegun K) [] := by
  refine D.cal sc_law_begun (fun vs H Q E h => ?_) (fun f cdv A outer s H vs Q E hr h => ?_)
  · obtain ⟨a, ns, rfl, hS, h63, kk⟩ := h
    rfl
  obtain ⟨a, ns, rfl, hS, h63, kk⟩ := h
  have nd := sc_law_begun.nd
  refine ⟨_, (pss_cons (ps_set (i := 1) nd rfl (.inl rfl) pe_int)
    (pss_cons (ps_for PassesOwn.never rfl (pi_list (pv 0)) (pg_name (i := 2) nd rfl (.inl rfl)) (pss_one (ps_set (i := 1) nd rfl (.inl rfl) (pe_op op_modN (pe_op op_add (pe_op op_add (pe_op op_mul (pv 1) pe_int) (pe_op op_mul (pv 2) pe_int)) pe_int) pe_int))))
    (pss_one (ps_ret (pe_lst (pa_cons (pe_callTy call_list_of rfl g.list b_list (pa_cons (pv 0) pa_nil)) (pa_cons (pe_op op_mul (pv 1) (pe_callTy call_int1 rfl g.int b_int (pa_cons (pe_cmpR op_gt (pe_callB call_len_seq rfl g.len PySem.boot_len (pa_cons (pv 0) pa_nil)) pe_int (nomark _)) pa_nil))) pa_nil))))))), ?_⟩
  have hc : ∀ k : Bool, -(2 ^ 64) < (if k = true then (1 : Int) else 0) ∧ (if k = true then (1 : Int) else 0) < 2 ^ 64 := fun k => by
    cases k <;> decide
  refine ⟨_, rfl, a, rfl, ⟨_, hS⟩, for_list (K := K) (a := a) (xs := ns.map V.int) (fun i σ H2 => (∃ (z : Int) (o : Option V), σ = [some (.ref a), some (.int z), o]) ∧ H2 = H)
    ⟨⟨0, none, rfl⟩, rfl⟩ (fun i σ H2 _ h2 => by rw [h2.2]; exact hS) ?_ ?_⟩
  · rintro i x σ H2 hx ⟨⟨z, o, rfl⟩, rfl⟩
    rw [List.getElem?_map] at hx
    obtain ⟨y, hy, rfl⟩ := Option.map_eq_some_iff.mp hx
    refine ⟨_, rfl, _, _, rfl, rfl, .inr ⟨by decide, by decide⟩, _, rfl, _, _, rfl, rfl, .inr ⟨by decide, by decide⟩, _, _, rfl, rfl, _, _, rfl, rfl, _, _, rfl, rfl, by show ((2147483647 : Int) ≠ 0); decide, ?_⟩
    exact ⟨⟨_, _, rfl⟩, rfl⟩
  · rintro σ H2 ⟨⟨z, o, rfl⟩, rfl⟩
    refine ⟨_, rfl, a, _, rfl, .inl hS, fun l hl => ?_⟩
    refine ⟨_, rfl, _, rfl, a, _, rfl, .inl ((Same.new hl _).seq hS), _, _, rfl, rfl, .inr ⟨_, rfl, _, _, rfl, rfl, .inr (hc _), by show 2 ≤ sizeLine; decide, fun D hD => ?_⟩⟩
    have s1 := Same.new hl (.lst (ns.map V.int))
    have hD0 : H2 D = none := s1.free hD
    refine kk D l _ _ (s1.trans (Same.new hD _)) ⟨upd_same, (Same.new hD _) _ _ upd_same, fun e => ?_⟩ hD0 hl
    subst e
    rw [upd_same] at hD
    cases hD
/-- [a, b][take(box, 2)] -/
theorem pick2 {K : PySem.W.Frag} {i : Nat} {σ : L2.St} {H : Hp} {Q : VK} {p q : Addr} {ns : List Int} {z : Int} {x y : V} {t1 t2 : TE} (hσ : σ[i]? = some (some (.ref p))) (B : BoxAt H p q ns z)
    (h1 : ∀ H Q, Q x H → t1 σ H Q) (h2 : ∀ H Q, Q y H → t2 σ H Q)
    (h : ∀ (v : V) (ns' : List Int) (z' : Int) (H' : Hp), (v = x ∨ v = y) → BoxAt H' p q ns' z' → Keep p q H H' → Q v H') :
    tOp (rIxL K) (tLst (tCons t1 (tCons t2 tNil))) (tCall spTake [] C8.E0 (tCons (tVar i) (tCons (tC (.int 2)) tNil))) σ H Q := by
  refine h1 _ _ (h2 _ _ ⟨by show 2 ≤ sizeLine; decide, fun D hD => ?_⟩)
  have s1 : Same H (upd H D (.lst [x, y])) := Same.new hD _
  refine ⟨_, hσ, p, q, ns, z, 2, rfl, B.mono s1, by decide, p9 (by decide), fun r ns' z' H' r0 r1 B' k' => ?_⟩
  have k2 : Keep p q H H' := (Keep.of s1).trans k'
  have hf := B.fresh hD
  have hL : H' D = some (.lst [x, y]) := k' _ _ upd_same hf.1 hf.2
  have hr : r = 0 ∨ r = 1 := by omega
  rcases hr with rfl | rfl
  · exact ⟨D, _, 0, x, rfl, rfl, SqL.of hL, rfl, h _ _ _ _ (.inl rfl) B' k2⟩
  · exact ⟨D, _, 1, y, rfl, rfl, SqL.of hL, rfl, h _ _ _ _ (.inr rfl) B' k2⟩
theorem tC_q {v : V} {σ : L2.St} : ∀ (H : Hp) (Q : VK), Q v H → tC v σ H Q := fun _ _ h => h
theorem ok_law_plan (D : Dn K mg "_law_plan" s_law_plan P_law_plan) (g : Gx mg) (c_law_take : C8.Cal P w K mg base 1 "_law_take" spTake []) : C8.Cal P w K mg base 2 "_law_plan" spLPlan [] := by
  refine D.cal sc_law_plan (fun vs H Q E h => ?_) (fun f cdv A outer s H vs Q E hr h => ?_)
  · obtain ⟨p, q, ns, z, r, s0, rfl, B, r1, r9, s1, s4, kk⟩ := h
    rfl
  obtain ⟨p, q, ns, z, r, s0, rfl, B, r1, r9, s1, s4, kk⟩ := h
  have nd := sc_law_plan.nd
  refine ⟨_, (pss_cons (ps_set (i := 3) nd rfl (.inl rfl) (pe_op op_add pe_int (C8.pe_c c_law_take hr (by decide) rfl (pa_cons (pv 0) (pa_cons (pv 2) pa_nil)))))
    (pss_cons (ps_set (i := 4) nd rfl (.inl rfl) (pe_callTy call_tupleF rfl g.tuple b_tuple (pa_cons (pe_lc (own := [("_law_k", 5)]) rfl nd (pi_range1 (by rfl) g.range (pa_cons (pv 3) pa_nil)) (blkOk_by (own := [("_law_k", 5)]) (N := N_law_plan) (sc := defScope s_law_plan) (by decide +kernel)) (fun _ _ _ _ _ => (pg_name (i := 5) nd rfl (.inl rfl))) (fun _ _ _ _ _ => pts_nil) (fun _ _ _ _ _ => (pe_op op_add pe_int (C8.pe_c c_law_take (by exact hr) (by decide) rfl (pa_cons (pv 0) (pa_cons (pe_ix (r := rIxL K) ix_list (pe_lst (pa_cons pe_int (pa_cons pe_int pa_nil))) (C8.pe_c c_law_take (by exact hr) (by decide) rfl (pa_cons (pv 0) (pa_cons pe_int pa_nil))) (fun _ _ => rfl)) pa_nil)))))) pa_nil)))
    (pss_one (ps_ret (pe_tup (pa_cons (pe_op op_add pe_int (C8.pe_c c_law_take hr (by decide) rfl (pa_cons (pv 0) (pa_cons (pv 1) pa_nil)))) (pa_cons (pv 3) (pa_cons (pv 4) (pa_cons (pe_op op_add pe_int (C8.pe_c c_law_take hr (by decide) rfl (pa_cons (pv 0) (pa_cons (pe_ix ix_list (pe_lst (pa_cons pe_int (pa_cons pe_int pa_nil))) (C8.pe_c c_law_take hr (by decide) rfl (pa_cons (pv 0) (pa_cons pe_int pa_nil))) (fun _ _ => rfl)) pa_nil)))) pa_nil))))))))), ?_⟩
  refine ⟨_, rfl, _, rfl, p, q, ns, z, s0, rfl, B, by omega, p9 (by omega), fun m ns1 z1 H1 m0 m1 B1 k1 => ⟨_, _, rfl, rfl, ?_⟩⟩
  -- the prices
  obtain ⟨M, rfl⟩ : ∃ M : Nat, m = (M : Int) := ⟨m.toNat, by omega⟩
  refine ⟨_, rfl, ?_⟩
  refine ⟨1 + (M : Int), rfl, by omega, by omega, fun D hD => ?_⟩
  have hf := B1.fresh hD
  have sD := Same.new hD (.lst [])
  refine lc_range (lo := 0) (fun i H2 => ∃ (ps : List Int) (ns2 : List Int) (z2 : Int), BoxAt H2 p q ns2 z2 ∧ Keep p q H1 H2 ∧ H2 D = some (.lst (ps.map V.int)) ∧ ps.length = i ∧ ∀ x ∈ ps, 1 ≤ x ∧ x ≤ 99)
    ⟨[], ns1, z1, B1.mono sD, Keep.of sD, upd_same, rfl, fun x hx => by simp at hx⟩ ?_ ?_
  · rintro i H2 hi ⟨ps, ns2, z2, B2, k2, hD2, hl, hps⟩
    refine ⟨rfl, ?_⟩
    refine ⟨_, rfl, pick2 (x := .int 3) (y := .int 99) rfl B2 tC_q tC_q fun v ns3 z3 H3 hv B3 k3 => ?_⟩
    have hv' : ∃ n : Int, v = .int n ∧ 0 < n ∧ n ≤ 99 := by
      rcases hv with rfl | rfl
      · exact ⟨3, rfl, by decide, by decide⟩
      · exact ⟨99, rfl, by decide, by decide⟩
    obtain ⟨n, rfl, n0, n9⟩ := hv'
    refine ⟨p, q, ns3, z3, n, rfl, B3, n0, p9 (by omega), fun d ns4 z4 H4 d0 d1 B4 k4 => ⟨_, _, rfl, rfl, ?_⟩⟩
    have hD4 : H4 D = some (.lst (ps.map V.int)) := k4 _ _ (k3 _ _ hD2 hf.1 hf.2) hf.1 hf.2
    refine ⟨_, hD4, by rw [List.length_map, hl]; exact szl (by omega), ps ++ [1 + d], ns4, z4, ⟨by rw [upd_ne hf.1.symm]; exact B4.b, by rw [upd_ne hf.2.symm]; exact B4.l, B4.ne⟩, fun b o e e1 e2 => ?_, ?_, by simp [hl], fun x hx => ?_⟩
    · rw [upd_ne (ne_of_none e hD)]
      exact k4 _ _ (k3 _ _ (k2 _ _ e e1 e2) e1 e2) e1 e2
    · rw [upd_same, List.map_append]
      rfl
    · rcases List.mem_append.mp hx with h | h
      · exact hps x h
      · have : x = 1 + d := by simpa using h
        omega
  · rintro H2 ⟨ps, ns2, z2, B2, k2, hD2, hl, hps⟩
    have hl' : ps.length = M + 1 := by omega
    refine ⟨D, _, rfl, SqL.of hD2, fun T obT hobT hT => ?_⟩
    have sT := Same.new hT (.frz obT (.tup (ps.map V.int)))
    have BT := B2.mono sT
    refine ⟨_, rfl, _, rfl, p, q, ns2, z2, r, rfl, BT, by omega, p9 (by omega), fun a ns3 z3 H3 a0 a1 B3 k3 => ⟨_, _, rfl, rfl, ?_⟩⟩
    refine ⟨_, rfl, _, rfl, _, rfl, pick2 (x := .int 3) (y := .int 99) rfl B3 tC_q tC_q fun v ns4 z4 H4 hv B4 k4 => ?_⟩
    have hv' : ∃ n : Int, v = .int n ∧ 0 < n ∧ n ≤ 99 := by
      rcases hv with rfl | rfl
      · exact ⟨3, rfl, by decide, by decide⟩
      · exact ⟨99, rfl, by decide, by decide⟩
    obtain ⟨n, rfl, n0, n9⟩ := hv'
    refine ⟨p, q, ns4, z4, n, rfl, B4, n0, p9 (by omega), fun c ns5 z5 H5 c0 c1 B5 k5 => ⟨_, _, rfl, rfl, ?_⟩⟩
    refine ⟨by show 4 ≤ sizeLine; decide, fun U hU => ?_⟩
    have sU := Same.new hU (.tup [.int (1 + a), .int (1 + (M : Int)), .ref T, .int (1 + c)])
    obtain ⟨A0, rfl⟩ : ∃ A0 : Nat, a = (A0 : Int) := ⟨a.toNat, by omega⟩
    refine kk ⟨A0 + 1, M + 1, ps, 1 + c⟩ _ ns5 z5 _ ⟨by show 1 ≤ A0 + 1; omega, by show A0 + 1 ≤ 9; omega, by show 1 ≤ M + 1; omega, by show M + 1 ≤ 4; omega, hl', hps, by show 1 ≤ 1 + c; omega, by show 1 + c ≤ 99; omega⟩
      (by show A0 + 1 ≤ r; omega) (by show M + 1 ≤ s0; omega) ⟨U, T, rfl, ?_, ?_⟩ (B5.mono sU) ?_
    · rw [upd_same]
      have e1 : (1 : Int) + (A0 : Int) = ((A0 + 1 : Nat) : Int) := by omega
      have e2 : (1 : Int) + (M : Int) = ((M + 1 : Nat) : Int) := by omega
      show some (HO.tup [V.int (1 + (A0 : Int)), V.int (1 + (M : Int)), V.ref T, V.int (1 + c)]) = _
      rw [e1, e2]
    · exact ⟨obT, hobT, sU _ _ ((k5.tups B4).f _ _ _ ((k4.tups B3).f _ _ _ ((k3.tups BT).f _ _ _ upd_same)))⟩
    · refine (k1.trans (k2.trans ((Keep.of sT).trans (k3.trans (k4.trans (k5.trans (Keep.of sU)))))))
theorem iteD {c A B : Prop} [Decidable c] (hc : c) (h : A) : if decide c = true then A else B := by
  rw [decide_eq_true hc]
  exact iteT h
theorem iteDF {c A B : Prop} [Decidable c] (hc : ¬ c) (h : B) : if decide c = true then A else B := by
  rw [decide_eq_false hc]
  exact iteF h
theorem givD {x : V} {H : Hp} {Q : VK} (q : giv (.bl true) H Q) : Q (.bl (decide (x = x))) H := by
  rw [decide_eq_true rfl]
  exact q H (Same.refl H)
theorem inV_sign {c : Nat} {l : List Nat} (h : c ∈ l) : inV (.str (tx [c])) (l.map fun c => V.str (tx [c])) = true := by
  unfold inV
  rw [List.any_eq_true]
  refine ⟨.str (tx [c]), List.mem_map.mpr ⟨c, h, rfl⟩, ?_⟩
  show (tx [c] == tx [c]) = true
  simp
theorem flat_signs (l : List Nat) : (l.map fun c => V.str (tx [c])).all flatV = true := by
  rw [List.all_eq_true]
  intro x hx
  obtain ⟨c, _, rfl⟩ := List.mem_map.mp hx
  rfl
theorem ok_is_work_alone (D : Dn K mg "is_work_alone" s_is_work_alone P_is_work_alone) (g : Gx mg) (c_is_number : C8.Cal P w K mg base 1 "is_number" spNum []) : C8.Cal P w K mg base 2 "is_work_alone" spAlone [] := by
  refine D.cal sc_is_work_alone (fun vs H Q E h => ?_) (fun f cdv A outer s H vs Q E hr h => ?_)
  · obtain ⟨wk, v, D0, many, rfl, hw, hD, can, q⟩ := h
    rfl
  obtain ⟨wk, v, D0, many, rfl, hw, hD, can, q⟩ := h
  have nd := sc_is_work_alone.nd
  refine ⟨_, (pss_cons (ps_if (PW.pt (pw_or (pt_not (pt_val (pe_callB call_isi rfl g.isi b_isi (pa_cons (pv 0) (pa_cons (pe_bltn (v := .ty "tuple") rfl g.tuple b_tuple rfl) pa_nil))))) (pw_or1 (pt_cmpR op_eq (pe_callB call_len_seq rfl g.len PySem.boot_len (pa_cons (pv 0) pa_nil)) pe_int (nomark _))))) (pss_one (ps_ret pe_bl)) pss_nil)
    (pss_cons (ps_if (pt_cmpR op_eq (pe_ix ix_tup (pv 0) pe_int (fun _ _ => rfl)) pe_str (nomark _)) (pss_one (ps_ret (pe_and (pe_cmpR op_eq (pe_callB call_len_seq rfl g.len PySem.boot_len (pa_cons (pv 0) pa_nil)) pe_int (nomark _)) (pe_one (pe_cmpR op_in_seq (pe_ix ix_tup (pv 0) pe_int (fun _ _ => rfl)) (pv 1) rfl))))) pss_nil)
    (pss_cons (ps_if (pt_cmpR op_eq (pe_ix ix_tup (pv 0) pe_int (fun _ _ => rfl)) pe_str (nomark _)) (pss_one (ps_ret (pe_cmpR op_eq (pe_callB call_len_seq rfl g.len PySem.boot_len (pa_cons (pv 0) pa_nil)) pe_int (nomark _)))) pss_nil)
    (pss_cons (ps_if (pt_cmpR op_eq (pe_ix ix_tup (pv 0) pe_int (fun _ _ => rfl)) pe_str (nomark _)) (pss_one (ps_ret (pe_and (pe_cmpR op_eq (pe_callB call_len_seq rfl g.len PySem.boot_len (pa_cons (pv 0) pa_nil)) pe_int (nomark _)) (pe_one (pe_callB call_isi rfl g.isi b_isi (pa_cons (pe_ix ix_tup (pv 0) pe_int (fun _ _ => rfl)) (pa_cons (pe_bltn (v := .ty "tuple") rfl g.tuple b_tuple rfl) pa_nil))))))) pss_nil)
    (pss_cons (ps_if (pt_cmpR op_eq (pe_ix ix_tup (pv 0) pe_int (fun _ _ => rfl)) pe_str (nomark _)) (pss_one (ps_ret (pe_and (pe_cmpR op_eq (pe_callB call_len_seq rfl g.len PySem.boot_len (pa_cons (pv 0) pa_nil)) pe_int (nomark _)) (pe_one (C8.pe_c c_is_number hr (by decide) rfl (pa_cons (pe_ix ix_tup (pv 0) pe_int (fun _ _ => rfl)) (pa_cons pe_int (pa_cons (C8.pe_gc rfl g.MOST_TIMES) pa_nil)))))))) pss_nil)
    (pss_one (ps_ret pe_bl))))))), ?_⟩
  cases wk with
  | push c =>
    obtain ⟨a, rfl, ha⟩ := hw
    refine ⟨_, rfl, _, _, _, _, _, rfl, .ty "tuple", ty_tup ha, kit_ty k_tup_tup, _, rfl, iteF ?_⟩
    refine ⟨_, rfl, a, _, rfl, .inr (SqT.of ha), rfl, _, rfl, iteDF (by intro z; cases z) ?_⟩
    refine ⟨_, rfl, a, _, 0, _, rfl, rfl, SqT.of ha, rfl, rfl, _, rfl, iteD rfl ?_⟩
    refine ⟨_, rfl, a, _, rfl, .inr (SqT.of ha), rfl, _, rfl, iteD rfl ?_⟩
    refine ⟨_, rfl, a, _, 1, _, rfl, rfl, SqT.of ha, rfl, _, rfl, D0, _, rfl, .inl (SqL.of hD), rfl, flat_signs _, ?_⟩
    rw [inV_sign can]
    exact q H (Same.refl H)
  | pop =>
    obtain ⟨a, rfl, ha⟩ := hw
    refine ⟨_, rfl, _, _, _, _, _, rfl, .ty "tuple", ty_tup ha, kit_ty k_tup_tup, _, rfl, iteF ?_⟩
    refine ⟨_, rfl, a, _, rfl, .inr (SqT.of ha), rfl, _, rfl, iteDF (by intro z; cases z) ?_⟩
    refine ⟨_, rfl, a, _, 0, _, rfl, rfl, SqT.of ha, rfl, rfl, _, rfl, iteDF (vne s_po_pu) ?_⟩
    refine ⟨_, rfl, a, _, 0, _, rfl, rfl, SqT.of ha, rfl, rfl, _, rfl, iteD rfl ?_⟩
    refine ⟨_, rfl, a, _, rfl, .inr (SqT.of ha), rfl, ?_⟩
    exact givD q
  | row ws =>
    obtain ⟨a, b, xs, rfl, ha, hb, hs⟩ := hw
    refine ⟨_, rfl, _, _, _, _, _, rfl, .ty "tuple", ty_tup ha, kit_ty k_tup_tup, _, rfl, iteF ?_⟩
    refine ⟨_, rfl, a, _, rfl, .inr (SqT.of ha), rfl, _, rfl, iteDF (by intro z; cases z) ?_⟩
    refine ⟨_, rfl, a, _, 0, _, rfl, rfl, SqT.of ha, rfl, rfl, _, rfl, iteDF (vne s_ro_pu) ?_⟩
    refine ⟨_, rfl, a, _, 0, _, rfl, rfl, SqT.of ha, rfl, rfl, _, rfl, iteDF (vne s_ro_po) ?_⟩
    refine ⟨_, rfl, a, _, 0, _, rfl, rfl, SqT.of ha, rfl, rfl, _, rfl, iteD rfl ?_⟩
    refine ⟨_, rfl, a, _, rfl, .inr (SqT.of ha), rfl, _, rfl, iteD rfl ?_⟩
    refine ⟨_, rfl, a, _, 1, _, rfl, rfl, SqT.of ha, rfl, _, _, _, _, _, rfl, .ty "tuple", ty_tup hb, kit_ty k_tup_tup, ?_⟩
    exact q H (Same.refl H)
  | times n w' =>
    obtain ⟨a, u, rfl, ha, hu⟩ := hw
    obtain ⟨hn, _⟩ := can
    refine ⟨_, rfl, _, _, _, _, _, rfl, .ty "tuple", ty_tup ha, kit_ty k_tup_tup, _, rfl, iteF ?_⟩
    refine ⟨_, rfl, a, _, rfl, .inr (SqT.of ha), rfl, _, rfl, iteDF (by intro z; cases z) ?_⟩
    refine ⟨_, rfl, a, _, 0, _, rfl, rfl, SqT.of ha, rfl, rfl, _, rfl, iteDF (vne s_ti_pu) ?_⟩
    refine ⟨_, rfl, a, _, 0, _, rfl, rfl, SqT.of ha, rfl, rfl, _, rfl, iteDF (vne s_ti_po) ?_⟩
    refine ⟨_, rfl, a, _, 0, _, rfl, rfl, SqT.of ha, rfl, rfl, _, rfl, iteDF (vne s_ti_ro) ?_⟩
    refine ⟨_, rfl, a, _, 0, _, rfl, rfl, SqT.of ha, rfl, rfl, _, rfl, iteD rfl ?_⟩
    refine ⟨_, rfl, a, _, rfl, .inr (SqT.of ha), rfl, _, rfl, iteD rfl ?_⟩
    refine ⟨_, rfl, a, _, 1, _, rfl, rfl, SqT.of ha, rfl, (n : Int), 0, 1000000000000000000, rfl, fun H1 s1 => ?_⟩
    rw [decide_eq_true (by omega)]
    exact q H1 s1
theorem ok_works_within (D : Dn K mg "works_within" s_works_within P_works_within) (g : Gx mg) : C8.Cal P w K mg base 1 "works_within" spWithin [] := by
  refine D.cal sc_works_within (fun vs H Q E h => ?_) (fun f cdv A outer s H vs Q E hr h => ?_)
  · obtain ⟨wk, v, rfl, hw, q⟩ := h
    rfl
  obtain ⟨wk, v, rfl, hw, q⟩ := h
  have nd := sc_works_within.nd
  refine ⟨_, (pss_cons (ps_if (pt_cmpR op_eq (pe_ix ix_tup (pv 0) pe_int (fun _ _ => rfl)) pe_str (nomark _)) (pss_one (ps_ret (pe_ix ix_tup (pv 0) pe_int (fun _ _ => rfl)))) pss_nil)
    (pss_cons (ps_if (pt_cmpR op_eq (pe_ix ix_tup (pv 0) pe_int (fun _ _ => rfl)) pe_str (nomark _)) (pss_one (ps_ret (pe_tup (pa_cons (pe_ix ix_tup (pv 0) pe_int (fun _ _ => rfl)) pa_nil)))) pss_nil)
    (pss_one (ps_ret (pe_tup pa_nil))))), ?_⟩
  cases wk with
  | push c =>
    obtain ⟨a, rfl, ha⟩ := hw
    refine ⟨_, rfl, a, _, 0, _, rfl, rfl, SqT.of ha, rfl, rfl, _, rfl, iteDF (vne s_pu_ro) ?_⟩
    refine ⟨_, rfl, a, _, 0, _, rfl, rfl, SqT.of ha, rfl, rfl, _, rfl, iteDF (vne s_pu_ti) ?_⟩
    exact ⟨by show 0 ≤ sizeLine; decide, fun u hu => q _ u [] (Same.new hu _) upd_same rfl⟩
  | pop =>
    obtain ⟨a, rfl, ha⟩ := hw
    refine ⟨_, rfl, a, _, 0, _, rfl, rfl, SqT.of ha, rfl, rfl, _, rfl, iteDF (vne s_po_ro) ?_⟩
    refine ⟨_, rfl, a, _, 0, _, rfl, rfl, SqT.of ha, rfl, rfl, _, rfl, iteDF (vne s_po_ti) ?_⟩
    exact ⟨by show 0 ≤ sizeLine; decide, fun u hu => q _ u [] (Same.new hu _) upd_same rfl⟩
  | row ws =>
    obtain ⟨a, b, xs, rfl, ha, hb, hs⟩ := hw
    refine ⟨_, rfl, a, _, 0, _, rfl, rfl, SqT.of ha, rfl, rfl, _, rfl, iteD rfl ?_⟩
    exact ⟨_, rfl, a, _, 1, _, rfl, rfl, SqT.of ha, rfl, q H b xs (Same.refl H) hb hs⟩
  | times n w' =>
    obtain ⟨a, u, rfl, ha, hu⟩ := hw
    refine ⟨_, rfl, a, _, 0, _, rfl, rfl, SqT.of ha, rfl, rfl, _, rfl, iteDF (vne s_ti_ro) ?_⟩
    refine ⟨_, rfl, a, _, 0, _, rfl, rfl, SqT.of ha, rfl, rfl, _, rfl, iteD rfl ?_⟩
    refine ⟨_, rfl, a, _, 2, _, rfl, rfl, SqT.of ha, rfl, by show 1 ≤ sizeLine; decide, fun p hp => ?_⟩
    exact q _ p _ (Same.new hp _) upd_same ⟨u, [], rfl, hu.tups (Tups.of (Same.new hp _)), rfl⟩
theorem ok_power_triple (D : Dn K mg "power_triple" s_power_triple P_power_triple) (g : Gx mg) (c_untouched : C8.Cal P w K mg base 1 "untouched" spUnt []) (c_join_triples : C8.Cal P w K mg base 2 "join_triples" spJoin []) : C8.Cal P w K mg base 3 "power_triple" spPower [] := by
  refine D.cal sc_power_triple (fun vs H Q E h => ?_) (fun f cdv A outer s H vs Q E hr h => ?_)
  · obtain ⟨v, p, u, t, n, rfl, hp, ok, ht, tok, hn, q⟩ := h
    rfl
  obtain ⟨v, p, u, t, n, rfl, hp, ok, ht, tok, hn, q⟩ := h
  have nd := sc_power_triple.nd
  refine ⟨_, (pss_cons (ps_set (i := 3) nd rfl (.inl rfl) (C8.pe_c c_untouched hr (by decide) rfl (pa_cons (pv 0) pa_nil)))
    (pss_cons (ps_set (i := 4) nd rfl (.inl rfl) (pv 1))
    (pss_cons (ps_set (i := 5) nd rfl (.inl rfl) (pv 2))
    (pss_cons (ps_while PassesOwn.never (pt_cmpR op_gt (pv 5) pe_int (nomark _)) (pss_cons (ps_if (pt_cmpR op_eq (pe_op op_modN (pv 5) pe_int) pe_int (nomark _)) (pss_one (ps_set (i := 3) nd rfl (.inl rfl) (C8.pe_c c_join_triples hr (by decide) rfl (pa_cons (pv 3) (pa_cons (pv 4) pa_nil))))) pss_nil)
    (pss_cons (ps_set (i := 4) nd rfl (.inl rfl) (C8.pe_c c_join_triples hr (by decide) rfl (pa_cons (pv 4) (pa_cons (pv 4) pa_nil))))
    (pss_one (ps_set (i := 5) nd rfl (.inl rfl) (pe_op op_fdivN (pv 5) pe_int))))))
    (pss_one (ps_ret (pv 3))))))), ?_⟩
  have h9 := ok.r9
  refine ⟨_, rfl, v, p, rfl, hp, fun H1 u1 s1 hu1 => ?_⟩
  refine ⟨_, rfl, _, rfl, ?_⟩
  refine while_by (fun σ H2 => ∃ (wv dv : V) (m : Nat) (a b : Tr), σ = [some v, some u, some (.int n), some wv, some dv, some (.int m)] ∧ Same H H2 ∧ TripAt H2 wv a ∧ TripAt H2 dv b ∧ TrOk p.room p.many a ∧ TrOk p.room p.many b ∧ m ≤ 1000000000000000000 ∧ tjoin a (tpw p.room b m) = tpw p.room t n)
    (fun σ _ => match σ with | [_, _, _, _, _, some (.int m)] => m.toNat | _ => 0)
    ⟨u1, u, n, tunt p.room, t, rfl, s1, hu1, ht.mono s1, tunt_ok, tok, hn, tunt_left (tpw_ok tok n)⟩ ?_ ?_
  · rintro σ H2 ⟨wv, dv, m, a, b, rfl, s2, hwv, hdv, aok, bok, hm, e⟩
    have ka := aok.kl
    have kb := bok.kl
    refine ⟨_, rfl, _, _, rfl, rfl, _, rfl, ite2 (fun c => ?_) (fun c => ?_)⟩
    · have m0 : 0 < m := by
        have := of_decide_eq_true c
        omega
      have em : (m : Int).fmod 2 = ((m % 2 : Nat) : Int) := by
        rw [Int.fmod_eq_emod_of_nonneg _ (by decide)]
        omega
      have ed : (m : Int).fdiv 2 = ((m / 2 : Nat) : Int) := by
        rw [Int.fdiv_eq_ediv_of_nonneg _ (by decide)]
        omega
      refine ⟨_, rfl, _, _, rfl, rfl, by show ((2 : Int) ≠ 0); decide, rfl, _, rfl, ?_⟩
      have step : ∀ (H3 : Hp) (wv3 : V) (a3 : Tr), Same H H3 → TripAt H3 wv3 a3 → TripAt H3 dv b → TrOk p.room p.many a3 → tjoin a3 (tpw p.room (tjoin b b) (m / 2)) = tpw p.room t n → ∀ H4 v4, Same H3 H4 → TripAt H4 v4 (tjoin b b) →
          ∃ (wv dv : V) (m' : Nat) (a b : Tr), [some v, some u, some (.int n), some wv3, some v4, some (.int ((m : Int).fdiv 2))] = [some v, some u, some (.int n), some wv, some dv, some (.int m')] ∧ Same H H4 ∧ TripAt H4 wv a ∧ TripAt H4 dv b ∧ TrOk p.room p.many a ∧ TrOk p.room p.many b ∧ m' ≤ 1000000000000000000 ∧ tjoin a (tpw p.room b m') = tpw p.room t n :=
        fun H3 wv3 a3 s3 h3 hd3 ok3 e3 H4 v4 s4 h4 => ⟨wv3, v4, m / 2, a3, tjoin b b, by rw [ed], s3.trans s4, h3.mono s4, h4, ok3, tjoin_ok bok bok, by omega, e3⟩
      have less : ((m : Int).fdiv 2).toNat < (m : Int).toNat := by
        rw [ed]
        omega
      refine ite2 (fun c2 => ?_) (fun c2 => ?_)
      · have m1 : m % 2 = 1 := by
          have c3 := of_decide_eq_true c2
          injection c3 with c4
          have c5 : (m : Int).fmod 2 = 1 := c4
          omega
        refine ⟨_, rfl, _, rfl, _, _, a, b, rfl, hwv, hdv, by omega, by omega, fun H3 v3 s3 h3 => ?_⟩
        refine ⟨_, rfl, _, rfl, _, _, b, b, rfl, hdv.mono s3, hdv.mono s3, by omega, by omega, fun H4 v4 s4 h4 => ?_⟩
        refine ⟨_, rfl, _, _, rfl, rfl, ⟨by decide, by decide⟩, ?_⟩
        refine ⟨step H3 v3 (tjoin a b) (s2.trans s3) h3 (hdv.mono s3) (tjoin_ok aok bok) ?_ H4 v4 s4 h4, less⟩
        rw [← e, ← tpw_odd bok aok m1]
      · have m1 : m % 2 = 0 := by
          by_cases h : m % 2 = 1
          · exact absurd (decide_eq_true (congrArg V.int (show (m : Int).fmod 2 = 1 by omega))) c2
          · omega
        refine ⟨_, rfl, _, rfl, _, _, b, b, rfl, hdv, hdv, by omega, by omega, fun H4 v4 s4 h4 => ?_⟩
        refine ⟨_, rfl, _, _, rfl, rfl, ⟨by decide, by decide⟩, ?_⟩
        refine ⟨step H2 wv a s2 hwv hdv aok ?_ H4 v4 s4 h4, less⟩
        rw [← e, ← tpw_even bok m1]
    · have m0 : m = 0 := by
        by_cases h : m = 0
        · exact h
        · exact absurd (decide_eq_true (show (0 : Int) < (m : Int) by omega)) c
      subst m0
      rw [show tpw p.room b 0 = tunt p.room from rfl, tunt_right aok] at e
      rw [e] at hwv
      exact ⟨_, rfl, q H2 wv s2 hwv⟩
  · rintro σ H2 Q1 Q2 hq ⟨x, e1, i, j, e2, e3, k, e4, h⟩
    exact ⟨x, e1, i, j, e2, e3, k, e4, hq _ _ h⟩
theorem ok_price_of_step (D : Dn K mg "price_of_step" s_price_of_step P_price_of_step) (g : Gx mg) : C8.Cal P w K mg base 1 "price_of_step" spPStep [] := by
  refine D.cal sc_price_of_step (fun vs H Q E h => ?_) (fun f cdv A outer s H vs Q E hr h => ?_)
  · obtain ⟨v, p, c, rfl, ⟨a, b, rfl, ha, hb⟩, ok, hc, q⟩ := h
    rfl
  obtain ⟨v, p, c, rfl, ⟨a, b, rfl, ha, hb⟩, ok, hc, q⟩ := h
  have nd := sc_price_of_step.nd
  refine ⟨_, (pss_cons (ps_if (pt_cmpR op_eq (pv 1) (C8.pe_gc rfl g.POP_STEP) (nomark _)) (pss_one (ps_ret (pe_ix ix_tup (pv 0) pe_int (fun _ _ => rfl)))) pss_nil)
    (pss_one (ps_ret (pe_ix ix_tup (pe_ix ix_tup (pv 0) pe_int (fun _ _ => rfl)) (pe_bm PySem.F.plainAttrs_str PySem.F.slot_str_index PySem.F.type_str_index mt_sindex (C8.pe_gc rfl g.SIGNS) (pa_cons (pv 1) pa_nil)) (fun _ _ => rfl))))), ?_⟩
  refine ⟨_, rfl, rfl, _, rfl, ite2 (fun z => ?_) (fun z => ?_)⟩
  · have z' : c = 45 := by
      have z1 := of_decide_eq_true z
      injection z1 with z2
      exact List.head_eq_of_cons_eq (str_inj.mp z2)
    refine ⟨_, rfl, a, _, 3, _, rfl, rfl, SqT.of ha, rfl, ?_⟩
    have e : cst p c = p.pop := by
      unfold cst
      rw [if_pos z']
    rw [← e]
    exact q H (Same.refl H)
  · have z' : ¬ c = 45 := fun y => by
      subst y
      exact z (decide_eq_true rfl)
    have hs := hc.resolve_left z'
    have hin : ∀ M, c ∈ signs M → c - 97 < M ∧ ∃ r, Builtin.Str.occurrences (tx [97, 98, 99, 100]) (tx [c]) 0 (tx [97, 98, 99, 100]).length 1 = (c - 97) :: r := fun M hM => by
      have h4 : c = 97 ∨ c = 98 ∨ c = 99 ∨ c = 100 := by
        have := List.mem_of_mem_take (show c ∈ List.take M [97, 98, 99, 100] from hM)
        simpa using this
      have hj : c - 97 < M := by
        match M, hM with
        | 0, hM => simp [signs] at hM
        | 1, hM => simp [signs] at hM; omega
        | 2, hM => simp [signs] at hM; omega
        | 3, hM => simp [signs] at hM; omega
        | M + 4, _ => omega
      refine ⟨hj, ?_⟩
      rcases h4 with rfl | rfl | rfl | rfl
      · exact ⟨[], by decide +kernel⟩
      · exact ⟨[], by decide +kernel⟩
      · exact ⟨[], by decide +kernel⟩
      · exact ⟨[], by decide +kernel⟩
    obtain ⟨hj, r, hocc⟩ := hin p.many hs
    have hl : c - 97 < p.pr.length := by
      rw [ok.pl]
      exact hj
    refine ⟨_, rfl, a, _, 2, _, rfl, rfl, SqT.of ha, rfl, rfl, _, rfl, _, _, _, r, rfl, rfl, hocc, ?_⟩
    refine ⟨b, _, ((c - 97 : Nat) : Int), .int p.pr[c - 97], rfl, rfl, TupF.sq hb, atI_nat (by rw [List.getElem?_map, List.getElem?_eq_getElem hl]; rfl), ?_⟩
    have e : cst p c = p.pr[c - 97] := by
      unfold cst
      rw [if_neg z', List.getD_eq_getElem?_getD, List.getElem?_eq_getElem hl]
      rfl
    rw [← e]
    exact q H (Same.refl H)
theorem walk_rt {K : PySem.W.Frag} {a : Addr} {xs : List V} : Walk (RT.ItvT K a xs.length) xs.length (fun H => SqT K H a xs) (fun i H x H' => H' = H ∧ xs[xs.length - 1 - i]? = some x) :=
  ⟨fun i _ hi q => ⟨hi, xs, xs[xs.length - 1 - i]'(by omega), q, by simp [show xs.length - 1 - i < xs.length by omega]⟩, fun _ _ => Nat.le_refl _, fun _ _ _ _ _ q y => ⟨y.1, y.2 xs q⟩⟩
theorem no_spTri : ∀ vs H Q E, ¬ spTri 0 vs H Q E := fun vs H Q E h => by
  obtain ⟨v, p, u, w, _, _, _, _, _, h, _⟩ := h
  have := W.dep_pos w
  omega
theorem no_spPWork : ∀ vs H Q E, ¬ spPWork 0 vs H Q E := fun vs H Q E h => by
  obtain ⟨v, p, u, w, _, _, _, _, _, h, _⟩ := h
  have := W.dep_pos w
  omega
theorem foldW_ok {room many : Nat} (hr : 1 ≤ room) : ∀ (l : List W) (t : Tr), (∀ w ∈ l, w.Can many) → TrOk room many t → TrOk room many (l.foldl (fun t w => tjoin t (w.tri room)) t)
  | [], _, _, a => a
  | w :: r, t, h, a => foldW_ok hr r _ (fun x hx => h x (List.mem_cons_of_mem _ hx)) (tjoin_ok a (W.tri_ok hr w (h w (List.mem_cons_self ..))))
theorem ok_triple_of_work (D : Dn K mg "triple_of_work" s_triple_of_work P_triple_of_work) (g : Gx mg) (c_triple_of_step : C8.Cal P w K mg base 2 "triple_of_step" spTStep []) (c_power_triple : C8.Cal P w K mg base 3 "power_triple" spPower []) (c_untouched : C8.Cal P w K mg base 1 "untouched" spUnt []) (c_join_triples : C8.Cal P w K mg base 2 "join_triples" spJoin []) : ∀ n, C8.Cal P w K mg base (n + 3) "triple_of_work" (spTri n) []
  | 0 => by
    obtain ⟨f, fd, F, hm, b⟩ := D.ex
    exact ⟨f, fd, _, [], (⟨fun vs H Q E h => absurd h (no_spTri vs H Q E), fun A outer s H args us vs Q E _ _ _ _ h => absurd h (no_spTri vs H Q E)⟩ : FnOk _ _ _ _ _ _ _ _ _ _ _), hm, F.kp, b, .nil⟩
  | n + 1 => by
    have c_triple_of_work := ok_triple_of_work D g c_triple_of_step c_power_triple c_untouched c_join_triples n
    refine D.cal sc_triple_of_work (fun vs H Q E h => ?_) (fun f cdv A outer s H vs Q E hr h => ?_)
    · obtain ⟨v, p, u, wk, rfl, hp, ok, hw, can, hd, q⟩ := h
      rfl
    obtain ⟨v, p, u, wk, rfl, hp, ok, hw, can, hd, q⟩ := h
    have nd := sc_triple_of_work.nd
    refine ⟨_, (pss_cons (ps_if (pt_cmpR op_eq (pe_ix ix_tup (pv 1) pe_int (fun _ _ => rfl)) pe_str (nomark _)) (pss_one (ps_ret (C8.pe_c c_triple_of_step hr (by omega) rfl (pa_cons (pv 0) (pa_cons (pe_ix ix_tup (pv 1) pe_int (fun _ _ => rfl)) pa_nil))))) pss_nil)
      (pss_cons (ps_if (pt_cmpR op_eq (pe_ix ix_tup (pv 1) pe_int (fun _ _ => rfl)) pe_str (nomark _)) (pss_one (ps_ret (C8.pe_c c_triple_of_step hr (by omega) rfl (pa_cons (pv 0) (pa_cons (C8.pe_gc rfl g.POP_STEP) pa_nil))))) pss_nil)
      (pss_cons (ps_if (pt_cmpR op_eq (pe_ix ix_tup (pv 1) pe_int (fun _ _ => rfl)) pe_str (nomark _)) (pss_one (ps_ret (C8.pe_c c_power_triple hr (by omega) rfl (pa_cons (pv 0) (pa_cons (C8.pe_c c_triple_of_work hr (by omega) rfl (pa_cons (pv 0) (pa_cons (pe_ix ix_tup (pv 1) pe_int (fun _ _ => rfl)) pa_nil))) (pa_cons (pe_ix ix_tup (pv 1) pe_int (fun _ _ => rfl)) pa_nil)))))) pss_nil)
      (pss_cons (ps_set (i := 2) nd rfl (.inl rfl) (C8.pe_c c_untouched hr (by omega) rfl (pa_cons (pv 0) pa_nil)))
      (pss_cons (ps_for PassesOwn.never rfl (pi_tup (pe_ix ix_tup (pv 1) pe_int (fun _ _ => rfl))) (pg_name (i := 3) nd rfl (.inl rfl)) (pss_one (ps_set (i := 2) nd rfl (.inl rfl) (C8.pe_c c_join_triples hr (by omega) rfl (pa_cons (pv 2) (pa_cons (C8.pe_c c_triple_of_work hr (by omega) rfl (pa_cons (pv 0) (pa_cons (pv 3) pa_nil))) pa_nil))))))
      (pss_one (ps_ret (pv 2)))))))), ?_⟩
    have h9 := ok.r9
    cases wk with
    | push c =>
      obtain ⟨a, rfl, ha⟩ := hw
      refine ⟨_, rfl, a, _, 0, _, rfl, rfl, SqT.of ha, rfl, rfl, _, rfl, iteD rfl ?_⟩
      exact ⟨_, rfl, _, rfl, a, _, 1, _, rfl, rfl, SqT.of ha, rfl, v, p, c, rfl, hp, ok, q⟩
    | pop =>
      obtain ⟨a, rfl, ha⟩ := hw
      refine ⟨_, rfl, a, _, 0, _, rfl, rfl, SqT.of ha, rfl, rfl, _, rfl, iteDF (vne s_po_pu) ?_⟩
      refine ⟨_, rfl, a, _, 0, _, rfl, rfl, SqT.of ha, rfl, rfl, _, rfl, iteD rfl ?_⟩
      exact ⟨_, rfl, v, p, 45, rfl, hp, ok, q⟩
    | times m wk =>
      obtain ⟨a, u, rfl, ha, hu⟩ := hw
      obtain ⟨hm, can⟩ := can
      have hd' : wk.dep ≤ n := by
        have : 1 + wk.dep ≤ n + 1 := hd
        omega
      refine ⟨_, rfl, a, _, 0, _, rfl, rfl, SqT.of ha, rfl, rfl, _, rfl, iteDF (vne s_ti_pu) ?_⟩
      refine ⟨_, rfl, a, _, 0, _, rfl, rfl, SqT.of ha, rfl, rfl, _, rfl, iteDF (vne s_ti_po) ?_⟩
      refine ⟨_, rfl, a, _, 0, _, rfl, rfl, SqT.of ha, rfl, rfl, _, rfl, iteD rfl ?_⟩
      refine ⟨_, rfl, _, rfl, _, rfl, a, _, 2, _, rfl, rfl, SqT.of ha, rfl, v, p, u, wk, rfl, hp, ok, hu, can, hd', fun H1 u1 s1 h1 => ?_⟩
      exact ⟨_, rfl, a, _, 1, _, rfl, rfl, SqT.of (s1 _ _ ha), rfl, v, p, u1, wk.tri p.room, m, rfl, hp.mono s1, ok, h1, W.tri_ok ok.r1 wk can, hm, fun H2 u2 s2 h2 => q H2 u2 (s1.trans s2) h2⟩
    | row ws =>
      obtain ⟨a, b, xs, rfl, ha, hb, hs⟩ := hw
      obtain ⟨hlen, can⟩ := can
      have hd' : ws.dep ≤ n := by
        have : 1 + ws.dep ≤ n + 1 := hd
        omega
      have hl := hs.len
      refine ⟨_, rfl, a, _, 0, _, rfl, rfl, SqT.of ha, rfl, rfl, _, rfl, iteDF (vne s_ro_pu) ?_⟩
      refine ⟨_, rfl, a, _, 0, _, rfl, rfl, SqT.of ha, rfl, rfl, _, rfl, iteDF (vne s_ro_po) ?_⟩
      refine ⟨_, rfl, a, _, 0, _, rfl, rfl, SqT.of ha, rfl, rfl, _, rfl, iteDF (vne s_ro_ti) ?_⟩
      refine ⟨_, rfl, v, p, rfl, hp, fun H1 u1 s1 h1 => ?_⟩
      refine ⟨_, rfl, a, _, 1, _, rfl, rfl, SqT.of (s1 _ _ ha), rfl, b, rfl, ⟨_, SqT.of (s1 _ _ hb)⟩, ?_⟩
      refine for_it (walk_tup (K := K) (a := b) (xs := xs)) (fun i σ H2 => ∃ (wv : V) (o : Option V), σ = [some v, some (.ref a), some wv, o] ∧ Same H H2 ∧ TripAt H2 wv ((ws.list.take i).foldl (fun t w => tjoin t (w.tri p.room)) (tunt p.room)))
        ⟨u1, none, rfl, s1, h1⟩ (fun i σ H2 _ ⟨_, _, _, s2, _⟩ => SqT.of (s2 _ _ hb)) ?_ ?_
      · rintro i x σ H2 H3 hi ⟨wv, o, rfl, s2, hwv⟩ ⟨rfl, hx⟩
        obtain ⟨wk, hwk, hwa⟩ := hs.get hx
        have hmem := List.mem_of_getElem? hwk
        have cwk := Ws.can_mem can hmem
        have dwk := Ws.dep_mem hmem
        have fok := foldW_ok (many := p.many) ok.r1 (ws.list.take i) (tunt p.room) (fun x hx => Ws.can_mem can (List.mem_of_mem_take hx)) tunt_ok
        have tok := W.tri_ok (room := p.room) ok.r1 wk cwk
        have k1 := fok.kl
        have k2 := tok.kl
        refine ⟨_, rfl, _, rfl, _, rfl, v, p, x, wk, rfl, hp.mono s2, ok, hwa.tups (Tups.of s2), cwk, by omega, fun H4 v4 s4 h4 => ?_⟩
        refine ⟨_, _, _, _, rfl, hwv.mono s4, h4, by omega, by omega, fun H5 v5 s5 h5 => ?_⟩
        refine ⟨v5, some x, rfl, s2.trans (s4.trans s5), ?_⟩
        rw [List.take_add_one, hwk, List.foldl_append]
        exact h5
      · rintro σ H2 ⟨wv, o, rfl, s2, hwv⟩
        rw [hl, List.take_of_length_le (Nat.le_refl _), ← Ws.tri_list] at hwv
        exact ⟨_, rfl, q H2 wv s2 hwv⟩
theorem ok_price_of_work (D : Dn K mg "price_of_work" s_price_of_work P_price_of_work) (g : Gx mg) (c_price_of_step : C8.Cal P w K mg base 1 "price_of_step" spPStep []) : ∀ n, C8.Cal P w K mg base (n + 1) "price_of_work" (spPWork n) []
  | 0 => by
    obtain ⟨f, fd, F, hm, b⟩ := D.ex
    exact ⟨f, fd, _, [], (⟨fun vs H Q E h => absurd h (no_spPWork vs H Q E), fun A outer s H args us vs Q E _ _ _ _ h => absurd h (no_spPWork vs H Q E)⟩ : FnOk _ _ _ _ _ _ _ _ _ _ _), hm, F.kp, b, .nil⟩
  | n + 1 => by
    have c_price_of_work := ok_price_of_work D g c_price_of_step n
    refine D.cal sc_price_of_work (fun vs H Q E h => ?_) (fun f cdv A outer s H vs Q E hr h => ?_)
    · obtain ⟨v, p, u, wk, rfl, hp, ok, hw, can, hd, q⟩ := h
      rfl
    obtain ⟨v, p, u, wk, rfl, hp, ok, hw, can, hd, q⟩ := h
    have nd := sc_price_of_work.nd
    refine ⟨_, (pss_cons (ps_if (pt_cmpR op_eq (pe_ix ix_tup (pv 1) pe_int (fun _ _ => rfl)) pe_str (nomark _)) (pss_one (ps_ret (C8.pe_c c_price_of_step hr (by omega) rfl (pa_cons (pv 0) (pa_cons (pe_ix ix_tup (pv 1) pe_int (fun _ _ => rfl)) pa_nil))))) pss_nil)
      (pss_cons (ps_if (pt_cmpR op_eq (pe_ix ix_tup (pv 1) pe_int (fun _ _ => rfl)) pe_str (nomark _)) (pss_one (ps_ret (C8.pe_c c_price_of_step hr (by omega) rfl (pa_cons (pv 0) (pa_cons (C8.pe_gc rfl g.POP_STEP) pa_nil))))) pss_nil)
      (pss_cons (ps_if (pt_cmpR op_eq (pe_ix ix_tup (pv 1) pe_int (fun _ _ => rfl)) pe_str (nomark _)) (pss_one (ps_ret (pe_op op_mul (pe_ix ix_tup (pv 1) pe_int (fun _ _ => rfl)) (C8.pe_c c_price_of_work hr (by omega) rfl (pa_cons (pv 0) (pa_cons (pe_ix ix_tup (pv 1) pe_int (fun _ _ => rfl)) pa_nil)))))) pss_nil)
      (pss_one (ps_ret (pe_callB (cr_sum rfl) rfl g.sum b_sum (pa_cons (pe_lc (own := [("inner", 2)]) rfl nd (pi_tup (pe_ix ix_tup (pv 1) pe_int (fun _ _ => rfl))) (blkOk_by (own := [("inner", 2)]) (N := N_price_of_work) (sc := defScope s_price_of_work) (by decide +kernel)) (fun _ _ _ _ _ => (pg_name (i := 2) nd rfl (.inl rfl))) (fun _ _ _ _ _ => pts_nil) (fun _ _ _ _ _ => (C8.pe_c c_price_of_work (by exact hr) (by omega) rfl (pa_cons (pv 0) (pa_cons (pv 2) pa_nil))))) pa_nil))))))), ?_⟩
    cases wk with
    | push c =>
      obtain ⟨a, rfl, ha⟩ := hw
      refine ⟨_, rfl, a, _, 0, _, rfl, rfl, SqT.of ha, rfl, rfl, _, rfl, iteD rfl ?_⟩
      exact ⟨_, rfl, _, rfl, a, _, 1, _, rfl, rfl, SqT.of ha, rfl, v, p, c, rfl, hp, ok, .inr can, q⟩
    | pop =>
      obtain ⟨a, rfl, ha⟩ := hw
      refine ⟨_, rfl, a, _, 0, _, rfl, rfl, SqT.of ha, rfl, rfl, _, rfl, iteDF (vne s_po_pu) ?_⟩
      refine ⟨_, rfl, a, _, 0, _, rfl, rfl, SqT.of ha, rfl, rfl, _, rfl, iteD rfl ?_⟩
      exact ⟨_, rfl, v, p, 45, rfl, hp, ok, .inl rfl, q⟩
    | times m wk =>
      obtain ⟨a, u, rfl, ha, hu⟩ := hw
      obtain ⟨hm, can⟩ := can
      have hd' : wk.dep ≤ n := by
        have : 1 + wk.dep ≤ n + 1 := hd
        omega
      refine ⟨_, rfl, a, _, 0, _, rfl, rfl, SqT.of ha, rfl, rfl, _, rfl, iteDF (vne s_ti_pu) ?_⟩
      refine ⟨_, rfl, a, _, 0, _, rfl, rfl, SqT.of ha, rfl, rfl, _, rfl, iteDF (vne s_ti_po) ?_⟩
      refine ⟨_, rfl, a, _, 0, _, rfl, rfl, SqT.of ha, rfl, rfl, _, rfl, iteD rfl ?_⟩
      have hmi : -(2 ^ 64) < (m : Int) ∧ (m : Int) < 2 ^ 64 := by
        have e : (2 : Int) ^ 64 = 18446744073709551616 := by decide
        rw [e]
        omega
      exact ⟨_, rfl, a, _, 1, _, rfl, rfl, SqT.of ha, rfl, _, rfl, _, rfl, a, _, 2, _, rfl, rfl, SqT.of ha, rfl, v, p, u, wk, rfl, hp, ok, hu, can, hd', fun H1 s1 => ⟨_, _, rfl, rfl, .inl hmi, q H1 s1⟩⟩
    | row ws =>
      obtain ⟨a, b, xs, rfl, ha, hb, hs⟩ := hw
      obtain ⟨hlen, can⟩ := can
      have hd' : ws.dep ≤ n := by
        have : 1 + ws.dep ≤ n + 1 := hd
        omega
      have hl := hs.len
      refine ⟨_, rfl, a, _, 0, _, rfl, rfl, SqT.of ha, rfl, rfl, _, rfl, iteDF (vne s_ro_pu) ?_⟩
      refine ⟨_, rfl, a, _, 0, _, rfl, rfl, SqT.of ha, rfl, rfl, _, rfl, iteDF (vne s_ro_po) ?_⟩
      refine ⟨_, rfl, a, _, 0, _, rfl, rfl, SqT.of ha, rfl, rfl, _, rfl, iteDF (vne s_ro_ti) ?_⟩
      refine ⟨_, rfl, a, _, 1, _, rfl, rfl, SqT.of ha, rfl, b, rfl, ⟨_, SqT.of hb⟩, fun D hD => ?_⟩
      refine lc_it (walk_tup (K := K) (a := b) (xs := xs)) (fun i H2 => Same H H2 ∧ H2 D = some (.lst (((ws.list.take i).map (W.prc (cst p))).map V.int))) ⟨Same.new hD _, upd_same⟩ (fun i H2 _ h2 => SqT.of (h2.1 _ _ hb)) ?_ ?_
      · rintro i x H2 H3 hi ⟨s2, h2⟩ ⟨rfl, hx⟩
        obtain ⟨wk, hwk, hwa⟩ := hs.get hx
        have hmem := List.mem_of_getElem? hwk
        have hsz : i < sizeLine := szl (by rw [hl, Ws.len_list] at hi; omega)
        refine ⟨rfl, ?_⟩
        refine ⟨_, rfl, _, rfl, v, p, x, wk, rfl, hp.mono s2, ok, hwa.tups (Tups.of s2), Ws.can_mem can hmem, Nat.le_trans (Ws.dep_mem hmem) hd', fun H4 s4 => ⟨_, s4 _ _ h2, ?_, fun b o e => ?_, ?_⟩⟩
        · rw [List.length_map, List.length_map, List.length_take]
          exact Nat.lt_of_le_of_lt (Nat.min_le_left ..) hsz
        · rw [upd_ne (ne_of_none e hD)]
          exact s4 _ _ (s2 b o e)
        · rw [upd_same, List.take_add_one, hwk, List.map_append, List.map_append]
          rfl
      · rintro H2 ⟨s2, h2⟩
        rw [hl, List.take_of_length_le (Nat.le_refl _)] at h2
        refine ⟨D, _, rfl, SqL.of h2, ?_⟩
        rw [← Ws.prc_list]
        exact q H2 s2
/-- what waits, the next one first -/
def PAt (H : Hp) : List (W × Nat) → List V → Prop
  | [], xs => xs = []
  | p :: r, xs => ∃ T u s, xs = .ref T :: s ∧ H T = some (.tup [u, .int (p.2 : Int)]) ∧ WAt H p.1 u ∧ PAt H r s
theorem PAt.tups {H H' : Hp} (e : Tups H H') : ∀ {ps : List (W × Nat)} {xs : List V}, PAt H ps xs → PAt H' ps xs
  | [], _, h => h
  | p :: r, xs, h => by
    obtain ⟨T, u, s, h1, h2, h3, h4⟩ := h
    exact ⟨T, u, s, h1, e _ _ h2, h3.tups e, PAt.tups e h4⟩
theorem PAt.len {H : Hp} : ∀ {ps : List (W × Nat)} {xs : List V}, PAt H ps xs → xs.length = ps.length
  | [], _, h => by
    cases h
    rfl
  | p :: r, xs, h => by
    obtain ⟨T, u, s, rfl, h2, h3, h4⟩ := h
    show s.length + 1 = r.length + 1
    rw [h4.len]
def psz (ps : List (W × Nat)) : Nat := (ps.map fun p => p.1.siz).sum
theorem psz_cons (p : W × Nat) (r : List (W × Nat)) : psz (p :: r) = p.1.siz + psz r := by
  unfold psz
  rw [List.map_cons, List.sum_cons]
theorem psz_len : ∀ ps : List (W × Nat), ps.length ≤ psz ps
  | [] => Nat.zero_le _
  | p :: r => by
    have := psz_len r
    have := W.siz_pos p.1
    rw [psz_cons, List.length_cons]
    omega
theorem within_siz : ∀ w : W, w.siz = 1 + w.within.siz
  | .push _ => rfl
  | .pop => rfl
  | .row _ => rfl
  | .times _ w => by
    show 1 + w.siz = 1 + (w.siz + 0)
    omega
theorem within_dep : ∀ w : W, w.dep = 1 + w.within.dep
  | .push _ => rfl
  | .pop => rfl
  | .row _ => rfl
  | .times _ w => by
    show 1 + w.dep = 1 + max w.dep 0
    omega
theorem within_can {many : Nat} : ∀ {w : W}, w.Can many → w.within.Can many
  | .push _, _ => trivial
  | .pop, _ => trivial
  | .row _, h => h.2
  | .times _ _, h => ⟨h.2, trivial⟩
theorem gn {i : Nat} {x : V} {σ : L2.St} {H : Hp} {Q : L2.St → Hp → Prop} (h : Q (σ.set i (some x)) H) : gName i x σ H Q := h
theorem asg_c {v : V} {i : Nat} {u : TS} {D : Ends} {σ : L2.St} {H : Hp} (h : u D (σ.set i (some v)) H) : tSeq (tAsg (tC v) (gName i)) u D σ H := h
theorem ok_check_work (D : Dn K mg "check_work" s_check_work P_check_work) (g : Gx mg) (c_signs_of : C8.Cal P w K mg base 1 "signs_of" spSigns []) (c_is_work_alone : C8.Cal P w K mg base 2 "is_work_alone" spAlone []) (c_works_within : C8.Cal P w K mg base 1 "works_within" spWithin []) : C8.Cal P w K mg base 3 "check_work" spChWork [] := by
  refine D.cal sc_check_work (fun vs H Q E h => ?_) (fun f cdv A outer s H vs Q E hr h => ?_)
  · obtain ⟨v, p, u, wk, rfl, hp, ok, hw, wok, q⟩ := h
    rfl
  obtain ⟨v, p, u, wk, rfl, hp, ok, hw, wok, q⟩ := h
  have nd := sc_check_work.nd
  refine ⟨_, (pss_cons (ps_set (i := 2) nd rfl (.inl rfl) (pe_callTy (call_listS rfl) rfl g.list b_list (pa_cons (C8.pe_c c_signs_of hr (by decide) rfl (pa_cons (pv 0) pa_nil)) pa_nil)))
    (pss_cons (ps_set (i := 3) nd rfl (.inl rfl) (pe_lst (pa_cons (pe_tup (pa_cons (pv 1) (pa_cons pe_int pa_nil))) pa_nil)))
    (pss_cons (ps_set (i := 4) nd rfl (.inl rfl) pe_int)
    (pss_one (ps_while PassesOwn.never (pt_truth (pv 3) (by intro _; rfl)) (pss_cons (ps_asg (pe_bm0 PySem.F.plainAttrs_list PySem.F.slot_list_pop PySem.F.type_list_pop mt_pop (pv 3)) (pg_tup (by rfl) (pgs_cons (pg_name (i := 5) nd rfl (.inl rfl)) (pgs_cons (pg_name (i := 6) nd rfl (.inl rfl)) pgs_nil))))
    (pss_cons (ps_if (PW.pt (pw_or (pt_cmpR op_eq (pv 4) (C8.pe_gc rfl g.MOST_WORKS) (nomark _)) (pw_or (pt_cmpR op_gt (pv 6) (C8.pe_gc rfl g.MOST_DEEP) (nomark _)) (pw_or1 (pt_not (pt_val (C8.pe_c c_is_work_alone hr (by decide) rfl (pa_cons (pv 5) (pa_cons (pv 2) pa_nil))))))))) (pss_one ps_never) pss_nil)
    (pss_cons (ps_aug (i := 4) nd rfl (.inl rfl) pe_int ip_add)
    (pss_one (ps_for PassesOwn.never rfl (RT.pi_revA rfl g.reversed (C8.pe_c c_works_within hr (by decide) rfl (pa_cons (pv 5) pa_nil))) (pg_name (i := 7) nd rfl (.inl rfl)) (pss_one (ps_expr (pe_bm PySem.F.plainAttrs_list PySem.F.slot_list_append PySem.F.type_list_append mt_append (pv 3) (pa_cons (pe_tup (pa_cons (pv 7) (pa_cons (pe_op op_add (pv 6) pe_int) pa_nil))) pa_nil)))))))))))))), ?_⟩
  have h4 := signs_len p.many
  refine ⟨_, rfl, v, p, rfl, hp, ok, fun H1 s1 => ⟨_, rfl, by rw [tx_len]; exact sz (by omega), fun D hD => ?_⟩⟩
  rw [tx_list]
  have sD := Same.new hD (.lst ((signs p.many).map fun c => V.str ⟨#[c]⟩))
  have hDD : upd H1 D (.lst ((signs p.many).map fun c => V.str ⟨#[c]⟩)) D = some (.lst ((signs p.many).map fun c => V.str (tx [c]))) := upd_same
  generalize upd H1 D (.lst ((signs p.many).map fun c => V.str ⟨#[c]⟩)) = H2 at sD hDD
  refine ⟨_, rfl, by show 2 ≤ sizeLine; decide, fun T0 hT0 => ⟨by show 1 ≤ sizeLine; decide, fun Wl hWl => ?_⟩⟩
  have sT := Same.new hT0 (.tup [u, .int 1])
  have sW := Same.new hWl (.lst [.ref T0])
  have s2 := s1.trans (sD.trans (sT.trans sW))
  have nW : H Wl = none := (s1.trans (sD.trans sT)).free hWl
  have neD : D ≠ Wl := ne_of_none (sT _ _ hDD) hWl
  refine gn ?_
  dsimp only
  refine asg_c ?_
  refine while_by (fun σ H3 => ∃ (num : Nat) (o5 o6 o7 : Option V) (ps : List (W × Nat)) (ys : List V), σ = [some v, some u, some (.ref D), some (.ref Wl), some (.int (num : Int)), o5, o6, o7] ∧ Same H H3 ∧ H3 D = some (.lst ((signs p.many).map fun c => V.str (tx [c]))) ∧ H3 Wl = some (.lst ys.reverse) ∧ PAt H3 ps ys ∧
      num + psz ps ≤ 60 ∧ ∀ x ∈ ps, x.1.Can p.many ∧ 1 ≤ x.2 ∧ x.2 + x.1.dep ≤ 9)
    (fun σ _ => match σ with | [_, _, _, _, some (.int m), _, _, _] => 60 - m.toNat | _ => 0)
    ⟨0, none, none, none, [(wk, 1)], [.ref T0], rfl, s2, sW _ _ (sT _ _ hDD), upd_same, ⟨T0, u, [], rfl, sW _ _ upd_same, hw.tups (Tups.of s2), rfl⟩, by
      have := wok.siz
      show 0 + psz [(wk, 1)] ≤ 60
      rw [psz_cons]
      show 0 + (wk.siz + 0) ≤ 60
      omega, fun x hx => by
      have e : x = (wk, 1) := by simpa using hx
      subst e
      have := wok.dep
      exact ⟨wok.can, Nat.le_refl _, by show 1 + wk.dep ≤ 9; omega⟩⟩ ?_ ?_
  · rintro σ H3 ⟨num, o5, o6, o7, ps, ys, rfl, s3, hD3, hW3, hpa, hnum, hall⟩
    refine ⟨_, rfl, _, .inl ⟨_, SqL.of hW3, rfl⟩, ?_⟩
    cases ps with
    | nil =>
      have e : ys = [] := hpa
      subst e
      exact iteF (q H3 s3)
    | cons x r =>
      obtain ⟨T, fu, ys, rfl, hT, hfu, hpr⟩ := hpa
      obtain ⟨can, d1, d9⟩ := hall x (List.mem_cons_self ..)
      have dpos := W.dep_pos x.1
      have spos := W.siz_pos x.1
      rw [psz_cons] at hnum
      have erev : (V.ref T :: ys).reverse = ys.reverse ++ [.ref T] := List.reverse_cons
      rw [erev] at hW3 ⊢
      have ene : (!(ys.reverse ++ [V.ref T]).isEmpty) = true := by simp
      rw [ene]
      refine iteT ?_
      -- found, deep = waiting.pop()
      refine ⟨_, rfl, .inl ⟨rfl, _, SqL.of hW3⟩, Wl, _, .ref T, rfl, rfl, hW3, by simp, ?_⟩
      rw [List.dropLast_concat]
      have tW : Tups H3 (upd H3 Wl (.lst ys.reverse)) := Tups.lst hW3
      have s4 : Same H (upd H3 Wl (.lst ys.reverse)) := fun b o e => by
        rw [upd_ne (ne_of_none e nW)]
        exact s3 _ _ e
      have hD4 : upd H3 Wl (.lst ys.reverse) D = some (.lst ((signs p.many).map fun c => V.str (tx [c]))) := by
        rw [upd_ne neD]
        exact hD3
      have hW4 : upd H3 Wl (.lst ys.reverse) Wl = some (.lst ys.reverse) := upd_same
      have hT4 := tW _ _ hT
      have hfu4 := hfu.tups tW
      have hpr4 := hpr.tups tW
      generalize upd H3 Wl (.lst ys.reverse) = H4 at s4 hD4 hW4 hT4 hfu4 hpr4 tW
      refine ⟨T, _, rfl, SqT.of hT4, rfl, _, _, rfl, _, _, rfl, rfl, ?_⟩
      -- the test
      refine ⟨_, rfl, rfl, _, rfl, iteDF (fun z => by injection z with z; omega) ?_⟩
      refine ⟨_, rfl, _, _, rfl, rfl, _, rfl, iteDF (by omega) ?_⟩
      refine ⟨_, rfl, _, rfl, x.1, fu, D, p.many, rfl, hfu4, hD4, can, fun H5 s5 => ⟨_, rfl, iteF ?_⟩⟩
      -- number += 1
      refine ⟨_, rfl, _, _, rfl, rfl, ?_⟩
      -- for inner in reversed(..)
      refine ⟨_, rfl, x.1, fu, rfl, hfu4.tups (Tups.of s5), fun H6 uu zs s6 huu hzs => ⟨uu, zs, rfl, .inr ⟨SqT.of huu, ?_⟩⟩⟩
      have hl := hzs.len
      have e1 := within_siz x.1
      have e2 := within_dep x.1
      have cw := within_can can
      have s46 := s5.trans s6
      have sz2 : ∀ n, psz (((x.1.within.list.drop n).map fun w' => (w', x.2 + 1)) ++ r) ≤ x.1.within.siz + psz r := fun n => by
        have h1 : ∀ (l : List W) (n : Nat), ((l.drop n).map W.siz).sum ≤ (l.map W.siz).sum := fun l => by
          induction l with
          | nil => intro n; simp
          | cons a l ih =>
            intro n
            cases n with
            | zero => simp
            | succ n =>
              have := ih n
              rw [List.drop_succ_cons, List.map_cons, List.sum_cons]
              omega
        have h2 := h1 x.1.within.list n
        rw [← Ws.siz_list] at h2
        unfold psz
        rw [List.map_append, List.sum_append, List.map_map]
        have e : ((fun p : W × Nat => p.1.siz) ∘ fun w' => (w', x.2 + 1)) = W.siz := rfl
        rw [e]
        omega
      refine for_it (walk_rt (K := K) (a := uu) (xs := zs)) (fun i σ H7 => ∃ (o7 : Option V) (ws : List V), σ = [some v, some u, some (.ref D), some (.ref Wl), some (.int ((num : Int) + 1)), some fu, some (.int (x.2 : Int)), o7] ∧ Same H H7 ∧ Tups H6 H7 ∧ H7 D = some (.lst ((signs p.many).map fun c => V.str (tx [c]))) ∧ H7 Wl = some (.lst ws.reverse) ∧
          PAt H7 (((x.1.within.list.drop (zs.length - i)).map fun w' => (w', x.2 + 1)) ++ r) ws)
        ⟨o7, ys, rfl, s4.trans s46, Tups.refl _, s46 _ _ hD4, s46 _ _ hW4, by
          rw [Nat.sub_zero, hl, List.drop_length]
          exact hpr4.tups (Tups.of s46)⟩ (fun i σ H7 _ ⟨_, _, _, _, t7, _⟩ => SqT.of (t7 _ _ huu)) ?_ ?_
      · rintro i y σ H7 H8 hi ⟨o7, ws, rfl, s7, t7, hD7, hW7, hp7⟩ ⟨rfl, hy⟩
        obtain ⟨w', hw', hwa⟩ := hzs.get hy
        have hlen := hp7.len
        have hle := psz_len (((x.1.within.list.drop (zs.length - i)).map fun w' => (w', x.2 + 1)) ++ r)
        have hs2 := sz2 (zs.length - i)
        refine ⟨_, rfl, .inl ⟨rfl, _, SqL.of hW7⟩, _, rfl, _, rfl, _, _, rfl, rfl, by show 2 ≤ sizeLine; decide, fun T' hT' => ?_⟩
        have sT' := Same.new hT' (.tup [y, .int ((x.2 : Int) + 1)])
        refine ⟨Wl, _, _, rfl, rfl, sT' _ _ hW7, by rw [List.length_reverse, hlen]; exact szl (by omega), ?_⟩
        have hneW : T' ≠ Wl := (ne_of_none hW7 hT').symm
        have tl : Tups (upd H8 T' (.tup [y, .int ((x.2 : Int) + 1)])) (upd (upd H8 T' (.tup [y, .int ((x.2 : Int) + 1)])) Wl (.lst (ws.reverse ++ [.ref T']))) := Tups.lst (sT' _ _ hW7)
        have tall : Tups H8 (upd (upd H8 T' (.tup [y, .int ((x.2 : Int) + 1)])) Wl (.lst (ws.reverse ++ [.ref T']))) := (Tups.of sT').trans tl
        refine ⟨some y, .ref T' :: ws, rfl, fun b o e => ?_, t7.trans tall, ?_, by rw [upd_same, List.reverse_cons], ?_⟩
        · rw [upd_ne (ne_of_none e nW)]
          exact sT' _ _ (s7 _ _ e)
        · rw [upd_ne neD]
          exact sT' _ _ hD7
        · have hdrop : x.1.within.list.drop (zs.length - (i + 1)) = w' :: x.1.within.list.drop (zs.length - i) := by
            have e3 : zs.length - (i + 1) = zs.length - 1 - i := by omega
            have e4 : zs.length - i = zs.length - 1 - i + 1 := by omega
            rw [e3, e4]
            obtain ⟨hlt, he⟩ := List.getElem?_eq_some_iff.mp hw'
            rw [← he]
            exact List.drop_eq_getElem_cons hlt
          rw [hdrop]
          refine ⟨T', y, ws, rfl, tl _ _ upd_same, hwa.tups (t7.trans tall), hp7.tups tall⟩
      · rintro σ H7 ⟨o7, ws, rfl, s7, t7, hD7, hW7, hp7⟩
        have e0 : zs.length - zs.length = 0 := Nat.sub_self _
        rw [e0, List.drop_zero] at hp7
        have hs2 := sz2 0
        rw [List.drop_zero] at hs2
        refine ⟨⟨num + 1, some fu, some (.int (x.2 : Int)), o7, _, ws, rfl, s7, hD7, hW7, hp7, by omega, fun y hy => ?_⟩, ?_⟩
        · rcases List.mem_append.mp hy with h | h
          · obtain ⟨w', hw', rfl⟩ := List.mem_map.mp h
            have := Ws.dep_mem hw'
            exact ⟨Ws.can_mem cw hw', by show 1 ≤ x.2 + 1; omega, by show x.2 + 1 + w'.dep ≤ 9; omega⟩
          · exact hall y (List.mem_cons_of_mem _ h)
        · show 60 - ((num : Int) + 1).toNat < 60 - ((num : Int)).toNat
          omega
  · rintro σ H3 Q1 Q2 hq ⟨x, e1, k, t, h⟩
    exact ⟨x, e1, k, t, hq _ _ h⟩
theorem ok_told (D : Dn K mg "told" s_told P_told) (g : Gx mg) (c_check_plan : C8.Cal P w K mg base 3 "check_plan" spChPlan []) (c_check_work : C8.Cal P w K mg base 3 "check_work" spChWork []) (c_triple_of_work : C8.Cal P w K mg base 11 "triple_of_work" (spTri 8) []) : C8.Cal P w K mg base 12 "told" spTold [] := by
  refine D.cal sc_told (fun vs H Q E h => ?_) (fun f cdv A outer s H vs Q E hr h => ?_)
  · obtain ⟨v, p, u, wk, rfl, hp, ok, hw, wok, q⟩ := h
    rfl
  obtain ⟨v, p, u, wk, rfl, hp, ok, hw, wok, q⟩ := h
  have nd := sc_told.nd
  refine ⟨_, (pss_cons (ps_expr (C8.pe_c c_check_plan hr (by decide) rfl (pa_cons (pv 0) pa_nil)))
    (pss_cons (ps_expr (C8.pe_c c_check_work hr (by decide) rfl (pa_cons (pv 0) (pa_cons (pv 1) pa_nil))))
    (pss_one (ps_ret (C8.pe_c c_triple_of_work hr (by decide) rfl (pa_cons (pv 0) (pa_cons (pv 1) pa_nil))))))), ?_⟩
  refine ⟨_, rfl, v, p, rfl, hp, ok, fun H1 s1 => ?_⟩
  refine ⟨_, rfl, _, rfl, v, p, u, wk, rfl, hp.mono s1, ok, hw.tups (Tups.of s1), wok, fun H2 s2 => ?_⟩
  exact ⟨_, rfl, _, rfl, v, p, u, wk, rfl, hp.mono (s1.trans s2), ok, hw.tups (Tups.of (s1.trans s2)), wok.can, wok.dep, fun H3 v3 s3 h3 => q H3 v3 (s1.trans (s2.trans s3)) h3⟩
theorem ok_cost (D : Dn K mg "cost" s_cost P_cost) (g : Gx mg) (c_check_plan : C8.Cal P w K mg base 3 "check_plan" spChPlan []) (c_check_work : C8.Cal P w K mg base 3 "check_work" spChWork []) (c_price_of_work : C8.Cal P w K mg base 9 "price_of_work" (spPWork 8) []) : C8.Cal P w K mg base 10 "cost" spCost [] := by
  refine D.cal sc_cost (fun vs H Q E h => ?_) (fun f cdv A outer s H vs Q E hr h => ?_)
  · obtain ⟨v, p, u, wk, rfl, hp, ok, hw, wok, q⟩ := h
    rfl
  obtain ⟨v, p, u, wk, rfl, hp, ok, hw, wok, q⟩ := h
  have nd := sc_cost.nd
  refine ⟨_, (pss_cons (ps_expr (C8.pe_c c_check_plan hr (by decide) rfl (pa_cons (pv 0) pa_nil)))
    (pss_cons (ps_expr (C8.pe_c c_check_work hr (by decide) rfl (pa_cons (pv 0) (pa_cons (pv 1) pa_nil))))
    (pss_one (ps_ret (C8.pe_c c_price_of_work hr (by decide) rfl (pa_cons (pv 0) (pa_cons (pv 1) pa_nil))))))), ?_⟩
  refine ⟨_, rfl, v, p, rfl, hp, ok, fun H1 s1 => ?_⟩
  refine ⟨_, rfl, _, rfl, v, p, u, wk, rfl, hp.mono s1, ok, hw.tups (Tups.of s1), wok, fun H2 s2 => ?_⟩
  exact ⟨_, rfl, _, rfl, v, p, u, wk, rfl, hp.mono (s1.trans s2), ok, hw.tups (Tups.of (s1.trans s2)), wok.can, wok.dep, fun H3 s3 => q H3 (s1.trans (s2.trans s3))⟩
theorem ok_joined (D : Dn K mg "joined" s_joined P_joined) (g : Gx mg) (c_check_plan : C8.Cal P w K mg base 3 "check_plan" spChPlan []) (c_check_triple : C8.Cal P w K mg base 3 "check_triple" spChTriple []) (c_join_triples : C8.Cal P w K mg base 2 "join_triples" spJoin []) : C8.Cal P w K mg base 4 "joined" spJoined [] := by
  refine D.cal sc_joined (fun vs H Q E h => ?_) (fun f cdv A outer s H vs Q E hr h => ?_)
  · obtain ⟨v, p, a, b, t, u, rfl, hp, ok, ha, ta, hb, tb, q⟩ := h
    rfl
  obtain ⟨v, p, a, b, t, u, rfl, hp, ok, ha, ta, hb, tb, q⟩ := h
  have nd := sc_joined.nd
  refine ⟨_, (pss_cons (ps_expr (C8.pe_c c_check_plan hr (by decide) rfl (pa_cons (pv 0) pa_nil)))
    (pss_cons (ps_expr (C8.pe_c c_check_triple hr (by decide) rfl (pa_cons (pv 0) (pa_cons (pv 1) pa_nil))))
    (pss_cons (ps_expr (C8.pe_c c_check_triple hr (by decide) rfl (pa_cons (pv 0) (pa_cons (pv 2) pa_nil))))
    (pss_one (ps_ret (C8.pe_c c_join_triples hr (by decide) rfl (pa_cons (pv 1) (pa_cons (pv 2) pa_nil)))))))), ?_⟩
  have h9 := ok.r9
  have k1 := ta.kl
  have k2 := tb.kl
  refine ⟨_, rfl, v, p, rfl, hp, ok, fun H1 s1 => ?_⟩
  refine ⟨_, rfl, _, rfl, v, p, a, t, rfl, hp.mono s1, ok, ha.mono s1, ta, fun H2 s2 => ?_⟩
  have s12 := s1.trans s2
  refine ⟨_, rfl, _, rfl, v, p, b, u, rfl, hp.mono s12, ok, hb.mono s12, tb, fun H3 s3 => ?_⟩
  have s13 := s12.trans s3
  exact ⟨_, rfl, _, rfl, a, b, t, u, rfl, ha.mono s13, hb.mono s13, by omega, by omega, fun H4 v4 s4 h4 => q H4 v4 (s13.trans s4) h4⟩
theorem ok_law_signs (D : Dn K mg "_law_signs" s_law_signs P_law_signs) (g : Gx mg) (c_law_take : C8.Cal P w K mg base 1 "_law_take" spTake []) : C8.Cal P w K mg base 2 "_law_signs" spLSigns [] := by
  refine D.cal sc_law_signs (fun vs H Q E h => ?_) (fun f cdv A outer s H vs Q E hr h => ?_)
  · obtain ⟨p, q, ns, z, v, pl, n, rfl, B, ⟨a, b, rfl, ha, hb⟩, ok, hn, kk⟩ := h
    rfl
  obtain ⟨p, q, ns, z, v, pl, n, rfl, B, ⟨a, b, rfl, ha, hb⟩, ok, hn, kk⟩ := h
  have nd := sc_law_signs.nd
  refine ⟨_, (pss_one (ps_ret (pe_join pe_str (pe_lc (own := [("_law_k", 3)]) rfl nd (pi_range1 (by rfl) g.range (pa_cons (C8.pe_c c_law_take hr (by decide) rfl (pa_cons (pv 0) (pa_cons (pe_op op_add (pv 2) pe_int) pa_nil))) pa_nil)) (blkOk_by (own := [("_law_k", 3)]) (N := N_law_signs) (sc := defScope s_law_signs) (by decide +kernel)) (fun _ _ _ _ _ => (pg_name (i := 3) nd rfl (.inl rfl))) (fun _ _ _ _ _ => pts_nil) (fun _ _ _ _ _ => (pe_ix ix_str pe_str (C8.pe_c c_law_take (by exact hr) (by decide) rfl (pa_cons (pv 0) (pa_cons (pe_ix (r := rIxT K) ix_tup (pv 1) pe_int (fun _ _ => rfl)) pa_nil))) (fun _ _ => rfl))))))), ?_⟩
  have hm1 := ok.m1
  have hm4 := ok.m4
  refine ⟨⟨_, rfl⟩, _, rfl, _, rfl, _, _, rfl, rfl, p, q, ns, z, (n : Int) + 1, rfl, B, by omega, p9 (by omega), fun m ns1 z1 H1 m0 m1 B1 k1 => ?_⟩
  refine ⟨m, rfl, by omega, by omega, fun D hD => ?_⟩
  have hf := B1.fresh hD
  have sD := Same.new hD (.lst [])
  refine lc_range (lo := 0) (fun i H2 => ∃ (l : List Nat) (ns2 : List Int) (z2 : Int), BoxAt H2 p q ns2 z2 ∧ Keep p q H1 H2 ∧ H2 D = some (.lst (l.map fun c => V.str (tx [c]))) ∧ l.length = i ∧ ∀ c ∈ l, c ∈ signs pl.many)
    ⟨[], ns1, z1, B1.mono sD, Keep.of sD, upd_same, rfl, fun x hx => by simp at hx⟩ ?_ ?_
  · rintro i H2 hi ⟨l, ns2, z2, B2, k2, hD2, hl, hs⟩
    refine ⟨rfl, ?_⟩
    refine ⟨_, rfl, _, rfl, a, _, 1, _, rfl, rfl, SqT.of ((k1.trans k2).tup B ha), rfl, p, q, ns2, z2, pl.many, rfl, B2, by omega, p9 (by omega), fun r ns3 z3 H3 r0 r1 B3 k3 => ?_⟩
    obtain ⟨c, hc, hat⟩ := sign_at hm4 r0 r1
    refine ⟨("abcd" : Str), r, c, rfl, rfl, by rw [s_abcd, tx_len]; exact sz (by decide), hat, ?_⟩
    have hD3 := k3 _ _ hD2 hf.1 hf.2
    refine ⟨_, hD3, by rw [List.length_map, hl]; exact szl (by omega), l ++ [c], ns3, z3, ⟨by rw [upd_ne hf.1.symm]; exact B3.b, by rw [upd_ne hf.2.symm]; exact B3.l, B3.ne⟩, fun b o e e1 e2 => ?_, ?_, by simp [hl], fun x hx => ?_⟩
    · rw [upd_ne (ne_of_none e hD)]
      exact k3 _ _ (k2 _ _ e e1 e2) e1 e2
    · rw [upd_same, List.map_append]
      rfl
    · rcases List.mem_append.mp hx with h | h
      · exact hs x h
      · have : x = c := by simpa using h
        subst this
        exact hc
  · rintro H2 ⟨l, ns2, z2, B2, k2, hD2, hl, hs⟩
    have e1 : (l.map fun c => V.str (tx [c])) = (l.map fun c => tx [c]).map V.str := by rw [List.map_map]; rfl
    rw [e1] at hD2
    have e2 := tx1_len l
    refine ⟨("" : Str), D, (l.map fun c => tx [c]), rfl, rfl, .inl (SqL.of hD2), ?_, ?_⟩
    · rw [e2, s_empty, List.length_map]
      show l.length + l.length * 0 ≤ 16777216
      omega
    · have e3 : Txt.join ("" : Str) (l.map fun c => tx [c]) = tx l := by
        have h := join_tx (l.map fun c => [c])
        rw [List.map_map] at h
        rw [flat1] at h
        rw [s_empty]
        exact h
      rw [e3]
      exact kk l ns2 z2 H2 (by omega) hs B2 (k1.trans k2)
theorem no_spLWork : ∀ vs H Q E, ¬ spLWork 0 vs H Q E := fun vs H Q E h => by
  obtain ⟨p, q, ns, z, v, pl, m, tm, _, _, _, _, h1, h2, _⟩ := h
  omega
theorem no_spLTuples : ∀ vs H Q E, ¬ spLTuples 0 vs H Q E := fun vs H Q E h => by
  obtain ⟨u, w, many, _, _, _, h, _⟩ := h
  have := W.dep_pos w
  omega
theorem no_spLCount : ∀ vs H Q E, ¬ spLCount 0 vs H Q E := fun vs H Q E h => by
  obtain ⟨u, w, many, _, _, _, h, _⟩ := h
  have := W.dep_pos w
  omega
theorem no_spLLong : ∀ vs H Q E, ¬ spLLong 0 vs H Q E := fun vs H Q E h => by
  obtain ⟨u, w, many, _, _, _, h, _⟩ := h
  have := W.dep_pos w
  omega
theorem ok_law_work (D : Dn K mg "_law_work" s_law_work P_law_work) (g : Gx mg) (c_law_take : C8.Cal P w K mg base 1 "_law_take" spTake []) : ∀ n, C8.Cal P w K mg base (n + 1) "_law_work" (spLWork n) []
  | 0 => by
    obtain ⟨f, fd, F, hm, b⟩ := D.ex
    exact ⟨f, fd, _, [], (⟨fun vs H Q E h => absurd h (no_spLWork vs H Q E), fun A outer s H args us vs Q E _ _ _ _ h => absurd h (no_spLWork vs H Q E)⟩ : FnOk _ _ _ _ _ _ _ _ _ _ _), hm, F.kp, b, .nil⟩
  | n + 1 => by
    have c_law_work := ok_law_work D g c_law_take n
    refine D.cal sc_law_work (fun vs H Q E h => ?_) (fun f cdv A outer s H vs Q E hr h => ?_)
    · obtain ⟨p, q, ns, z, v, pl, m, tm, rfl, B, hp, ok, m1, mn, htm, kk⟩ := h
      rfl
    obtain ⟨p, q, ns, z, v, pl, m, tm, rfl, B, hp, ok, m1, mn, htm, kk⟩ := h
    have nd := sc_law_work.nd
    refine ⟨_, (pss_cons (ps_set (i := 4) nd rfl (.inl rfl) (C8.pe_c c_law_take hr (by omega) rfl (pa_cons (pv 0) (pa_cons pe_int pa_nil))))
      (pss_cons (ps_if (PW.pt (pw_or (pt_cmpR op_eq (pv 2) pe_int (nomark _)) (pw_or1 (pt_cmpR op_lt (pv 4) pe_int (nomark _))))) (pss_one (ps_ret (pe_ix ix_list (pe_lst (pa_cons (pe_tup (pa_cons pe_str (pa_cons (pe_ix ix_str pe_str (C8.pe_c c_law_take hr (by omega) rfl (pa_cons (pv 0) (pa_cons (pe_ix ix_tup (pv 1) pe_int (fun _ _ => rfl)) pa_nil))) (fun _ _ => rfl)) pa_nil))) (pa_cons (pe_tup (pa_cons pe_str pa_nil)) pa_nil))) (pe_op op_modN (pv 4) pe_int) (fun _ _ => rfl)))) pss_nil)
      (pss_cons (ps_if (pt_cmpR op_lt (pv 4) pe_int (nomark _)) (pss_one (ps_ret (pe_tup (pa_cons pe_str (pa_cons (pe_callTy call_tuple_of rfl g.tuple b_tuple (pa_cons (pe_lc (own := [("_law_k", 5)]) rfl nd (pi_range1 (by rfl) g.range (pa_cons (C8.pe_c c_law_take hr (by omega) rfl (pa_cons (pv 0) (pa_cons pe_int pa_nil))) pa_nil)) (blkOk_by (own := [("_law_k", 5)]) (N := N_law_work) (sc := defScope s_law_work) (by decide +kernel)) (fun _ _ _ _ _ => (pg_name (i := 5) nd rfl (.inl rfl))) (fun _ _ _ _ _ => pts_nil) (fun _ _ _ _ _ => (C8.pe_c c_law_work (by exact hr) (by omega) rfl (pa_cons (pv 0) (pa_cons (pv 1) (pa_cons (pe_op op_sub (pv 2) pe_int) (pa_cons (pv 3) pa_nil))))))) pa_nil)) pa_nil))))) pss_nil)
      (pss_one (ps_ret (pe_tup (pa_cons pe_str (pa_cons (C8.pe_c c_law_take hr (by omega) rfl (pa_cons (pv 0) (pa_cons (pe_op op_add (pv 3) pe_int) pa_nil))) (pa_cons (C8.pe_c c_law_work hr (by omega) rfl (pa_cons (pv 0) (pa_cons (pv 1) (pa_cons (pe_op op_sub (pv 2) pe_int) (pa_cons (pv 3) pa_nil))))) pa_nil))))))))), ?_⟩
    have hm1 := ok.m1
    have hm4 := ok.m4
    obtain ⟨a, b, rfl, ha, hb⟩ := id hp
    refine ⟨_, rfl, p, q, ns, z, 8, rfl, B, by decide, p9 (by decide), fun way ns1 z1 H1 w0 w1 B1 k1 => ?_⟩
    have hp1 := hp.keep B k1
    have ha1 := k1.tup B ha
    -- a push or a pop
    refine (fun base (more : _ → _) => ⟨_, rfl, rfl, _, rfl, ite2 (fun _ => iteT base) (fun c1 => ⟨_, rfl, _, _, rfl, rfl, _, rfl, ite2 (fun _ => base) (fun c2 => more c1)⟩)⟩) ?_ ?_
    · -- [("push", sign), ("pop",)][way % 2]
      refine ⟨_, rfl, _, rfl, a, _, 1, _, rfl, rfl, SqT.of ha1, rfl, p, q, ns1, z1, pl.many, rfl, B1, by omega, p9 (by omega), fun r ns3 z3 H3 r0 r1 B3 k3 => ?_⟩
      obtain ⟨c, hc, hat⟩ := sign_at hm4 r0 r1
      refine ⟨("abcd" : Str), r, c, rfl, rfl, by rw [s_abcd, tx_len]; exact sz (by decide), hat, ?_⟩
      refine ⟨by show 2 ≤ sizeLine; decide, fun T1 hT1 => ⟨by show 1 ≤ sizeLine; decide, fun T2 hT2 => ⟨by show 2 ≤ sizeLine; decide, fun D hD => ?_⟩⟩⟩
      have s1 := Same.new hT1 (.tup [.str "push", .str (tx [c])])
      have s2 := Same.new hT2 (.tup [.str "pop"])
      have s3 := Same.new hD (.lst [.ref T1, .ref T2])
      have s13 := s1.trans (s2.trans s3)
      have k13 := k1.trans (k3.trans (Keep.of s13))
      refine ⟨_, rfl, _, _, rfl, rfl, by show ((2 : Int) ≠ 0); decide, ?_⟩
      obtain ⟨f1, f2⟩ := fmod_in (x := way) (n := 2) (by decide)
      have hr : way.fmod 2 = 0 ∨ way.fmod 2 = 1 := by omega
      rcases hr with hr | hr
      · refine ⟨D, _, way.fmod 2, .ref T1, rfl, rfl, SqL.of upd_same, by rw [hr]; rfl, ?_⟩
        exact kk (.push c) _ ns3 z3 _ hc m1 trivial ⟨T1, rfl, s3 _ _ (s2 _ _ upd_same)⟩ (B3.mono s13) k13
      · refine ⟨D, _, way.fmod 2, .ref T2, rfl, rfl, SqL.of upd_same, by rw [hr]; rfl, ?_⟩
        exact kk .pop _ ns3 z3 _ trivial m1 trivial ⟨T2, rfl, s3 _ _ upd_same⟩ (B3.mono s13) k13
    · intro c1
      have m2 : m ≠ 1 := fun z => by
        subst z
        exact c1 (decide_eq_true rfl)
      have em : (m : Int) - 1 = ((m - 1 : Nat) : Int) := by omega
      refine ⟨_, rfl, _, _, rfl, rfl, _, rfl, ite2 (fun _ => ?_) (fun _ => ?_)⟩
      · -- a row
        refine ⟨_, rfl, p, q, ns1, z1, 4, rfl, B1, by decide, p9 (by decide), fun cnt ns2 z2 H2 c0 c4 B2 k2 => ?_⟩
        refine ⟨cnt, rfl, by omega, by omega, fun D hD => ?_⟩
        have hf := B2.fresh hD
        have sD := Same.new hD (.lst [])
        refine lc_range (lo := 0) (fun i H4 => ∃ (l : List W) (us : List V) (ns4 : List Int) (z4 : Int), BoxAt H4 p q ns4 z4 ∧ Keep p q H2 H4 ∧ H4 D = some (.lst us) ∧ W2 H4 l us ∧ l.length = i ∧ ∀ w ∈ l, w.Can pl.many ∧ w.dep ≤ m - 1 ∧ w.Tm tm)
          ⟨[], [], ns2, z2, B2.mono sD, Keep.of sD, upd_same, rfl, rfl, fun x hx => by simp at hx⟩ ?_ ?_
        · rintro i H4 hi ⟨l, us, ns4, z4, B4, k4, hD4, hw4, hl, hall⟩
          refine ⟨rfl, ?_⟩
          have hp4 := (hp1.keep B1 k2).keep B2 k4
          refine ⟨_, rfl, _, rfl, _, rfl, _, _, rfl, rfl, _, rfl, p, q, ns4, z4, .ref a, pl, m - 1, tm, (by show [V.ref p, V.ref a, V.int ((m : Int) - 1), V.int (tm : Int)] = _; rw [em]), B4, hp4, ok, by omega, by omega, htm, fun wk u ns5 z5 H5 can dep ctm hu B5 k5 => ?_⟩
          have hD5 := k5 _ _ hD4 hf.1 hf.2
          have tD : Tups H5 (upd H5 D (.lst (us ++ [u]))) := Tups.lst hD5
          refine ⟨_, hD5, by rw [hw4.len, hl]; exact szl (by omega), l ++ [wk], us ++ [u], ns5, z5, ⟨by rw [upd_ne hf.1.symm]; exact B5.b, by rw [upd_ne hf.2.symm]; exact B5.l, B5.ne⟩, fun b o e e1 e2 => ?_, upd_same, (hw4.tups ((k5.tups B4).trans tD)).snoc (hu.tups tD), by simp [hl], fun x hx => ?_⟩
          · rw [upd_ne (ne_of_none e hD)]
            exact k5 _ _ (k4 _ _ e e1 e2) e1 e2
          · rcases List.mem_append.mp hx with h | h
            · exact hall x h
            · have : x = wk := by simpa using h
              subst this
              exact ⟨can, dep, ctm⟩
        · rintro H4 ⟨l, us, ns4, z4, B4, k4, hD4, hw4, hl, hall⟩
          refine ⟨D, us, rfl, .inl ⟨SqL.of hD4, fun T hT => ⟨by show 2 ≤ sizeLine; decide, fun U hU => ?_⟩⟩⟩
          have sT := Same.new hT (.tup us)
          have sU := Same.new hU (.tup [.str "row", .ref T])
          have sTU := sT.trans sU
          have hdep := ofL_dep (n := m - 1) l fun x hx => (hall x hx).2.1
          refine kk (.row (ofL l)) _ ns4 z4 _ ⟨by rw [ofL_len]; omega, ofL_can l fun x hx => (hall x hx).1⟩ (by show 1 + (ofL l).dep ≤ m; omega) ⟨by rw [ofL_len]; omega, ofL_tm l fun x hx => (hall x hx).2.2⟩ ⟨U, T, us, rfl, upd_same, sU _ _ upd_same, (hw4.tups (Tups.of sTU)).ws⟩ (B4.mono sTU) (k1.trans (k2.trans (k4.trans (Keep.of sTU))))
      · -- often
        refine ⟨_, rfl, _, rfl, _, _, rfl, rfl, p, q, ns1, z1, (tm : Int) + 1, rfl, B1, by omega, p9 (by omega), fun t ns2 z2 H2 t0 t1 B2 k2 => ?_⟩
        obtain ⟨t', rfl⟩ : ∃ t' : Nat, t = (t' : Int) := ⟨t.toNat, by omega⟩
        have hp2 := hp1.keep B1 k2
        refine ⟨_, rfl, _, rfl, _, rfl, _, _, rfl, rfl, _, rfl, p, q, ns2, z2, .ref a, pl, m - 1, tm, (by show [V.ref p, V.ref a, V.int ((m : Int) - 1), V.int (tm : Int)] = _; rw [em]), B2, hp2, ok, by omega, by omega, htm, fun wk u ns5 z5 H5 can dep ctm hu B5 k5 => ?_⟩
        refine ⟨by show 3 ≤ sizeLine; decide, fun U hU => ?_⟩
        have sU := Same.new hU (.tup [.str "times", .int (t' : Int), u])
        exact kk (.times t' wk) _ ns5 z5 _ ⟨by omega, can⟩ (by show 1 + wk.dep ≤ m; omega) ⟨by omega, ctm⟩ ⟨U, u, rfl, upd_same, hu.tups (Tups.of sU)⟩ (B5.mono sU) (k1.trans (k2.trans (k5.trans (Keep.of sU))))
theorem ok_law_triple (D : Dn K mg "_law_triple" s_law_triple P_law_triple) (g : Gx mg) (c_law_take : C8.Cal P w K mg base 1 "_law_take" spTake []) (c_law_signs : C8.Cal P w K mg base 2 "_law_signs" spLSigns []) : C8.Cal P w K mg base 3 "_law_triple" spLTriple [] := by
  refine D.cal sc_law_triple (fun vs H Q E h => ?_) (fun f cdv A outer s H vs Q E hr h => ?_)
  · obtain ⟨p, q, ns, z, v, pl, rfl, B, hp, ok, kk⟩ := h
    rfl
  obtain ⟨p, q, ns, z, v, pl, rfl, B, hp, ok, kk⟩ := h
  have nd := sc_law_triple.nd
  refine ⟨_, (pss_cons (ps_set (i := 2) nd rfl (.inl rfl) (C8.pe_c c_law_take hr (by decide) rfl (pa_cons (pv 0) (pa_cons (pe_op op_add (pe_ix ix_tup (pv 1) pe_int (fun _ _ => rfl)) pe_int) pa_nil))))
    (pss_cons (ps_set (i := 3) nd rfl (.inl rfl) (C8.pe_c c_law_signs hr (by decide) rfl (pa_cons (pv 0) (pa_cons (pv 1) (pa_cons (pe_op op_sub (pe_ix ix_tup (pv 1) pe_int (fun _ _ => rfl)) (pv 2)) pa_nil)))))
    (pss_one (ps_ret (pe_tup (pa_cons (pe_ifExp (pt_cmpR op_gt (pv 2) pe_int (nomark _)) (C8.pe_c c_law_take hr (by decide) rfl (pa_cons (pv 0) (pa_cons (pe_op op_add (pe_op op_sub (pe_ix ix_tup (pv 1) pe_int (fun _ _ => rfl)) (pv 2)) pe_int) pa_nil))) pe_int) (pa_cons (pv 2) (pa_cons (pv 3) pa_nil)))))))), ?_⟩
  have h9 := ok.r9
  obtain ⟨a, b, rfl, ha, hb⟩ := id hp
  refine ⟨_, rfl, _, rfl, a, _, 0, _, rfl, rfl, SqT.of ha, rfl, _, _, rfl, rfl, p, q, ns, z, (pl.room : Int) + 1, rfl, B, by omega, p9 (by omega), fun k ns1 z1 H1 k0 k1 B1 g1 => ?_⟩
  obtain ⟨K1, rfl⟩ : ∃ K1 : Nat, k = (K1 : Int) := ⟨k.toNat, by omega⟩
  have ha1 := g1.tup B ha
  have em : (pl.room : Int) - (K1 : Int) = ((pl.room - K1 : Nat) : Int) := by omega
  refine ⟨_, rfl, _, rfl, _, rfl, a, _, 0, _, rfl, rfl, SqT.of ha1, rfl, _, rfl, _, _, rfl, rfl, p, q, ns1, z1, .ref a, pl, pl.room - K1, (by show [V.ref p, V.ref a, V.int ((pl.room : Int) - (K1 : Int))] = _; rw [em]), B1, hp.keep B g1, ok, by omega, fun l ns2 z2 H2 hl hs B2 g2 => ?_⟩
  have ha2 := g2.tup B1 ha1
  refine ⟨_, rfl, _, _, rfl, rfl, _, rfl, ite2 (fun c => ?_) (fun c => ?_)⟩
  · have c' : (0 : Int) < (K1 : Int) := of_decide_eq_true c
    refine ⟨_, rfl, _, rfl, a, _, 0, _, rfl, rfl, SqT.of ha2, rfl, _, rfl, _, _, rfl, rfl, _, _, rfl, rfl, p, q, ns2, z2, (pl.room : Int) - (K1 : Int) + 1, rfl, B2, by omega, p9 (by omega), fun gg ns3 z3 H3 q0 q1 B3 g3 => ?_⟩
    obtain ⟨G, rfl⟩ : ∃ G : Nat, gg = (G : Int) := ⟨gg.toNat, by omega⟩
    refine ⟨_, rfl, _, rfl, by show 3 ≤ sizeLine; decide, fun T hT => ?_⟩
    have sT := Same.new hT (.tup [.int (G : Int), .int (K1 : Int), .str (tx l)])
    exact kk ⟨G, K1, l⟩ _ ns3 z3 _ ⟨by show G + K1 ≤ pl.room; omega, by show K1 + l.length ≤ pl.room; omega, fun e => by have e' : K1 = 0 := e; omega, hs⟩ ⟨T, rfl, upd_same⟩ (B3.mono sT) (g1.trans (g2.trans (g3.trans (Keep.of sT))))
  · have c' : ¬ (0 : Int) < (K1 : Int) := fun z => c (decide_eq_true z)
    have e0 : K1 = 0 := by omega
    subst e0
    refine ⟨_, rfl, _, rfl, by show 3 ≤ sizeLine; decide, fun T hT => ?_⟩
    have sT := Same.new hT (.tup [.int 0, .int ((0 : Nat) : Int), .str (tx l)])
    exact kk ⟨0, 0, l⟩ _ ns2 z2 _ ⟨Nat.zero_le _, by show 0 + l.length ≤ pl.room; omega, fun _ => rfl, hs⟩ ⟨T, rfl, upd_same⟩ (B2.mono sT) (g1.trans (g2.trans (Keep.of sT)))
theorem txs_len : ∀ ls : List (List Nat), ((ls.map tx).map (·.length)).sum = ls.flatten.length
  | [] => rfl
  | l :: r => by
    rw [List.map_cons, List.map_cons, List.sum_cons, txs_len r, List.flatten_cons, List.length_append, tx_len]
theorem sumI : ∀ (f : W → Nat) (l : List W), (l.map fun x => ((f x : Nat) : Int)).sum = (((l.map f).sum : Nat) : Int)
  | _, [] => rfl
  | f, x :: r => by
    rw [List.map_cons, List.sum_cons, List.map_cons, List.sum_cons, sumI f r]
    omega
theorem ok_law_tuples (D : Dn K mg "_law_tuples" s_law_tuples P_law_tuples) (g : Gx mg) : ∀ n, C8.Cal P w K mg base (n + 0) "_law_tuples" (spLTuples n) []
  | 0 => by
    obtain ⟨f, fd, F, hm, b⟩ := D.ex
    exact ⟨f, fd, _, [], (⟨fun vs H Q E h => absurd h (no_spLTuples vs H Q E), fun A outer s H args us vs Q E _ _ _ _ h => absurd h (no_spLTuples vs H Q E)⟩ : FnOk _ _ _ _ _ _ _ _ _ _ _), hm, F.kp, b, .nil⟩
  | n + 1 => by
    have c_law_tuples := ok_law_tuples D g n
    refine D.cal sc_law_tuples (fun vs H Q E h => ?_) (fun f cdv A outer s H vs Q E hr h => ?_)
    · obtain ⟨u, wk, many, rfl, hw, can, hd, q⟩ := h
      rfl
    obtain ⟨u, wk, many, rfl, hw, can, hd, q⟩ := h
    have nd := sc_law_tuples.nd
    refine ⟨_, (pss_cons (ps_if (pt_cmpR op_eq (pe_ix ix_tup (pv 0) pe_int (fun _ _ => rfl)) pe_str (nomark _)) (pss_one (ps_ret (pe_op op_add pe_int (C8.pe_c c_law_tuples hr (by omega) rfl (pa_cons (pe_ix ix_tup (pv 0) pe_int (fun _ _ => rfl)) pa_nil))))) pss_nil)
      (pss_one (ps_ret (pe_ifExp (pt_cmpR op_eq (pe_ix ix_tup (pv 0) pe_int (fun _ _ => rfl)) pe_str (nomark _)) (pe_op op_add pe_int (pe_callB (cr_sum rfl) rfl g.sum b_sum (pa_cons (pe_lc (own := [("_law_part", 1)]) rfl nd (pi_tup (pe_ix ix_tup (pv 0) pe_int (fun _ _ => rfl))) (blkOk_by (own := [("_law_part", 1)]) (N := N_law_tuples) (sc := defScope s_law_tuples) (by decide +kernel)) (fun _ _ _ _ _ => (pg_name (i := 1) nd rfl (.inl rfl))) (fun _ _ _ _ _ => pts_nil) (fun _ _ _ _ _ => (C8.pe_c c_law_tuples (by exact hr) (by omega) rfl (pa_cons (pv 1) pa_nil)))) pa_nil))) pe_int)))), ?_⟩
    cases wk with
    | push c =>
      obtain ⟨a, rfl, ha⟩ := hw
      refine ⟨_, rfl, a, _, 0, _, rfl, rfl, SqT.of ha, rfl, rfl, _, rfl, iteDF (vne s_pu_ti) ?_⟩
      exact ⟨_, rfl, a, _, 0, _, rfl, rfl, SqT.of ha, rfl, rfl, _, rfl, iteDF (vne s_pu_ro) (q H (Same.refl H))⟩
    | pop =>
      obtain ⟨a, rfl, ha⟩ := hw
      refine ⟨_, rfl, a, _, 0, _, rfl, rfl, SqT.of ha, rfl, rfl, _, rfl, iteDF (vne s_po_ti) ?_⟩
      exact ⟨_, rfl, a, _, 0, _, rfl, rfl, SqT.of ha, rfl, rfl, _, rfl, iteDF (vne s_po_ro) (q H (Same.refl H))⟩
    | times m wk =>
      obtain ⟨a, u, rfl, ha, hu⟩ := hw
      obtain ⟨hm, can⟩ := can
      have hd' : wk.dep ≤ n := by
        have : 1 + wk.dep ≤ n + 1 := hd
        omega
      refine ⟨_, rfl, a, _, 0, _, rfl, rfl, SqT.of ha, rfl, rfl, _, rfl, iteD rfl ?_⟩
      refine ⟨_, rfl, a, _, 2, _, rfl, rfl, SqT.of ha, rfl, u, wk, many, rfl, hu, can, hd', fun H1 s1 => ⟨_, _, rfl, rfl, ?_⟩⟩
      have e : ((W.times m wk).siz : Int) = 1 + (wk.siz : Int) := by
        show ((1 + wk.siz : Nat) : Int) = _
        omega
      have q1 := q H1 s1
      rw [e] at q1
      exact q1
    | row ws =>
      obtain ⟨a, b, xs, rfl, ha, hb, hs⟩ := hw
      obtain ⟨hlen, can⟩ := can
      have hd' : ws.dep ≤ n := by
        have : 1 + ws.dep ≤ n + 1 := hd
        omega
      have hl := hs.len
      refine ⟨_, rfl, a, _, 0, _, rfl, rfl, SqT.of ha, rfl, rfl, _, rfl, iteDF (vne s_ro_ti) ?_⟩
      refine ⟨_, rfl, a, _, 0, _, rfl, rfl, SqT.of ha, rfl, rfl, _, rfl, iteD rfl ?_⟩
      refine ⟨_, rfl, a, _, 1, _, rfl, rfl, SqT.of ha, rfl, b, rfl, ⟨_, SqT.of hb⟩, fun D hD => ?_⟩
      refine lc_it (walk_tup (K := K) (a := b) (xs := xs)) (fun i H2 => Same H H2 ∧ H2 D = some (.lst (((ws.list.take i).map fun x => ((x.siz : Nat) : Int)).map V.int))) ⟨Same.new hD _, upd_same⟩ (fun i H2 _ h2 => SqT.of (h2.1 _ _ hb)) ?_ ?_
      · rintro i x H2 H3 hi ⟨s2, h2⟩ ⟨rfl, hx⟩
        obtain ⟨wk, hwk, hwa⟩ := hs.get hx
        have hmem := List.mem_of_getElem? hwk
        have hsz : i < sizeLine := szl (by rw [hl, Ws.len_list] at hi; omega)
        refine ⟨rfl, ?_⟩
        refine ⟨_, rfl, x, wk, many, rfl, hwa.tups (Tups.of s2), Ws.can_mem can hmem, Nat.le_trans (Ws.dep_mem hmem) hd', fun H4 s4 => ⟨_, s4 _ _ h2, ?_, fun b o e => ?_, ?_⟩⟩
        · rw [List.length_map, List.length_map, List.length_take]
          exact Nat.lt_of_le_of_lt (Nat.min_le_left ..) hsz
        · rw [upd_ne (ne_of_none e hD)]
          exact s4 _ _ (s2 b o e)
        · rw [upd_same, List.take_add_one, hwk, List.map_append, List.map_append]
          rfl
      · rintro H2 ⟨s2, h2⟩
        rw [hl, List.take_of_length_le (Nat.le_refl _)] at h2
        refine ⟨D, _, rfl, SqL.of h2, _, _, rfl, rfl, ?_⟩
        rw [sumI W.siz ws.list, ← Ws.siz_list]
        have e : ((W.row ws).siz : Int) = 1 + (ws.siz : Int) := by
          show ((1 + ws.siz : Nat) : Int) = _
          omega
        have q1 := q H2 s2
        rw [e] at q1
        exact q1
theorem ok_law_some (D : Dn K mg "_law_some" s_law_some P_law_some) (g : Gx mg) (c_law_work : C8.Cal P w K mg base 9 "_law_work" (spLWork 8) []) (c_law_tuples : C8.Cal P w K mg base 8 "_law_tuples" (spLTuples 8) []) : C8.Cal P w K mg base 10 "_law_some" (spLSome 8) [] := by
  refine D.cal sc_law_some (fun vs H Q E h => ?_) (fun f cdv A outer s H vs Q E hr h => ?_)
  · obtain ⟨p, q, ns, z, v, pl, m, tm, lim, rfl, B, hp, ok, m1, m8, m2, tm2, htm, hlim, kk⟩ := h
    rfl
  obtain ⟨p, q, ns, z, v, pl, m, tm, lim, rfl, B, hp, ok, m1, m8, m2, tm2, htm, hlim, kk⟩ := h
  have nd := sc_law_some.nd
  refine ⟨_, (pss_cons (ps_set (i := 5) nd rfl (.inl rfl) (C8.pe_c c_law_work hr (by decide) rfl (pa_cons (pv 0) (pa_cons (pv 1) (pa_cons (pv 2) (pa_cons (pv 3) pa_nil))))))
    (pss_one (ps_ret (pe_ifExp (pt_cmpR op_le (C8.pe_c c_law_tuples hr (by decide) rfl (pa_cons (pv 5) pa_nil)) (pv 4) (nomark _)) (pv 5) (pe_tup (pa_cons pe_str (pa_cons pe_int (pa_cons (pe_tup (pa_cons pe_str pa_nil)) pa_nil)))))))), ?_⟩
  refine ⟨_, rfl, _, rfl, _, rfl, _, rfl, p, q, ns, z, v, pl, m, tm, rfl, B, hp, ok, m1, m8, htm, fun wk u ns1 z1 H1 can dep ctm hu B1 k1 => ?_⟩
  refine ⟨_, rfl, u, wk, pl.many, rfl, hu, can, by omega, fun H2 s2 => ?_⟩
  have k2 := k1.trans (Keep.of s2)
  refine ⟨_, rfl, _, _, rfl, rfl, _, rfl, ite2 (fun c => ?_) (fun c => ?_)⟩
  · have c' := of_decide_eq_true c
    exact ⟨_, rfl, kk wk u ns1 z1 H2 can dep (by omega) ctm (hu.tups (Tups.of s2)) (B1.mono s2) k2⟩
  · refine ⟨by show 1 ≤ sizeLine; decide, fun T hT => ⟨by show 3 ≤ sizeLine; decide, fun U hU => ?_⟩⟩
    have sT := Same.new hT (.tup [.str "pop"])
    have sU := Same.new hU (.tup [.str "times", .int 2, .ref T])
    exact kk (.times 2 .pop) _ ns1 z1 _ ⟨by decide, trivial⟩ m2 hlim ⟨tm2, trivial⟩ ⟨U, .ref T, rfl, upd_same, T, rfl, sU _ _ upd_same⟩ (B1.mono (s2.trans (sT.trans sU))) (k2.trans (Keep.of (sT.trans sU)))
open LamX NdefX
variable {T : List (Addr × Str)}
theorem none_of {H H' : Hp} {D : Addr} (s : Same H H') (h : H' D = none) : H D = none := by
  cases e : H D with
  | none => rfl
  | some o =>
    rw [s _ _ e] at h
    cases h
theorem rep_flat (c : Nat) : ∀ n : Nat, (List.replicate n [c]).flatten = List.replicate n c
  | 0 => rfl
  | n + 1 => by
    rw [List.replicate_succ, List.flatten_cons, rep_flat c n, List.replicate_succ]
    rfl
theorem few_of {p : Pl} {t : Tr} {m : Int} (h1 : m ∈ (ways p.room t).map fun w => (w.1 : Int) + 2 * (w.2 : Int)) (h2 : ∀ y ∈ (ways p.room t).map fun w => (w.1 : Int) + 2 * (w.2 : Int), m ≤ y) : (t.l.length : Int) + m = few p t := by
  have wp : ∀ w : Nat × Nat, wprice 1 1 (fun _ => 1) t.l w = (t.l.length : Int) + ((w.1 : Int) + 2 * (w.2 : Int)) := fun w => by
    unfold wprice
    rw [sprc_1]
    omega
  unfold few LB
  unfold ways at h1 h2
  by_cases h : t.k = 0
  · rw [if_pos h] at h1 h2 ⊢
    simp only [wp]
    simp only [List.map_cons, List.map_nil, List.mem_cons, List.not_mem_nil, or_false] at h1 h2
    have a1 := h2 _ (.inl rfl)
    have a2 := h2 _ (.inr rfl)
    rcases h1 with h1 | h1 <;> omega
  · rw [if_neg h] at h1 h2 ⊢
    simp only [wp]
    simp only [List.map_cons, List.map_nil, List.mem_cons, List.not_mem_nil, or_false] at h1
    rw [h1]
theorem pairs1 {H : Hp} {a : Addr} {g f : Nat} (h : H a = some (.tup [.int (g : Int), .int (f : Int)])) : PairsAt H [(g, f)] [.ref a] := ⟨a, [], rfl, h, rfl⟩
theorem ok_cheapest_sign (D : Dn K mg "cheapest_sign" s_cheapest_sign P_cheapest_sign) (g : Gx mg) : C8.Cal P w K mg base 1 "cheapest_sign" spCSign [] := by
  refine D.cal sc_cheapest_sign (fun vs H Q E h => ?_) (fun f cdv A outer s H vs Q E hr h => ?_)
  · obtain ⟨v, p, rfl, ⟨a, b, rfl, ha, hb⟩, ok, q⟩ := h
    rfl
  obtain ⟨v, p, rfl, ⟨a, b, rfl, ha, hb⟩, ok, q⟩ := h
  have nd := sc_cheapest_sign.nd
  refine ⟨_, (pss_cons (ps_set (i := 1) nd rfl (.inl rfl) (pe_ix ix_tup (pv 0) pe_int (fun _ _ => rfl)))
    (pss_one (ps_ret (pe_ix ix_str (C8.pe_gc rfl g.SIGNS) (pe_bmT PySem.F.plainAttrs_tuple PySem.F.slot_tuple_index PySem.F.type_tuple_index mt_tup_indexI (pv 1) (pa_cons (pe_callB (r := rMinT K) (cr_minT rfl) rfl g.min b_min (pa_cons (pv 1) pa_nil)) pa_nil)) (fun _ _ => rfl))))), ?_⟩
  have hlt := csg_lt ok
  have h4 := ok.m4
  have hm1 := ok.m1
  have hpl : p.pr.idxOf (mnI p.pr) < p.pr.length := by rw [ok.pl]; exact hlt
  refine ⟨_, rfl, a, _, 2, _, rfl, rfl, SqT.of ha, rfl, ?_⟩
  refine ⟨_, rfl, ⟨b, _, rfl, hb⟩, _, rfl, b, p.pr, rfl, hb.sq, by rw [ok.pl]; omega, fun m h1 h2 => ?_⟩
  have e := mnI_of h1 h2
  subst e
  refine ⟨b, p.pr, mnI p.pr, p.pr.idxOf (mnI p.pr), rfl, rfl, hb.sq, ?_, ?_, ?_⟩
  · rw [List.getElem?_eq_getElem hpl, List.getElem_idxOf hpl]
  · intro m hm hq
    obtain ⟨h3, h5⟩ := List.getElem?_eq_some_iff.mp hq
    have := List.not_of_lt_findIdx (p := fun x => x == mnI p.pr) (xs := p.pr) (i := m) hm
    rw [h5] at this
    simp at this
  · have h3 : p.pr.idxOf (mnI p.pr) < ([97, 98, 99, 100] : List Nat).length := by show _ < 4; omega
    refine ⟨_, _, csg p, rfl, rfl, by rw [tx_len]; exact sz (by decide), atI_nat ?_, ?_⟩
    · show ([97, 98, 99, 100] : List Nat)[p.pr.idxOf (mnI p.pr)]? = some (csg p)
      have h6 : p.pr.idxOf (mnI p.pr) = 0 ∨ p.pr.idxOf (mnI p.pr) = 1 ∨ p.pr.idxOf (mnI p.pr) = 2 ∨ p.pr.idxOf (mnI p.pr) = 3 := by omega
      unfold csg
      rcases h6 with h | h | h | h <;> rw [h] <;> rfl
    · exact q H (Same.refl H)
theorem ok_ways (D : Dn K mg "ways" s_ways P_ways) (g : Gx mg) : C8.Cal P w K mg base 1 "ways" spWays [] := by
  refine D.cal sc_ways (fun vs H Q E h => ?_) (fun f cdv A outer s H vs Q E hr h => ?_)
  · obtain ⟨v, p, u, t, rfl, ⟨a, b, rfl, ha, hb⟩, ok, ⟨c, rfl, hc⟩, tok, q⟩ := h
    rfl
  obtain ⟨v, p, u, t, rfl, ⟨a, b, rfl, ha, hb⟩, ok, ⟨c, rfl, hc⟩, tok, q⟩ := h
  have nd := sc_ways.nd
  refine ⟨_, (pss_cons (ps_asg (pv 1) (pg_tup (by rfl) (pgs_cons (pg_name (i := 2) nd rfl (.inl rfl)) (pgs_cons (pg_name (i := 3) nd rfl (.inl rfl)) (pgs_cons (pg_name (i := 4) nd rfl (.inl rfl)) pgs_nil)))))
    (pss_cons (ps_set (i := 5) nd rfl (.inl rfl) (pe_ix ix_tup (pv 0) pe_int (fun _ _ => rfl)))
    (pss_cons (ps_if (pt_cmpR op_gt (pv 3) pe_int (nomark _)) (pss_one (ps_ret (pe_lst (pa_cons (pe_tup (pa_cons (pv 2) (pa_cons (pe_op op_sub (pe_op op_sub (pv 5) (pv 3)) (pe_callB (call_max2 rfl) rfl g.max b_max (pa_cons (pv 2) (pa_cons (pe_callB call_len_str rfl g.len PySem.boot_len (pa_cons (pv 4) pa_nil)) pa_nil)))) pa_nil))) pa_nil)))) pss_nil)
    (pss_one (ps_ret (pe_lst (pa_cons (pe_tup (pa_cons pe_int (pa_cons (pe_op op_sub (pv 5) (pe_callB call_len_str rfl g.len PySem.boot_len (pa_cons (pv 4) pa_nil))) pa_nil))) (pa_cons (pe_tup (pa_cons (pv 5) (pa_cons pe_int pa_nil))) pa_nil)))))))), ?_⟩
  have gk := tok.gk
  have kl := tok.kl
  refine ⟨_, rfl, c, _, rfl, SqT.of hc, rfl, _, _, rfl, _, _, rfl, _, _, rfl, rfl, ?_⟩
  refine ⟨_, rfl, a, _, 0, _, rfl, rfl, SqT.of ha, rfl, ?_⟩
  refine ⟨_, rfl, _, _, rfl, rfl, _, rfl, ite2 (fun k => ?_) (fun k => ?_)⟩
  · have k' : (0 : Int) < (t.k : Int) := of_decide_eq_true k
    have e : (p.room : Int) - (t.k : Int) - (if (((tx t.l).length : Nat) : Int) > (t.g : Int) then (((tx t.l).length : Nat) : Int) else (t.g : Int)) = ((phi p.room t : Nat) : Int) := by
      rw [tx_len]
      unfold phi
      split <;> omega
    refine ⟨_, rfl, _, rfl, _, rfl, _, _, rfl, rfl, _, rfl, _, rfl, _, rfl, by rw [tx_len]; exact sz (by have := ok.r9; omega), _, _, rfl, _, _, rfl, rfl, ?_⟩
    dsimp only
    rw [e]
    refine ⟨by show 2 ≤ sizeLine; decide, fun T1 hT1 => ?_⟩
    refine ⟨by show 1 ≤ sizeLine; decide, fun D hD => ?_⟩
    have s1 := Same.new hT1 (.tup [.int (t.g : Int), .int ((phi p.room t : Nat) : Int)])
    have s2 := Same.new hD (.lst [.ref T1])
    refine q D _ _ (s1.trans s2) (none_of s1 hD) upd_same ?_
    unfold ways
    rw [if_neg (by omega)]
    exact pairs1 (s2 _ _ upd_same)
  · have k' : ¬ (0 : Int) < (t.k : Int) := fun z => k (decide_eq_true z)
    have e : (p.room : Int) - (((tx t.l).length : Nat) : Int) = ((p.room - t.l.length : Nat) : Int) := by
      rw [tx_len]
      omega
    refine ⟨_, rfl, _, rfl, _, rfl, by rw [tx_len]; exact sz (by have := ok.r9; omega), _, _, rfl, rfl, ?_⟩
    dsimp only
    rw [e]
    refine ⟨by show 2 ≤ sizeLine; decide, fun T1 hT1 => ?_⟩
    refine ⟨_, rfl, by show 2 ≤ sizeLine; decide, fun T2 hT2 => ?_⟩
    refine ⟨by show 2 ≤ sizeLine; decide, fun D hD => ?_⟩
    have s1 := Same.new hT1 (.tup [.int 0, .int ((p.room - t.l.length : Nat) : Int)])
    have s2 := Same.new hT2 (.tup [.int (p.room : Int), .int 0])
    have s3 := Same.new hD (.lst [.ref T1, .ref T2])
    refine q D _ _ (s1.trans (s2.trans s3)) (none_of (s1.trans s2) hD) upd_same ?_
    unfold ways
    rw [if_pos (by omega)]
    exact ⟨T1, _, rfl, s3 _ _ (s2 _ _ upd_same), T2, _, rfl, s3 _ _ upd_same, rfl⟩
theorem ok_steps_of_way (D : Dn K mg "steps_of_way" s_steps_of_way P_steps_of_way) (g : Gx mg) (c_cheapest_sign : C8.Cal P w K mg base 1 "cheapest_sign" spCSign []) : C8.Cal P w K mg base 2 "steps_of_way" spStepsW [] := by
  refine D.cal sc_steps_of_way (fun vs H Q E h => ?_) (fun f cdv A outer s H vs Q E hr h => ?_)
  · obtain ⟨v, p, a, w, l, rfl, hp, ok, ha, w1, w2, hl, q⟩ := h
    rfl
  obtain ⟨v, p, a, w, l, rfl, hp, ok, ha, w1, w2, hl, q⟩ := h
  have nd := sc_steps_of_way.nd
  refine ⟨_, (pss_cons (ps_asg (pv 1) (pg_tup (by rfl) (pgs_cons (pg_name (i := 3) nd rfl (.inl rfl)) (pgs_cons (pg_name (i := 4) nd rfl (.inl rfl)) pgs_nil))))
    (pss_cons (ps_set (i := 5) nd rfl (.inl rfl) (pe_op op_add_str (pe_op op_mulS (C8.pe_c c_cheapest_sign hr (by decide) rfl (pa_cons (pv 0) pa_nil)) (pv 4)) (pe_op op_mulS (C8.pe_gc rfl g.POP_STEP) (pv 4))))
    (pss_cons (ps_if (pt_cmpR op_ge (pv 3) (pe_callB call_len_str rfl g.len PySem.boot_len (pa_cons (pv 2) pa_nil)) (nomark _)) (pss_one (ps_ret (pe_op op_add_str (pe_op op_add_str (pv 5) (pe_op op_mulS (C8.pe_gc rfl g.POP_STEP) (pv 3))) (pv 2)))) pss_nil)
    (pss_one (ps_ret (pe_op op_add_str (pe_op op_add_str (pe_op op_mulS (C8.pe_gc rfl g.POP_STEP) (pv 3)) (pv 2)) (pv 5))))))), ?_⟩
  refine ⟨_, rfl, a, _, rfl, SqT.of ha, rfl, _, _, rfl, _, _, rfl, rfl, ?_⟩
  refine ⟨_, rfl, v, p, rfl, hp, ok, fun H1 s1 => ⟨_, rfl, [csg p], w.2, rfl, rfl, by show 1 * w.2 ≤ _; omega, by omega, ?_⟩⟩
  rw [rep_flat]
  refine ⟨_, rfl, [45], w.2, rfl, rfl, by show 1 * w.2 ≤ _; omega, by omega, ?_⟩
  rw [rep_flat]
  refine ⟨_, _, rfl, rfl, by rw [tx_len, tx_len, List.length_replicate, List.length_replicate]; exact sz (by omega), ?_⟩
  rw [tx_app]
  refine ⟨_, rfl, _, rfl, _, rfl, by rw [tx_len]; exact sz (by omega), _, _, rfl, rfl, _, rfl, ite2 (fun k => ?_) (fun k => ?_)⟩
  · have k' : (((tx l).length : Nat) : Int) ≤ (w.1 : Int) := of_decide_eq_true k
    rw [tx_len] at k'
    refine ⟨_, rfl, _, rfl, [45], w.1, rfl, rfl, by show 1 * w.1 ≤ _; omega, by omega, ?_⟩
    rw [rep_flat]
    refine ⟨_, _, rfl, rfl, by rw [tx_len, tx_len, List.length_append, List.length_replicate, List.length_replicate, List.length_replicate]; exact sz (by omega), ?_⟩
    rw [tx_app]
    refine ⟨_, rfl, _, _, rfl, rfl, by rw [tx_len, tx_len, List.length_append, List.length_append, List.length_replicate, List.length_replicate, List.length_replicate]; exact sz (by omega), ?_⟩
    rw [tx_app]
    have q1 := q H1 s1
    unfold wayS at q1
    rw [if_pos (by omega)] at q1
    exact q1
  · have k' : ¬ (((tx l).length : Nat) : Int) ≤ (w.1 : Int) := fun z => k (decide_eq_true z)
    rw [tx_len] at k'
    refine ⟨_, rfl, [45], w.1, rfl, rfl, by show 1 * w.1 ≤ _; omega, by omega, ?_⟩
    rw [rep_flat]
    refine ⟨_, rfl, _, _, rfl, rfl, by rw [tx_len, tx_len, List.length_replicate]; exact sz (by omega), ?_⟩
    rw [tx_app]
    refine ⟨_, rfl, _, _, rfl, rfl, by rw [tx_len, tx_len, List.length_append, List.length_append, List.length_replicate, List.length_replicate, List.length_replicate]; exact sz (by omega), ?_⟩
    rw [tx_app]
    have q1 := q H1 s1
    unfold wayS at q1
    rw [if_neg (by omega)] at q1
    exact q1
theorem ok_price_of_steps (D : Dn K mg "price_of_steps" s_price_of_steps P_price_of_steps) (g : Gx mg) (c_price_of_step : C8.Cal P w K mg base 1 "price_of_step" spPStep []) : C8.Cal P w K mg base 2 "price_of_steps" spPSteps [] := by
  refine D.cal sc_price_of_steps (fun vs H Q E h => ?_) (fun f cdv A outer s H vs Q E hr h => ?_)
  · obtain ⟨v, p, l, rfl, hp, ok, hl, hs, q⟩ := h
    rfl
  obtain ⟨v, p, l, rfl, hp, ok, hl, hs, q⟩ := h
  have nd := sc_price_of_steps.nd
  refine ⟨_, (pss_one (ps_ret (pe_callB (cr_sum rfl) rfl g.sum b_sum (pa_cons (pe_lc (own := [("step", 2)]) rfl nd (pi_str (pv 1)) (blkOk_by (own := [("step", 2)]) (N := N_price_of_steps) (sc := defScope s_price_of_steps) (by decide +kernel)) (fun _ _ _ _ _ => (pg_name (i := 2) nd rfl (.inl rfl))) (fun _ _ _ _ _ => pts_nil) (fun _ _ _ _ _ => (C8.pe_c c_price_of_step (by exact hr) (by decide) rfl (pa_cons (pv 0) (pa_cons (pv 2) pa_nil))))) pa_nil)))), ?_⟩
  refine ⟨_, rfl, _, rfl, fun D hD => ?_⟩
  have hn : (tx l).cps.size = l.length := tx_len l
  refine lc_it (walk_str (z := tx l)) (fun i H2 => Same H H2 ∧ H2 D = some (.lst ((l.take i).map fun c => V.int (cst p c)))) ⟨Same.new hD _, upd_same⟩ (fun _ _ _ _ => trivial) ?_ ?_
  · rintro i x H2 H3 hi ⟨s2, h2⟩ ⟨rfl, c, hc, rfl⟩
    have hc' : l[i]? = some c := by
      rw [← hc]
      simp [tx]
    refine ⟨rfl, ?_⟩
    refine ⟨_, rfl, _, rfl, v, p, c, rfl, hp.mono s2, ok, hs c (List.mem_of_getElem? hc'), fun H4 s4 => ?_⟩
    refine ⟨_, s4 _ _ h2, by rw [List.length_map, List.length_take]; exact szl (by omega), fun b o e => ?_, ?_⟩
    · rw [upd_ne (ne_of_none e hD)]
      exact s4 _ _ (s2 b o e)
    · rw [upd_same, List.take_add_one, hc']
      simp
  · rintro H2 ⟨s2, h2⟩
    rw [hn, List.take_of_length_le (Nat.le_refl _)] at h2
    refine ⟨D, l.map (cst p), rfl, SqL.of (by rw [h2, List.map_map]; rfl), ?_⟩
    exact q H2 s2
theorem ok_fewest (D : Dn K mg "fewest" s_fewest P_fewest) (g : Gx mg) (c_check_plan : C8.Cal P w K mg base 3 "check_plan" spChPlan []) (c_check_triple : C8.Cal P w K mg base 3 "check_triple" spChTriple []) (c_ways : C8.Cal P w K mg base 1 "ways" spWays []) : C8.Cal P w K mg base 4 "fewest" spFew [] := by
  refine D.cal sc_fewest (fun vs H Q E h => ?_) (fun f cdv A outer s H vs Q E hr h => ?_)
  · obtain ⟨v, p, u, t, rfl, hp, ok, ht, tok, q⟩ := h
    rfl
  obtain ⟨v, p, u, t, rfl, hp, ok, ht, tok, q⟩ := h
  have nd := sc_fewest.nd
  refine ⟨_, (pss_cons (ps_expr (C8.pe_c c_check_plan hr (by decide) rfl (pa_cons (pv 0) pa_nil)))
    (pss_cons (ps_expr (C8.pe_c c_check_triple hr (by decide) rfl (pa_cons (pv 0) (pa_cons (pv 1) pa_nil))))
    (pss_one (ps_ret (pe_op op_add (pe_callB call_len_str rfl g.len PySem.boot_len (pa_cons (pe_ix ix_tup (pv 1) pe_int (fun _ _ => rfl)) pa_nil)) (pe_callB (cr_min rfl) rfl g.min b_min (pa_cons (pe_lc (own := [("popped", 2), ("filled", 3)]) rfl nd (pi_list (C8.pe_c c_ways hr (by decide) rfl (pa_cons (pv 0) (pa_cons (pv 1) pa_nil)))) (blkOk_by (own := [("popped", 2), ("filled", 3)]) (N := N_fewest) (sc := defScope s_fewest) (by decide +kernel)) (fun _ _ _ _ _ => (show PG _ _ (gTup K 2 _) from pg_tup (n := 2) (by rfl) (pgs_cons (pg_name (i := 2) nd rfl (.inl rfl)) (pgs_cons (pg_name (i := 3) nd rfl (.inl rfl)) pgs_nil)))) (fun _ _ _ _ _ => pts_nil) (fun _ _ _ _ _ => (pe_op op_add (pv 2) (pe_op op_mul pe_int (pv 3))))) pa_nil))))))), ?_⟩
  refine ⟨_, rfl, v, p, rfl, hp, ok, fun H1 s1 => ?_⟩
  refine ⟨_, rfl, _, rfl, v, p, u, t, rfl, hp.mono s1, ok, ht.mono s1, tok, fun H2 s2 => ?_⟩
  have s12 := s1.trans s2
  obtain ⟨c, rfl, hc⟩ := id ht
  refine ⟨_, rfl, c, _, 2, _, rfl, rfl, SqT.of (s12 _ _ hc), rfl, _, rfl, by rw [tx_len]; exact sz (by have := tok.kl; have := ok.r9; omega), ?_⟩
  refine ⟨_, rfl, _, rfl, v, p, .ref c, t, rfl, hp.mono s12, ok, ht.mono s12, tok, fun D0 H3 xs s3 hD0 hx hP => ?_⟩
  have s13 := s12.trans s3
  refine ⟨D0, rfl, ⟨xs, SqL.of hx⟩, fun D hD => ?_⟩
  have hlen := hP.len
  have hwl : (ways p.room t).length ≤ 2 := by unfold ways; split <;> simp
  have hne : D0 ≠ D := fun z => by rw [z, hD] at hx; cases hx
  refine lc_it (walk_list (a := D0) (xs := xs)) (fun i H4 => Same H3 H4 ∧ H4 D = some (.lst (((ways p.room t).take i).map fun w => V.int ((w.1 : Int) + 2 * (w.2 : Int))))) ⟨Same.new hD _, upd_same⟩ (fun i H4 _ h4 => SqL.of (h4.1 _ _ hx)) ?_ ?_
  · rintro i x H4 H5 hi ⟨s4, h4⟩ ⟨rfl, hxi⟩
    obtain ⟨w, aw, hw, rfl, haw⟩ := hP.get hxi
    refine ⟨aw, _, rfl, SqT.of (s4 _ _ haw), rfl, _, _, rfl, _, _, rfl, rfl, rfl, ?_⟩
    refine ⟨_, rfl, _, rfl, _, _, rfl, rfl, .inl ⟨by decide, by decide⟩, _, _, rfl, rfl, ?_⟩
    refine ⟨_, h4, by rw [List.length_map, List.length_take]; exact szl (by omega), fun b o e => ?_, ?_⟩
    · rw [upd_ne (ne_of_none e hD)]
      exact s4 b o e
    · rw [upd_same, List.take_add_one, hw, List.map_append]
      rfl
  · rintro H4 ⟨s4, h4⟩
    rw [hlen, List.take_of_length_le (Nat.le_refl _)] at h4
    refine ⟨D, (ways p.room t).map fun w => (w.1 : Int) + 2 * (w.2 : Int), rfl, SqL.of (by rw [h4, List.map_map]; rfl), by rw [List.length_map]; exact List.length_pos_iff.mpr (by unfold ways; split <;> simp), fun m h1 h2 => ?_⟩
    have e := few_of (p := p) (t := t) h1 h2
    rw [tx_len]
    refine ⟨_, _, rfl, rfl, ?_⟩
    dsimp only
    rw [e]
    exact q H4 (s13.trans s4)
theorem ok_judged (D : Dn K mg "judged" s_judged P_judged) (g : Gx mg) (c_check_plan : C8.Cal P w K mg base 3 "check_plan" spChPlan []) (c_check_triple : C8.Cal P w K mg base 3 "check_triple" spChTriple []) (c_check_steps : C8.Cal P w K mg base 2 "check_steps" spChSteps []) (c_triple_of_steps : C8.Cal P w K mg base 3 "triple_of_steps" spTSteps []) (c_price_of_steps : C8.Cal P w K mg base 2 "price_of_steps" spPSteps []) : C8.Cal P w K mg base 4 "judged" spJudged [] := by
  refine D.cal sc_judged (fun vs H Q E h => ?_) (fun f cdv A outer s H vs Q E hr h => ?_)
  · obtain ⟨v, p, u, t, l, rfl, hp, ok, ht, tok, hl, hs, e, q⟩ := h
    rfl
  obtain ⟨v, p, u, t, l, rfl, hp, ok, ht, tok, hl, hs, e, q⟩ := h
  have nd := sc_judged.nd
  refine ⟨_, (pss_cons (ps_expr (C8.pe_c c_check_plan hr (by decide) rfl (pa_cons (pv 0) pa_nil)))
    (pss_cons (ps_expr (C8.pe_c c_check_triple hr (by decide) rfl (pa_cons (pv 0) (pa_cons (pv 1) pa_nil))))
    (pss_cons (ps_expr (C8.pe_c c_check_steps hr (by decide) rfl (pa_cons (pv 0) (pa_cons (pv 2) pa_nil))))
    (pss_cons (ps_if (pt_cmpR (op_neD hr.units) (C8.pe_c c_triple_of_steps hr (by decide) rfl (pa_cons (pv 0) (pa_cons (pv 2) pa_nil))) (pv 1) (nomark _)) (pss_one (ps_ret pe_non)) pss_nil)
    (pss_one (ps_ret (C8.pe_c c_price_of_steps hr (by decide) rfl (pa_cons (pv 0) (pa_cons (pv 2) pa_nil))))))))), ?_⟩
  refine ⟨_, rfl, v, p, rfl, hp, ok, fun H1 s1 => ?_⟩
  refine ⟨_, rfl, _, rfl, v, p, u, t, rfl, hp.mono s1, ok, ht.mono s1, tok, fun H2 s2 => ?_⟩
  have s12 := s1.trans s2
  refine ⟨_, rfl, _, rfl, v, p, l, rfl, hp.mono s12, ok, hl, hs, fun H3 s3 => ?_⟩
  have s13 := s12.trans s3
  refine ⟨_, rfl, _, rfl, v, p, l, rfl, hp.mono s13, ok, hs, fun H4 v4 s4 h4 => ?_⟩
  have s14 := s13.trans s4
  rw [e] at h4
  refine ⟨_, rfl, ne_trip tok h4 (ht.mono s14) ⟨_, rfl, iteF ?_⟩⟩
  exact ⟨_, rfl, _, rfl, v, p, l, rfl, hp.mono s14, ok, hl, hs, fun H5 s5 => q H5 (s14.trans s5)⟩
theorem ok_cheapest_way {cL PT : Addr} (D : DnL K mg "cheapest_way" s_cheapest_way P_cheapest_way cL) (TB : LamX.TabB base mg cL PT) (g : Gx mg) (c_ways : C8.Cal P w K mg base 1 "ways" spWays []) : C8.Cal P w K mg base 3 "cheapest_way" (spChWay [(PT, lamQ)]) [] := by
  refine D.cal sc_cheapest_way (fun vs H Q E h => ?_) (fun f A outer s H vs Q E hr h => ?_)
  · obtain ⟨v, p, u, t, rfl, _⟩ := h
    rfl
  obtain ⟨v, p, u, t, rfl, ⟨a, b, rfl, ha, hb⟩, ok, ht, tok, hT, q⟩ := h
  have nd := sc_cheapest_way.nd
  refine ⟨_, (pss_cons (ps_set (i := 3) nd rfl (.inr rfl) (pe_ix ix_tup (pv 0) pe_int (fun _ _ => rfl)))
    (pss_cons (ps_set (i := 2) nd rfl (.inr rfl) (pe_op op_add (pe_callB (r := rMinT K) (cr_minT rfl) rfl g.min b_min (pa_cons (pe_ix ix_tup (pv 0) pe_int (fun _ _ => rfl)) pa_nil)) (pv 3)))
    (pss_one (ps_ret (pe_minkey (c := cL) (P := PT) (T := [(PT, lamQ)]) (k := 0) (N := ["way", "pop_price", "filler_price"]) (ps := ["way"]) (fr := ["pop_price", "filler_price"]) (js := [3, 2]) rfl rfl g.min (pa_cons (C8.pe_c c_ways hr (by decide) rfl (pa_cons (pv 0) (pa_cons (pv 1) pa_nil))) pa_nil) TB rfl (List.mem_singleton.mpr rfl) (fun p hp _ => by rw [List.mem_singleton.mp hp]; rfl) hr (nscope_by (by decide +kernel)) rfl (ndef_free (fr := ["pop_price", "filler_price"]) (sc := defScope s_cheapest_way) (by decide +kernel)) (ndef_fr (sc := defScope s_cheapest_way) (by decide +kernel)) rfl rfl (fun _ _ _ _ _ _ => rfl) (fun c' f A outer s H => (pe_op op_add (pe_op op_mul (pe_ix (r := rIxT K) ix_tup (pv 0) pe_int (fun _ _ => rfl)) (pv 1)) (pe_op op_mul (pe_ix (r := rIxT K) ix_tup (pv 0) pe_int (fun _ _ => rfl)) (pv 2))))))))), ?_⟩
  have hp : PlanAt H (.ref a) p := ⟨a, b, rfl, ha, hb⟩
  refine ⟨_, rfl, a, _, 3, _, rfl, rfl, SqT.of ha, rfl, ?_⟩
  refine ⟨_, rfl, a, _, 2, _, rfl, rfl, SqT.of ha, rfl, b, p.pr, rfl, hb.sq, List.length_pos_iff.mpr ok.ne, fun m h1 h2 => ?_⟩
  have e := mnI_of h1 h2
  subst e
  refine ⟨_, rfl, _, _, rfl, rfl, ?_⟩
  refine ⟨_, rfl, _, rfl, .ref a, p, u, t, rfl, hp, ok, ht, tok, fun D0 H1 xs s1 hD0 hx hP => ?_⟩
  have hlen := hP.len
  have hw0 : 0 < xs.length := by rw [hlen]; exact List.length_pos_iff.mpr (by unfold SK.ways; split <;> simp)
  refine ⟨Tabs.same hT s1, D0, xs, fun i => wkey p ((SK.ways p.room t).getD i (0, 0)), rfl, hx, hw0, fun H2 i x Q' tu hxi hq => ?_, fun H2 od x e1 t2 hxb => ?_⟩
  · obtain ⟨w0, aw, hw, rfl, haw⟩ := hP.get hxi
    have e : (SK.ways p.room t).getD i (0, 0) = w0 := by simp [List.getD, hw]
    simp only [e] at hq
    have hw9 := ways_le ok tok (List.mem_of_getElem? hw)
    have hq1 := ok.q1
    have hq9 := ok.q9
    have e64 : (2 : Int) ^ 64 = 18446744073709551616 := by decide
    refine ⟨_, rfl, aw, _, 0, _, rfl, rfl, SqT.of (tu _ _ haw), rfl, _, rfl, _, _, rfl, rfl, .inl (by rw [e64]; omega), ?_⟩
    exact ⟨_, rfl, aw, _, 1, _, rfl, rfl, SqT.of (tu _ _ haw), rfl, _, rfl, _, _, rfl, rfl, .inl (by rw [e64]; omega), _, _, rfl, rfl, hq⟩
  · obtain ⟨w0, aw, hw, rfl, haw⟩ := hP.get hxb
    have e : chW p t = w0 := by
      rw [hlen] at hw
      show (SK.ways p.room t)[bestN (fun i => wkey p ((SK.ways p.room t).getD i (0, 0))) (SK.ways p.room t).length]?.getD (0, 0) = w0
      rw [hw]
      rfl
    have hne : H2 D0 = some (.lst xs) := e1 _ _ hx (by intro ps z; cases z)
    refine q aw _ (fun b' o hb' n => ?_) (Tabs.upd t2 hne) ?_
    · have hb1 := e1 b' o (s1 _ _ hb') n
      rw [upd_ne (fun z => by rw [z, hD0] at hb'; cases hb')]
      exact hb1
    · rw [e, upd_ne (fun z => by
        have h3 := e1 _ _ haw (by intro ps z; cases z)
        rw [z, hne] at h3
        cases h3)]
      exact e1 _ _ haw (by intro ps z; cases z)
theorem ok_cheapest (D : Dn K mg "cheapest" s_cheapest P_cheapest) (g : Gx mg) (c_check_plan : C8.Cal P w K mg base 3 "check_plan" spChPlan []) (c_check_triple : C8.Cal P w K mg base 3 "check_triple" spChTriple []) (c_cheapest_way : C8.Cal P w K mg base 3 "cheapest_way" (spChWay T) []) (c_steps_of_way : C8.Cal P w K mg base 2 "steps_of_way" spStepsW []) (c_price_of_steps : C8.Cal P w K mg base 2 "price_of_steps" spPSteps []) : C8.Cal P w K mg base 4 "cheapest" (spCheap T) [] := by
  refine D.cal sc_cheapest (fun vs H Q E h => ?_) (fun f cdv A outer s H vs Q E hr h => ?_)
  · obtain ⟨v, p, u, t, rfl, hp, ok, ht, tok, hT, q⟩ := h
    rfl
  obtain ⟨v, p, u, t, rfl, hp, ok, ht, tok, hT, q⟩ := h
  have nd := sc_cheapest.nd
  refine ⟨_, (pss_cons (ps_expr (C8.pe_c c_check_plan hr (by decide) rfl (pa_cons (pv 0) pa_nil)))
    (pss_cons (ps_expr (C8.pe_c c_check_triple hr (by decide) rfl (pa_cons (pv 0) (pa_cons (pv 1) pa_nil))))
    (pss_cons (ps_set (i := 2) nd rfl (.inl rfl) (C8.pe_c c_cheapest_way hr (by decide) rfl (pa_cons (pv 0) (pa_cons (pv 1) pa_nil))))
    (pss_cons (ps_set (i := 3) nd rfl (.inl rfl) (C8.pe_c c_steps_of_way hr (by decide) rfl (pa_cons (pv 0) (pa_cons (pv 2) (pa_cons (pe_ix ix_tup (pv 1) pe_int (fun _ _ => rfl)) pa_nil)))))
    (pss_one (ps_ret (pe_tup (pa_cons (C8.pe_c c_price_of_steps hr (by decide) rfl (pa_cons (pv 0) (pa_cons (pv 3) pa_nil))) (pa_cons (pv 3) pa_nil))))))))), ?_⟩
  have h9 := ok.r9
  have kl := tok.kl
  refine ⟨_, rfl, v, p, rfl, hp, ok, fun H1 s1 => ?_⟩
  refine ⟨_, rfl, _, rfl, v, p, u, t, rfl, hp.mono s1, ok, ht.mono s1, tok, fun H2 s2 => ?_⟩
  have s12 := s1.trans s2
  refine ⟨_, rfl, _, rfl, v, p, u, t, rfl, hp.mono s12, ok, ht.mono s12, tok, Tabs.same hT s12, fun a H3 e3 t3 ha => ?_⟩
  have e13 : ExtN H H3 := (ExtN.ofS s12).trans e3
  obtain ⟨c, rfl, hc⟩ := id ht
  have hw := ways_le ok tok (chW_mem p t)
  refine ⟨_, rfl, _, rfl, _, rfl, c, _, 2, _, rfl, rfl, SqT.of (Tups.ofN e13 _ _ hc), rfl, v, p, a, chW p t, t.l, rfl, hp.ext e13, ok, ha, hw.1, hw.2, by omega, fun H4 s4 => ?_⟩
  have e14 := e13.trans (ExtN.ofS s4)
  refine ⟨_, rfl, _, rfl, v, p, chS p t, rfl, hp.ext e14, ok, by have := chS_len ok tok; omega, chS_in ok tok, fun H5 s5 => ?_⟩
  have e15 := e14.trans (ExtN.ofS s5)
  refine ⟨_, rfl, by show 2 ≤ sizeLine; decide, fun B hB => ?_⟩
  have sB := Same.new hB (.tup [.int (sprc (cst p) (chS p t)), .str (tx (chS p t))])
  refine q B _ (e15.trans (ExtN.ofS sB)) (Tabs.same (Tabs.same (Tabs.same t3 s4) s5) sB) ?_
  rw [← chS_price ok]
  exact upd_same
theorem ok_fillers (D : Dn K mg "fillers" s_fillers P_fillers) (g : Gx mg) (c_check_plan : C8.Cal P w K mg base 3 "check_plan" spChPlan []) (c_check_triple : C8.Cal P w K mg base 3 "check_triple" spChTriple []) (c_cheapest_way : C8.Cal P w K mg base 3 "cheapest_way" (spChWay T) []) : C8.Cal P w K mg base 4 "fillers" (spFill T) [] := by
  refine D.cal sc_fillers (fun vs H Q E h => ?_) (fun f cdv A outer s H vs Q E hr h => ?_)
  · obtain ⟨v, p, u, t, rfl, hp, ok, ht, tok, hT, q⟩ := h
    rfl
  obtain ⟨v, p, u, t, rfl, hp, ok, ht, tok, hT, q⟩ := h
  have nd := sc_fillers.nd
  refine ⟨_, (pss_cons (ps_expr (C8.pe_c c_check_plan hr (by decide) rfl (pa_cons (pv 0) pa_nil)))
    (pss_cons (ps_expr (C8.pe_c c_check_triple hr (by decide) rfl (pa_cons (pv 0) (pa_cons (pv 1) pa_nil))))
    (pss_one (ps_ret (pe_ix ix_tup (C8.pe_c c_cheapest_way hr (by decide) rfl (pa_cons (pv 0) (pa_cons (pv 1) pa_nil))) pe_int (fun _ _ => rfl)))))), ?_⟩
  refine ⟨_, rfl, v, p, rfl, hp, ok, fun H1 s1 => ?_⟩
  refine ⟨_, rfl, _, rfl, v, p, u, t, rfl, hp.mono s1, ok, ht.mono s1, tok, fun H2 s2 => ?_⟩
  have s12 := s1.trans s2
  refine ⟨_, rfl, _, rfl, v, p, u, t, rfl, hp.mono s12, ok, ht.mono s12, tok, Tabs.same hT s12, fun a H3 e3 t3 ha => ?_⟩
  exact ⟨a, _, 1, _, rfl, rfl, SqT.of ha, rfl, q H3 ((ExtN.ofS s12).trans e3) t3⟩
theorem sprc_take (f : Nat → Int) {l : List Nat} {i c : Nat} (h : l[i]? = some c) : ((l.take (i + 1)).map f) = ((l.take i).map f) ++ [f c] := by
  rw [List.take_add_one, h, List.map_append]
  rfl
theorem sign_ix {M c : Nat} (hM : c ∈ signs M) : c - 97 < M ∧ ∃ r, Builtin.Str.occurrences ("abcd" : Str) (tx [c]) 0 ("abcd" : Str).length 1 = (c - 97) :: r := by
  have h4 : c = 97 ∨ c = 98 ∨ c = 99 ∨ c = 100 := by
    have := List.mem_of_mem_take (show c ∈ List.take M [97, 98, 99, 100] from hM)
    simpa using this
  have hj : c - 97 < M := by
    match M, hM with
    | 0, hM => simp [signs] at hM
    | 1, hM => simp [signs] at hM; omega
    | 2, hM => simp [signs] at hM; omega
    | 3, hM => simp [signs] at hM; omega
    | M + 4, _ => omega
  refine ⟨hj, ?_⟩
  rw [s_abcd]
  rcases h4 with rfl | rfl | rfl | rfl
  · exact ⟨[], by decide +kernel⟩
  · exact ⟨[], by decide +kernel⟩
  · exact ⟨[], by decide +kernel⟩
  · exact ⟨[], by decide +kernel⟩
theorem s_a : ("a" : Str) = tx [97] := by decide +kernel
theorem seq_by {a b : TS} {D : Ends} {σ : L2.St} {H : Hp} (Good : L2.St → Hp → Prop) (ha : ∀ (R : L2.St → Hp → Prop), (∀ σ' H', Good σ' H' → R σ' H') → a { D with nx := R } σ H) (hb : ∀ σ' H', Good σ' H' → b D σ' H') : tSeq a b D σ H := ha _ hb
theorem catF_by {K : PySem.W.Frag} {x y : V} {H : Hp} {Q : VK} (h : ∃ (a b : Addr) (xs ys : List V), x = .ref a ∧ y = .ref b ∧ TupF H a xs ∧ SqT K H b ys ∧ xs ≠ [] ∧ xs.length + ys.length ≤ sizeLine ∧ ∀ (c : Addr) (H' : Hp), Same H H' → TupF H' c (xs ++ ys) → Q (.ref c) H') : rCatF K x y H Q := by
  obtain ⟨a, b, xs, ys, h1, h2, h3, h4, h5, h6, q⟩ := h
  refine ⟨a, b, xs, ys, h1, h2, h3.sq, h4, h5, h6, fun e => ?_, fun e p ob hob hp => q p _ (Same.new hp _) ⟨ob, hob, upd_same⟩⟩
  refine q a H (Same.refl H) ?_
  rw [e, List.append_nil]
  exact h3
theorem cut_two {x y z w : V} : cutV [x, y, z, w] none (some 2) = [x, y] := rfl
theorem cut_tail (l : List Int) (x : Int) : cutV ((x :: l).map V.int) (some 1) none = l.map V.int := by
  unfold cutV
  have e1 : HT.sIx ((x :: l).map V.int).length 0 (some 1) = 1 := by
    have := HT.sIx_nat ((x :: l).map V.int).length 0 1
    rw [show ((1 : Nat) : Int) = 1 from rfl] at this
    rw [this]
    simp
  rw [e1, HT.sIx_none]
  show (l.map V.int).take _ = _
  rw [List.take_of_length_le]
  simp
theorem sprc_sum (f : Nat → Int) (l : List Nat) : (l.map f).sum = sprc f l := rfl
def wsum (p : Pl) (t : Tr) (w : Nat × Nat) : Int := (w.1 : Int) * p.pop + sprc (cst p) t.l + (w.2 : Int) * (mnI p.pr + p.pop)
theorem wsum_key (p : Pl) (t : Tr) (w : Nat × Nat) : wsum p t w = wkey p w + sprc (cst p) t.l := by
  unfold wsum wkey
  omega
theorem sums_min {p : Pl} {t : Tr} {m : Int} (h1 : m ∈ (SK.ways p.room t).map (wsum p t)) (h2 : ∀ y ∈ (SK.ways p.room t).map (wsum p t), m ≤ y) : m = LB p.room (mnI p.pr) p.pop (cst p) t := by
  unfold LB
  unfold SK.ways at h1 h2
  by_cases h : t.k = 0
  · rw [if_pos h] at h1 h2 ⊢
    simp only [wprice_key]
    simp only [List.map_cons, List.map_nil, List.mem_cons, List.not_mem_nil, or_false, wsum_key] at h1 h2
    have a1 := h2 _ (.inl rfl)
    have a2 := h2 _ (.inr rfl)
    rcases h1 with h1 | h1 <;> omega
  · rw [if_neg h] at h1 h2 ⊢
    simp only [wprice_key]
    simp only [List.map_cons, List.map_nil, List.mem_cons, List.not_mem_nil, or_false, wsum_key] at h1
    exact h1
theorem sums_idx (p : Pl) (t : Tr) : ∃ j w, (SK.ways p.room t)[j]? = some w ∧ wsum p t w = LB p.room (mnI p.pr) p.pop (cst p) t ∧ (∀ (i : Nat) (w' : Nat × Nat), i < j → (SK.ways p.room t)[i]? = some w' → wsum p t w' ≠ LB p.room (mnI p.pr) p.pop (cst p) t) ∧ chW p t = w := by
  have hL := chW_LB p t
  have e1 : ∀ w, wsum p t w = wprice (mnI p.pr) p.pop (cst p) t.l w := fun w => by rw [wsum_key, wprice_key]
  by_cases h : t.k = 0
  · have hc := chW_0 (p := p) h
    by_cases c : wkey p (p.room, 0) < wkey p (0, p.room - t.l.length)
    · rw [if_pos c] at hc
      refine ⟨1, _, by unfold SK.ways; rw [if_pos h]; rfl, by rw [e1, ← hc, hL], fun i w' hi hw' => ?_, hc⟩
      have hi' : i = 0 := by omega
      subst hi'
      have e2 : w' = (0, p.room - t.l.length) := by
        unfold SK.ways at hw'
        rw [if_pos h] at hw'
        exact (Option.some.inj hw').symm
      rw [← hL, hc, wprice_key, wsum_key, e2]
      omega
    · rw [if_neg c] at hc
      exact ⟨0, _, by unfold SK.ways; rw [if_pos h]; rfl, by rw [e1, ← hc, hL], fun i w' hi _ => absurd hi (Nat.not_lt_zero _), hc⟩
  · have hc := chW_k (p := p) h
    exact ⟨0, _, by unfold SK.ways; rw [if_neg h]; rfl, by rw [e1, ← hc, hL], fun i w' hi _ => absurd hi (Nat.not_lt_zero _), hc⟩
def wfew (p : Pl) (t : Tr) (w : Nat × Nat) : Int := 2 * ((p.room : Int) - (t.k : Int)) - (if (w.1 : Int) - (((tx t.l).length : Nat) : Int) < 0 then -((w.1 : Int) - (((tx t.l).length : Nat) : Int)) else (w.1 : Int) - (((tx t.l).length : Nat) : Int))
theorem wfew_eq {p : Pl} {t : Tr} (a : TrOk p.room p.many t) {w : Nat × Nat} (h : w ∈ SK.ways p.room t) : wfew p t w = (t.l.length : Int) + ((w.1 : Int) + 2 * (w.2 : Int)) := by
  have gk := a.gk
  have kl := a.kl
  unfold wfew
  rw [tx_len]
  unfold SK.ways at h
  by_cases hk : t.k = 0
  · rw [if_pos hk] at h
    rcases List.mem_cons.mp h with e | e
    · rw [e]
      simp only
      omega
    · have e' : w = (p.room, 0) := by simpa using e
      rw [e']
      simp only
      omega
  · rw [if_neg hk] at h
    have e' : w = (t.g, phi p.room t) := by simpa using h
    rw [e']
    unfold phi
    simp only
    split <;> omega
theorem few2_of {p : Pl} {t : Tr} (a : TrOk p.room p.many t) {m : Int} (h1 : m ∈ (SK.ways p.room t).map (wfew p t)) (h2 : ∀ y ∈ (SK.ways p.room t).map (wfew p t), m ≤ y) : m = few p t := by
  have e := few_of (p := p) (t := t) (m := m - (t.l.length : Int)) ?_ fun y hy => ?_
  · omega
  · obtain ⟨w, hw, rfl⟩ := List.mem_map.mp h1
    exact List.mem_map.mpr ⟨w, hw, by rw [wfew_eq a hw]; omega⟩
  · obtain ⟨w, hw, rfl⟩ := List.mem_map.mp hy
    have := h2 _ (List.mem_map.mpr ⟨w, hw, rfl⟩)
    rw [wfew_eq a hw] at this
    omega
theorem ok_law {f : Addr} {fd : FuncData} (F : L2.Fun K "law" "law" s_law f fd) (g : Gx mg) (c_law_begun : C8.Cal P w K mg base 1 "_law_begun" (spLBegun K) []) (c_law_plan : C8.Cal P w K mg base 2 "_law_plan" spLPlan []) (c_law_triple : C8.Cal P w K mg base 3 "_law_triple" spLTriple []) (c_law_take : C8.Cal P w K mg base 1 "_law_take" spTake []) (c_cheapest : C8.Cal P w K mg base 4 "cheapest" (spCheap T) []) (c_fillers : C8.Cal P w K mg base 4 "fillers" (spFill T) []) (c_fewest : C8.Cal P w K mg base 4 "fewest" spFew []) (c_told_of_steps : C8.Cal P w K mg base 4 "told_of_steps" spToldSteps []) (c_judged : C8.Cal P w K mg base 4 "judged" spJudged []) (c_law_some : C8.Cal P w K mg base 10 "_law_some" (spLSome 8) []) (c_told : C8.Cal P w K mg base 12 "told" spTold []) (c_cost : C8.Cal P w K mg base 10 "cost" spCost []) (c_joined : C8.Cal P w K mg base 4 "joined" spJoined []) : FnOk P w K mg base CX0 13 f fd P_law (spLawT K T) := by
  refine F.ok sc_law (fun vs H Q E h => ?_) (fun cdv A outer s H vs Q E hr h => ?_)
  · obtain ⟨a, ns, rfl, hS, h63, hT0, kk⟩ := h
    rfl
  obtain ⟨a, ns, rfl, hS, h63, hT0, kk⟩ := h
  have nd := sc_law.nd
  refine ⟨_, (pss_cons (ps_set (i := 1) nd rfl (.inl rfl) (C8.pe_c c_law_begun hr (by decide) rfl (pa_cons (pv 0) pa_nil)))
    (pss_cons (ps_for PassesOwn.never rfl (pi_range1 (by rfl) g.range (pa_cons pe_int pa_nil)) (pg_name (i := 2) nd rfl (.inl rfl)) (pss_cons (ps_set (i := 3) nd rfl (.inr rfl) (C8.pe_c c_law_plan hr (by decide) rfl (pa_cons (pv 1) (pa_cons pe_int (pa_cons pe_int pa_nil)))))
    (pss_cons (ps_set (i := 4) nd rfl (.inl rfl) (C8.pe_c c_law_triple hr (by decide) rfl (pa_cons (pv 1) (pa_cons (pv 3) pa_nil))))
    (pss_cons (ps_if (PW.pt (pw_and (pt_cmpR op_eq (C8.pe_c c_law_take hr (by decide) rfl (pa_cons (pv 1) (pa_cons pe_int pa_nil))) pe_int (nomark _)) (pw_and1 (pt_cmpR op_gt (pe_ix ix_tup (pv 3) pe_int (fun _ _ => rfl)) pe_int (nomark _))))) (pss_cons (ps_set (i := 5) nd rfl (.inl rfl) (pe_op op_add pe_int (C8.pe_c c_law_take hr (by decide) rfl (pa_cons (pv 1) (pa_cons (pe_op op_sub (pe_ix ix_tup (pv 3) pe_int (fun _ _ => rfl)) pe_int) pa_nil)))))
    (pss_cons (ps_set (i := 3) nd rfl (.inr rfl) (pe_op op_catA (pe_slice sl_tupA (pv 3) po_none (po_some pe_int)) (pe_tup (pa_cons (pe_op op_catF (pe_tupF (pa_cons (pv 5) pa_nil)) (pe_slice sl_tupA (pe_ix ix_tup (pv 3) pe_int (fun _ _ => rfl)) (po_some pe_int) po_none)) (pa_cons (pe_op op_sub (pe_ix ix_tup (pv 3) pe_int (fun _ _ => rfl)) (pv 5)) pa_nil)))))
    (pss_one (ps_set (i := 4) nd rfl (.inl rfl) (pe_tup (pa_cons pe_int (pa_cons pe_int (pa_cons (pe_op op_mulS pe_str (pv 5)) pa_nil)))))))) pss_nil)
    (pss_cons (ps_asg (pv 4) (pg_tup (by rfl) (pgs_cons (pg_name (i := 6) nd rfl (.inl rfl)) (pgs_cons (pg_name (i := 7) nd rfl (.inr rfl)) (pgs_cons (pg_name (i := 8) nd rfl (.inr rfl)) pgs_nil)))))
    (pss_cons (ps_asg (pe_tup (pa_cons (pe_ix ix_tup (pv 3) pe_int (fun _ _ => rfl)) (pa_cons (pe_op op_add (pe_callB (r := rMinT K) (cr_minT rfl) rfl g.min b_min (pa_cons (pe_ix ix_tup (pv 3) pe_int (fun _ _ => rfl)) pa_nil)) (pe_ix ix_tup (pv 3) pe_int (fun _ _ => rfl))) pa_nil))) (pg_tup (by rfl) (pgs_cons (pg_name (i := 9) nd rfl (.inr rfl)) (pgs_cons (pg_name (i := 10) nd rfl (.inr rfl)) pgs_nil))))
    (pss_cons (ps_set (i := 11) nd rfl (.inr rfl) (pe_callB (cr_sum rfl) rfl g.sum b_sum (pa_cons (pe_lc (own := [("_law_sign", 22)]) rfl nd (pi_str (pv 8)) (blkOk_by (own := [("_law_sign", 22)]) (N := N_law) (sc := defScope s_law) (by decide +kernel)) (fun _ _ _ _ _ => (pg_name (i := 22) nd rfl (.inl rfl))) (fun _ _ _ _ _ => pts_nil) (fun _ _ _ _ _ => (pe_ix (r := rIxT K) ix_tup (pe_ix (r := rIxT K) ix_tup (pv 3) pe_int (fun _ _ => rfl)) (pe_m1 PySem.F.slot_str_index PySem.F.type_str_index mt_sindex pe_str (pv 22)) (fun _ _ => rfl)))) pa_nil)))
    (pss_cons (ps_set (i := 12) nd rfl (.inl rfl) (pe_lst (pa_cons (pe_tup (pa_cons (pv 6) (pa_cons (pe_op op_sub (pe_op op_sub (pv 9) (pv 7)) (pe_callB (call_max2 rfl) rfl g.max b_max (pa_cons (pv 6) (pa_cons (pe_callB call_len_str rfl g.len PySem.boot_len (pa_cons (pv 8) pa_nil)) pa_nil)))) pa_nil))) pa_nil)))
    (pss_cons (ps_if (pt_cmpR op_eq (pv 7) pe_int (nomark _)) (pss_one (ps_set (i := 12) nd rfl (.inl rfl) (pe_lst (pa_cons (pe_tup (pa_cons pe_int (pa_cons (pe_op op_sub (pv 9) (pe_callB call_len_str rfl g.len PySem.boot_len (pa_cons (pv 8) pa_nil))) pa_nil))) (pa_cons (pe_tup (pa_cons (pv 9) (pa_cons pe_int pa_nil))) pa_nil))))) pss_nil)
    (pss_cons (ps_setLc (i := 13) (own := [("_law_pops", 20), ("_law_rest", 21)]) rfl nd rfl rfl (sw_true rfl rfl rfl (by decide +kernel)) (pi_list (pv 12)) (blkOk_by (own := [("_law_pops", 20), ("_law_rest", 21)]) (N := N_law) (sc := defScope s_law) (by decide +kernel)) (fun _ _ _ _ _ => (show PG _ _ (gTup K 2 _) from pg_tup (n := 2) (by rfl) (pgs_cons (pg_name (i := 20) nd rfl (.inl rfl)) (pgs_cons (pg_name (i := 21) nd rfl (.inl rfl)) pgs_nil)))) (fun _ _ _ _ _ => pts_nil) (fun _ _ _ _ _ => (pe_op op_add (pe_op op_add (pe_op op_mul (pv 20) (pe_ix (r := rIxT K) ix_tup (pv 3) pe_int (fun _ _ => rfl))) (pv 11)) (pe_op op_mul (pv 21) (pv 10)))))
    (pss_cons (ps_asg (C8.pe_c c_cheapest hr (by decide) rfl (pa_cons (pv 3) (pa_cons (pv 4) pa_nil))) (pg_tup (by rfl) (pgs_cons (pg_name (i := 14) nd rfl (.inl rfl)) (pgs_cons (pg_name (i := 15) nd rfl (.inl rfl)) pgs_nil))))
    (pss_cons (ps_if (PW.pt (pw_or (pt_cmpR op_ne (pv 14) (pe_callB (cr_min rfl) rfl g.min b_min (pa_cons (pv 13) pa_nil)) (nomark _)) (pw_or1 (pt_cmpR op_ne (C8.pe_c c_fillers hr (by decide) rfl (pa_cons (pv 3) (pa_cons (pv 4) pa_nil))) (pe_ix ix_tup (pe_ix ix_list (pv 12) (pe_bm PySem.F.plainAttrs_list PySem.F.slot_list_index PySem.F.type_list_index mt_index (pv 13) (pa_cons (pe_callB (cr_min rfl) rfl g.min b_min (pa_cons (pv 13) pa_nil)) pa_nil)) (fun _ _ => rfl)) pe_int (fun _ _ => rfl)) (nomark _))))) (pss_one (ps_ret pe_bl)) pss_nil)
    (pss_cons (ps_set (i := 16) nd rfl (.inl rfl) (pe_callB (cr_min rfl) rfl g.min b_min (pa_cons (pe_lc (own := [("_law_pops", 20), ("_law_rest", 21)]) rfl nd (pi_list (pv 12)) (blkOk_by (own := [("_law_pops", 20), ("_law_rest", 21)]) (N := N_law) (sc := defScope s_law) (by decide +kernel)) (fun _ _ _ _ _ => (show PG _ _ (gTup K 2 _) from pg_tup (n := 2) (by rfl) (pgs_cons (pg_name (i := 20) nd rfl (.inl rfl)) (pgs_cons (pg_name (i := 21) nd rfl (.inl rfl)) pgs_nil)))) (fun _ _ _ _ _ => pts_nil) (fun _ _ _ _ _ => (pe_op op_sub (pe_op op_mul pe_int (pe_op op_sub (pv 9) (pv 7))) (pe_callB call_abs rfl g.abs b_abs (pa_cons (pe_op op_sub (pv 20) (pe_callB call_len_str rfl g.len PySem.boot_len (pa_cons (pv 8) pa_nil))) pa_nil))))) pa_nil)))
    (pss_cons (ps_if (PW.pt (pw_or (pt_cmpR op_ne (C8.pe_c c_fewest hr (by decide) rfl (pa_cons (pv 3) (pa_cons (pv 4) pa_nil))) (pv 16) (nomark _)) (pw_or (pt_cmpR (op_neD hr.units) (C8.pe_c c_told_of_steps hr (by decide) rfl (pa_cons (pv 3) (pa_cons (pv 15) pa_nil))) (pv 4) (nomark _)) (pw_or1 (pt_cmpR op_ne (C8.pe_c c_judged hr (by decide) rfl (pa_cons (pv 3) (pa_cons (pv 4) (pa_cons (pv 15) pa_nil)))) (pv 14) (nomark _)))))) (pss_one (ps_ret pe_bl)) pss_nil)
    (pss_cons (ps_set (i := 17) nd rfl (.inl rfl) (C8.pe_c c_law_some hr (by decide) rfl (pa_cons (pv 1) (pa_cons (pv 3) (pa_cons pe_int (pa_cons pe_int (pa_cons pe_int pa_nil)))))))
    (pss_cons (ps_if (pt_cmpR op_gt (pe_ix ix_tup (C8.pe_c c_cheapest hr (by decide) rfl (pa_cons (pv 3) (pa_cons (C8.pe_c c_told hr (by decide) rfl (pa_cons (pv 3) (pa_cons (pv 17) pa_nil))) pa_nil))) pe_int (fun _ _ => rfl)) (C8.pe_c c_cost hr (by decide) rfl (pa_cons (pv 3) (pa_cons (pv 17) pa_nil))) (nomark _)) (pss_one (ps_ret pe_bl)) pss_nil)
    (pss_cons (ps_set (i := 18) nd rfl (.inl rfl) (C8.pe_c c_law_triple hr (by decide) rfl (pa_cons (pv 1) (pa_cons (pv 3) pa_nil))))
    (pss_cons (ps_set (i := 19) nd rfl (.inl rfl) (C8.pe_c c_joined hr (by decide) rfl (pa_cons (pv 3) (pa_cons (pv 4) (pa_cons (pv 18) pa_nil)))))
    (pss_cons (ps_if (pt_cmpR op_gt (pe_ix ix_tup (C8.pe_c c_cheapest hr (by decide) rfl (pa_cons (pv 3) (pa_cons (pv 19) pa_nil))) pe_int (fun _ _ => rfl)) (pe_op op_add (pv 14) (pe_ix ix_tup (C8.pe_c c_cheapest hr (by decide) rfl (pa_cons (pv 3) (pa_cons (pv 18) pa_nil))) pe_int (fun _ _ => rfl))) (nomark _)) (pss_one (ps_ret pe_bl)) pss_nil)
    (pss_one (ps_if (pt_cmpR op_gt (C8.pe_c c_fewest hr (by decide) rfl (pa_cons (pv 3) (pa_cons (pv 19) pa_nil))) (pe_op op_add (C8.pe_c c_fewest hr (by decide) rfl (pa_cons (pv 3) (pa_cons (pv 4) pa_nil))) (C8.pe_c c_fewest hr (by decide) rfl (pa_cons (pv 3) (pa_cons (pv 18) pa_nil)))) (nomark _)) (pss_one (ps_ret pe_bl)) pss_nil)))))))))))))))))))))
    (pss_one (ps_ret pe_bl)))), ?_⟩
  refine ⟨_, rfl, a, ns, rfl, hS, h63, fun p q z H1 s1 B1 np nq => ?_⟩
  refine ⟨4, rfl, by decide, by decide, for_range (lo := 0) (n := 4) (fun i σ H2 => ∃ (o2 o3 o4 o5 o6 o7 o8 o9 o10 o11 o12 o13 o14 o15 o16 o17 o18 o19 : Option V) (ns2 : List Int) (z2 : Int), σ = [some (.ref a), some (.ref p), o2, o3, o4, o5, o6, o7, o8, o9, o10, o11, o12, o13, o14, o15, o16, o17, o18, o19, none, none, none] ∧ BoxAt H2 p q ns2 z2 ∧ Tabs T H2)
    ⟨_, _, _, _, _, _, _, _, _, _, _, _, _, _, _, _, _, _, ns, z, rfl, B1, Tabs.same hT0 s1⟩ ?_ (fun σ H2 _ => kk H2)⟩
  rintro i σ H2 hi ⟨o2, o3, o4, o5, o6, o7, o8, o9, o10, o11, o12, o13, o14, o15, o16, o17, o18, o19, ns2, z2, rfl, B2, T2⟩
  -- the plan, the triple
  refine ⟨_, rfl, p, q, ns2, z2, 9, 4, rfl, B2, by decide, by decide, by decide, by decide, fun pl0 v0 ns3 z3 H3 ok0 hR hM hp3 B3 k3 => ?_⟩
  refine ⟨_, rfl, _, rfl, p, q, ns3, z3, v0, pl0, rfl, B3, hp3, ok0, fun t0 u0 ns4 z4 H4 tok0 ht4 B4 k4 => ?_⟩
  have hp4 := hp3.keep B3 k4
  have T4 := Tabs.keep (Tabs.keep T2 B2 k3) B3 k4
  refine gn ?_
  dsimp only
  refine seq_by (fun σ' H' => ∃ (pl : Pl) (v : V) (t : Tr) (u : V) (o5 : Option V) (ns5 : List Int) (z5 : Int), σ' = [some (.ref a), some (.ref p), some (.int (0 + (i : Int))), some v, some u, o5, o6, o7, o8, o9, o10, o11, o12, o13, o14, o15, o16, o17, o18, o19, none, none, none] ∧ pl.Ok ∧ PlanAt H' v pl ∧ TrOk pl.room pl.many t ∧ TripAt H' u t ∧ BoxAt H' p q ns5 z5 ∧ Tabs T H') (fun R hR => ?_) ?_
  · have r1 := ok0.r1
    have r9 := ok0.r9
    have m1 := ok0.m1
    obtain ⟨pa, pb, rfl, hpa, hpb⟩ := id hp4
    refine ⟨_, rfl, p, q, ns4, z4, 4, rfl, B4, by decide, p9 (by decide), fun r ns5 z5 H5 q0 q1 B5 k5 => ?_⟩
    have T5 := Tabs.keep T4 B4 k5
    have hp5 := hp4.keep B4 k5
    have ht5 := ht4.keep B4 k5
    have t45 := k5.tups B4
    refine ⟨rfl, _, rfl, ite2 (fun c => ?_) (fun c => iteF (hR _ _ ⟨pl0, .ref pa, t0, u0, o5, ns5, z5, rfl, ok0, hp5, tok0, ht5, B5, T5⟩))⟩
    refine ⟨_, rfl, pa, _, 0, _, rfl, rfl, SqT.of (t45 _ _ hpa), rfl, _, _, rfl, rfl, _, rfl, ite2 (fun c2 => ?_) (fun c2 => hR _ _ ⟨pl0, .ref pa, t0, u0, o5, ns5, z5, rfl, ok0, hp5, tok0, ht5, B5, T5⟩)⟩
    have c2' : (1 : Int) < (pl0.room : Int) := of_decide_eq_true c2
    refine ⟨_, rfl, _, rfl, pa, _, 0, _, rfl, rfl, SqT.of (t45 _ _ hpa), rfl, _, _, rfl, rfl, p, q, ns5, z5, (pl0.room : Int) - 1, rfl, B5, by omega, p9 (by omega), fun r2 ns6 z6 H6 q2 q3 B6 k6 => ⟨_, _, rfl, rfl, ?_⟩⟩
    obtain ⟨R2, rfl⟩ : ∃ R2 : Nat, r2 = (R2 : Int) := ⟨r2.toNat, by omega⟩
    have T6 := Tabs.keep T5 B5 k6
    have hp6 := hp5.keep B5 k6
    obtain ⟨pa', pb', e, hpa6, hpb6⟩ := id hp6
    cases e
    obtain ⟨x0, l0, e0⟩ : ∃ (x0 : Int) (l0 : List Int), pl0.pr = x0 :: l0 := by
      cases e : pl0.pr with
      | nil => exact absurd e ok0.ne
      | cons x l => exact ⟨x, l, rfl⟩
    have hl0 : l0.length + 1 = pl0.many := by
      have := ok0.pl
      rw [e0] at this
      simpa using this
    refine ⟨_, rfl, _, rfl, pa, _, rfl, SqT.of hpa6, fun w => absurd w (show ¬ (HT.sIx 4 0 none = 0 ∧ HT.sIx 4 4 (some 2) = 4) by decide), fun _ S1 hS1 => ?_⟩
    have sS1 := Same.new hS1 (.tup (cutV [V.int pl0.room, V.int pl0.many, V.ref pb', V.int pl0.pop] none (some 2)))
    refine ⟨_, rfl, by show 1 ≤ sizeLine; decide, fun F1 ob1 hob1 hF1 => ?_⟩
    have sF1 := Same.new hF1 (.frz ob1 (.tup [.int (1 + (R2 : Int))]))
    have s6_8 := sS1.trans sF1
    refine ⟨_, rfl, pa, _, 2, _, rfl, rfl, SqT.of (s6_8 _ _ hpa6), rfl, _, rfl, pb', _, rfl, (PrAt.mono hpb6 s6_8).sq, fun w => ?_, fun _ S2 hS2 => ?_⟩
    · rw [e0] at w
      have e1 : HT.sIx ((x0 :: l0).map V.int).length 0 (some 1) = 1 := by
        have := HT.sIx_nat ((x0 :: l0).map V.int).length 0 1
        rw [show ((1 : Nat) : Int) = 1 from rfl] at this
        rw [this]
        simp
      have := w.1
      rw [e1] at this
      cases this
    have sS2 := Same.new hS2 (.tup (cutV (pl0.pr.map V.int) (some 1) none))
    refine catF_by ⟨F1, S2, _, _, rfl, rfl, ⟨ob1, hob1, sS2 _ _ upd_same⟩, SqT.of upd_same, by simp, ?_, fun C1 H9 s9 hC1 => ?_⟩
    · rw [e0, cut_tail, List.length_map]
      exact sz (by have := ok0.m4; show 1 + l0.length ≤ 100000; omega)
    rw [e0, cut_tail] at hC1
    have s6_9 := s6_8.trans (sS2.trans s9)
    refine ⟨_, rfl, pa, _, 0, _, rfl, rfl, SqT.of (s6_9 _ _ hpa6), rfl, _, rfl, _, _, rfl, rfl, by show 2 ≤ sizeLine; decide, fun U1 hU1 => ?_⟩
    have sU1 := Same.new hU1 (.tup [.ref C1, .int ((pl0.room : Int) - (1 + (R2 : Int)))])
    refine ⟨S1, U1, _, _, rfl, rfl, SqT.of ((sF1.trans (sS2.trans (s9.trans sU1))) _ _ upd_same), SqT.of upd_same, by show 2 + 2 ≤ sizeLine; decide, (fun w => by cases w), (fun _ w => by cases w), fun _ _ V1 hV1 => ?_⟩
    have sV1 := Same.new hV1 (.tup (cutV [V.int pl0.room, V.int pl0.many, V.ref pb', V.int pl0.pop] none (some 2) ++ [.ref C1, .int ((pl0.room : Int) - (1 + (R2 : Int)))]))
    have eL : (1 : Int) + (R2 : Int) = ((R2 + 1 : Nat) : Int) := by omega
    refine ⟨_, rfl, [97], R2 + 1, congrArg V.str s_a, congrArg V.int eL, by show 1 * (R2 + 1) ≤ _; omega, by omega, by show 3 ≤ sizeLine; decide, fun W1 hW1 => ?_⟩
    have sW1 := Same.new hW1 (.tup [.int 0, .int 0, .str (tx (List.replicate (R2 + 1) [97]).flatten)])
    have s6_12 := s6_9.trans (sU1.trans (sV1.trans sW1))
    refine hR _ _ ⟨⟨pl0.room, pl0.many, (1 + (R2 : Int)) :: l0, (pl0.room : Int) - (1 + (R2 : Int))⟩, .ref V1, ⟨0, 0, List.replicate (R2 + 1) 97⟩, .ref W1, some (.int (1 + (R2 : Int))), ns6, z6, rfl, ⟨r1, r9, m1, ok0.m4, hl0, fun x hx => ?_, ?_, ?_⟩, ⟨V1, C1, rfl, sW1 _ _ upd_same, ?_⟩, ⟨Nat.zero_le _, ?_, fun _ => rfl, fun c hc => ?_⟩, ⟨W1, rfl, ?_⟩, B6.mono s6_12, Tabs.same T6 s6_12⟩
    · rcases List.mem_cons.mp hx with h | h
      · rw [h]
        omega
      · exact ok0.pr x (by rw [e0]; exact List.mem_cons_of_mem _ h)
    · show 1 ≤ (pl0.room : Int) - (1 + (R2 : Int))
      omega
    · show (pl0.room : Int) - (1 + (R2 : Int)) ≤ 99
      omega
    · exact PrAt.mono hC1 (sU1.trans (sV1.trans sW1))
    · show 0 + (List.replicate (R2 + 1) 97).length ≤ pl0.room
      rw [List.length_replicate]
      omega
    · have e1 : c = 97 := List.eq_of_mem_replicate hc
      rw [e1]
      exact (signs_mem ok0.m4).mpr ⟨by omega, by show 97 < 97 + pl0.many; omega⟩
    · rw [upd_same, rep_flat]
      rfl
  rintro σ H5 ⟨pl, v, t, u, o5', ns5, z5, rfl, ok, hp, tok, ht, B5, T5⟩
  have r9 := ok.r9
  have r1 := ok.r1
  have kl := tok.kl
  have gk := tok.gk
  obtain ⟨tA, rfl, hTA⟩ := id ht
  obtain ⟨pa, pb, rfl, hpa, hpb⟩ := id hp
  refine ⟨_, rfl, tA, _, rfl, SqT.of hTA, rfl, _, _, rfl, _, _, rfl, _, _, rfl, rfl, ?_⟩
  refine ⟨_, rfl, pa, _, 0, _, rfl, rfl, SqT.of hpa, rfl, _, rfl, pa, _, 2, _, rfl, rfl, SqT.of hpa, rfl, pb, pl.pr, rfl, hpb.sq, List.length_pos_iff.mpr ok.ne, fun m h1 h2 => ?_⟩
  have e := mnI_of h1 h2
  subst e
  refine ⟨_, rfl, pa, _, 3, _, rfl, rfl, SqT.of hpa, rfl, _, _, rfl, rfl, by show 2 ≤ sizeLine; decide, fun T1 hT1 => ?_⟩
  have sT1 := Same.new hT1 (.tup [.int (pl.room : Int), .int (mnI pl.pr + pl.pop)])
  refine ⟨T1, _, rfl, SqT.of upd_same, rfl, _, _, rfl, _, _, rfl, rfl, ?_⟩
  -- what is paid
  refine ⟨_, rfl, _, rfl, fun D hD => ?_⟩
  have sD := Same.new hD (.lst [])
  have hn : (tx t.l).cps.size = t.l.length := tx_len _
  refine lc_it (walk_str (z := tx t.l)) (fun i H7 => Same H5 H7 ∧ H7 D = some (.lst (((t.l.take i).map (cst pl)).map V.int))) ⟨sT1.trans sD, upd_same⟩ (fun _ _ _ _ => trivial) ?_ ?_
  · rintro j x H7 H8 hj ⟨s7, h7⟩ ⟨rfl, c, hc, rfl⟩
    have hc' : t.l[j]? = some c := by
      rw [← hc]
      simp [tx]
    have hs := tok.s c (List.mem_of_getElem? hc')
    have hD5 : H5 D = none := none_of sT1 hD
    have fin : ∃ acc, H8 D = some (.lst acc) ∧ acc.length < sizeLine ∧ Same H5 (upd H8 D (.lst (acc ++ [V.int (cst pl c)]))) ∧ upd H8 D (.lst (acc ++ [V.int (cst pl c)])) D = some (.lst (((t.l.take (j + 1)).map (cst pl)).map V.int)) := by
      refine ⟨_, h7, ?_, fun b o e => ?_, ?_⟩
      · rw [List.length_map, List.length_map, List.length_take]
        exact szl (by omega)
      · rw [upd_ne (ne_of_none e hD5)]
        exact s7 _ _ e
      · rw [upd_same, sprc_take _ hc', List.map_append]
        rfl
    have z' : ¬ c = 45 := sign_not hs
    obtain ⟨hj, r, hocc⟩ := sign_ix hs
    have hl : c - 97 < pl.pr.length := by
      rw [ok.pl]
      exact hj
    have e : cst pl c = pl.pr[c - 97] := by
      unfold cst
      rw [if_neg z', List.getD_eq_getElem?_getD, List.getElem?_eq_getElem hl]
      rfl
    rw [e] at fin
    refine ⟨rfl, ?_⟩
    refine ⟨_, rfl, pa, _, 2, _, rfl, rfl, SqT.of (s7 _ _ hpa), rfl, ⟨_, rfl⟩, _, rfl, _, _, _, r, rfl, rfl, hocc, ?_⟩
    exact ⟨pb, _, ((c - 97 : Nat) : Int), .int pl.pr[c - 97], rfl, rfl, (PrAt.mono hpb s7).sq, atI_nat (by rw [List.getElem?_map, List.getElem?_eq_getElem hl]; rfl), fin⟩
  rintro H6 ⟨s6, h6⟩
  rw [hn, List.take_of_length_le (Nat.le_refl _)] at h6
  refine ⟨D, _, rfl, SqL.of h6, ?_⟩
  rw [sprc_sum]
  -- the paths
  refine ⟨_, rfl, _, rfl, _, rfl, _, _, rfl, rfl, _, rfl, _, rfl, _, rfl, by rw [tx_len]; exact sz (by omega), _, _, rfl, _, _, rfl, rfl, by show 2 ≤ sizeLine; decide, fun T2 hT2 => ⟨by show 1 ≤ sizeLine; decide, fun D2 hD2 => ?_⟩⟩
  have sT2 := Same.new hT2 (.tup [.int (t.g : Int), .int ((pl.room : Int) - (t.k : Int) - (if (((tx t.l).length : Nat) : Int) > (t.g : Int) then (((tx t.l).length : Nat) : Int) else (t.g : Int)))])
  have sD2 := Same.new hD2 (.lst [.ref T2])
  have s67 := s6.trans (sT2.trans sD2)
  have hD2' : upd (upd H6 T2 (.tup [.int (t.g : Int), .int ((pl.room : Int) - (t.k : Int) - (if (((tx t.l).length : Nat) : Int) > (t.g : Int) then (((tx t.l).length : Nat) : Int) else (t.g : Int)))])) D2 (.lst [.ref T2]) D2 = some (.lst [.ref T2]) := upd_same
  have hT2' := sD2 _ _ (upd_same (H := H6) (a := T2) (o := .tup [.int (t.g : Int), .int ((pl.room : Int) - (t.k : Int) - (if (((tx t.l).length : Nat) : Int) > (t.g : Int) then (((tx t.l).length : Nat) : Int) else (t.g : Int)))]))
  refine gn ?_
  dsimp only
  refine seq_by (fun σ' H' => ∃ (D3 : Addr) (xs : List V), σ' = [some (.ref a), some (.ref p), some (.int (0 + (i : Int))), some (.ref pa), some (.ref tA), o5', some (.int (t.g : Int)), some (.int (t.k : Int)), some (.str (tx t.l)), some (.int (pl.room : Int)), some (.int (mnI pl.pr + pl.pop)), some (.int (sprc (cst pl) t.l)), some (.ref D3), o13, o14, o15, o16, o17, o18, o19, none, none, none] ∧ Same H5 H' ∧ H' D3 = some (.lst xs) ∧ PairsAt H' (SK.ways pl.room t) xs) (fun R hR => ?_) ?_
  · refine ⟨_, rfl, rfl, _, rfl, ite2 (fun c => ?_) (fun c => ?_)⟩
    · have k0 : t.k = 0 := by
        have c1 := of_decide_eq_true c
        injection c1 with c2
        omega
      have e : (pl.room : Int) - (((tx t.l).length : Nat) : Int) = ((pl.room - t.l.length : Nat) : Int) := by
        rw [tx_len]
        omega
      refine ⟨_, rfl, _, rfl, _, rfl, by rw [tx_len]; exact sz (by omega), _, _, rfl, rfl, by show 2 ≤ sizeLine; decide, fun T3 hT3 => ?_⟩
      have sT3 := Same.new hT3 (.tup [.int 0, .int ((pl.room : Int) - (((tx t.l).length : Nat) : Int))])
      refine ⟨_, rfl, by show 2 ≤ sizeLine; decide, fun T4 hT4 => ⟨by show 2 ≤ sizeLine; decide, fun D3 hD3 => ?_⟩⟩
      have sT4 := Same.new hT4 (.tup [.int (pl.room : Int), .int 0])
      have sD3 := Same.new hD3 (.lst [.ref T3, .ref T4])
      refine hR _ _ ⟨D3, _, rfl, s67.trans (sT3.trans (sT4.trans sD3)), upd_same, ?_⟩
      unfold SK.ways
      rw [if_pos k0]
      refine ⟨T3, _, rfl, ?_, T4, _, rfl, sD3 _ _ upd_same, rfl⟩
      show _ = some (HO.tup [V.int 0, V.int ((pl.room - t.l.length : Nat) : Int)])
      rw [← e]
      exact sD3 _ _ (sT4 _ _ upd_same)
    · have k0 : ¬ t.k = 0 := fun z => c (decide_eq_true (by rw [z]; rfl))
      have e : (pl.room : Int) - (t.k : Int) - (if (((tx t.l).length : Nat) : Int) > (t.g : Int) then (((tx t.l).length : Nat) : Int) else (t.g : Int)) = ((phi pl.room t : Nat) : Int) := by
        rw [tx_len]
        unfold phi
        split <;> omega
      refine hR _ _ ⟨D2, _, rfl, s67, hD2', ?_⟩
      unfold SK.ways
      rw [if_neg k0]
      exact pairs1 (hT2'.trans (congrArg (fun z => some (HO.tup [V.int (t.g : Int), V.int z])) e))
  rintro σ H8 ⟨D3, xs, rfl, s8, hx, hP⟩
  have hlen := hP.len
  have hwl : (SK.ways pl.room t).length ≤ 2 := by unfold SK.ways; split <;> simp
  have hw0 : 0 < (SK.ways pl.room t).length := by unfold SK.ways; split <;> simp
  have e64 : (2 : Int) ^ 64 = 18446744073709551616 := by decide
  have q1 := ok.q1
  have q9 := ok.q9
  -- the sums
  refine ⟨_, rfl, D3, rfl, ⟨xs, SqL.of hx⟩, fun D4 hD4 => ?_⟩
  refine lc_it (walk_list (a := D3) (xs := xs)) (fun i H9 => Same H8 H9 ∧ H9 D4 = some (.lst (((SK.ways pl.room t).take i).map fun w => V.int (wsum pl t w)))) ⟨Same.new hD4 _, upd_same⟩ (fun i H9 _ h9 => SqL.of (h9.1 _ _ hx)) ?_ ?_
  · rintro j x H9 H10 hj ⟨s9, h9⟩ ⟨rfl, hxj⟩
    obtain ⟨w0, aw, hw, rfl, haw⟩ := hP.get hxj
    have hw9 := ways_le ok tok (List.mem_of_getElem? hw)
    refine ⟨aw, _, rfl, SqT.of (s9 _ _ haw), rfl, _, _, rfl, _, _, rfl, rfl, rfl, ?_⟩
    refine ⟨_, rfl, _, rfl, pa, _, 3, _, rfl, rfl, SqT.of (s9 _ _ (s8 _ _ hpa)), rfl, _, _, rfl, rfl, .inl (by rw [e64]; omega), _, rfl, _, _, rfl, rfl, _, rfl, _, rfl, _, _, rfl, rfl, .inl (by rw [e64]; omega), _, _, rfl, rfl, ?_⟩
    refine ⟨_, h9, by rw [List.length_map, List.length_take]; exact szl (by omega), fun b o e => ?_, ?_⟩
    · rw [upd_ne (ne_of_none e hD4)]
      exact s9 b o e
    · rw [upd_same, List.take_add_one, hw, List.map_append]
      rfl
  rintro H9 ⟨s9, h9⟩
  rw [hlen, List.take_of_length_le (Nat.le_refl _)] at h9
  have h9' : SqL K H9 D4 (((SK.ways pl.room t).map (wsum pl t)).map V.int) := SqL.of (by rw [h9, List.map_map]; rfl)
  have hml : 0 < ((SK.ways pl.room t).map (wsum pl t)).length := by rw [List.length_map]; exact hw0
  have s5_9 := s8.trans s9
  -- cheapest
  refine ⟨_, rfl, _, rfl, .ref pa, pl, .ref tA, t, rfl, hp.mono s5_9, ok, ht.mono s5_9, tok, Tabs.same T5 s5_9, fun A1 H10 e10 T10 hA1 => ?_⟩
  have e5_10 : ExtN H5 H10 := (ExtN.ofS s5_9).trans e10
  refine ⟨A1, _, rfl, SqT.of hA1, rfl, _, _, rfl, _, _, rfl, rfl, ?_⟩
  have sq10 : SqL K H10 D4 (((SK.ways pl.room t).map (wsum pl t)).map V.int) := SqL.of (e10 _ _ (by rw [h9, List.map_map]; rfl) (by intro ps z; cases z))
  refine ⟨_, rfl, _, rfl, D4, _, rfl, sq10, hml, fun m h1 h2 => ?_⟩
  have em := sums_min h1 h2
  subst em
  have hp10 := hp.ext e5_10
  have ht10 := ht.ext e5_10
  refine ⟨rfl, _, rfl, iteNS rfl ?_⟩
  -- fillers
  refine ⟨_, rfl, _, rfl, .ref pa, pl, .ref tA, t, rfl, hp10, ok, ht10, tok, T10, fun H11 e11 T11 => ?_⟩
  have e5_11 := e5_10.trans e11
  have hx11 : H11 D3 = some (.lst xs) := e11 _ _ (e10 _ _ (s9 _ _ hx) (by intro ps z; cases z)) (by intro ps z; cases z)
  have sq11 : SqL K H11 D4 (((SK.ways pl.room t).map (wsum pl t)).map V.int) := SqL.of (e11 _ _ (e10 _ _ (by rw [h9, List.map_map]; rfl) (by intro ps z; cases z)) (by intro ps z; cases z))
  have hP11 : PairsAt H11 (SK.ways pl.room t) xs := (hP.tups (Tups.of s9)).tups (Tups.ofN (e10.trans e11))
  obtain ⟨jj, w0, hw, hwm, hno, hch⟩ := sums_idx pl t
  have hjj : jj < xs.length := by
    rw [hlen]
    exact (List.getElem?_eq_some_iff.mp hw).1
  obtain ⟨w1, aw, hw1, hxw, haw⟩ := hP11.get (List.getElem?_eq_getElem hjj)
  have ew : w1 = w0 := Option.some.inj (hw1.symm.trans hw)
  subst ew
  refine ⟨_, rfl, _, rfl, .inl ⟨rfl, _, sq11⟩, _, rfl, D4, _, rfl, sq11, hml, fun m2 h3 h4 => ?_⟩
  have em2 := sums_min h3 h4
  subst em2
  refine ⟨D4, _, _, jj, .int (wsum pl t w1), rfl, rfl, sq11, rfl, flat_ints _, by rw [List.getElem?_map, List.getElem?_map, hw]; rfl, by rw [hwm]; exact beq_self_eq_true (LB pl.room (mnI pl.pr) pl.pop (cst pl) t), fun m3 z3 hm3 hz3 => ?_, ?_⟩
  · rw [List.getElem?_map, List.getElem?_map] at hz3
    cases hq : (SK.ways pl.room t)[m3]? with
    | none => rw [hq] at hz3; cases hz3
    | some w3 =>
      rw [hq] at hz3
      cases hz3
      exact beq_eq_false_iff_ne.mpr (hno m3 w3 hm3 hq)
  refine ⟨D3, xs, ((jj : Nat) : Int), _, rfl, rfl, SqL.of hx11, atI_nat (List.getElem?_eq_getElem hjj), ?_⟩
  rw [hxw]
  refine ⟨aw, _, 1, _, rfl, rfl, SqT.of haw, rfl, ?_⟩
  rw [hch]
  refine ⟨rfl, _, rfl, iteNS rfl ?_⟩
  -- how few
  refine ⟨_, rfl, D3, rfl, ⟨xs, SqL.of hx11⟩, fun D5 hD5 => ?_⟩
  refine lc_it (walk_list (a := D3) (xs := xs)) (fun i H12 => Same H11 H12 ∧ H12 D5 = some (.lst (((SK.ways pl.room t).take i).map fun w => V.int (wfew pl t w)))) ⟨Same.new hD5 _, upd_same⟩ (fun i H12 _ h12 => SqL.of (h12.1 _ _ hx11)) ?_ ?_
  · rintro j x H12 H13 hj ⟨s12, h12⟩ ⟨rfl, hxj⟩
    obtain ⟨w0, aw0, hw0', rfl, haw0⟩ := hP11.get hxj
    refine ⟨aw0, _, rfl, SqT.of (s12 _ _ haw0), rfl, _, _, rfl, _, _, rfl, rfl, rfl, ?_⟩
    refine ⟨_, rfl, _, rfl, _, _, rfl, rfl, _, _, rfl, rfl, .inl ⟨by decide, by decide⟩, _, rfl, _, rfl, _, rfl, by rw [tx_len]; exact sz (by omega), _, _, rfl, rfl, _, rfl, _, _, rfl, rfl, ?_⟩
    refine ⟨_, h12, by rw [List.length_map, List.length_take]; exact szl (by omega), fun b o e => ?_, ?_⟩
    · rw [upd_ne (ne_of_none e hD5)]
      exact s12 b o e
    · rw [upd_same, List.take_add_one, hw0', List.map_append]
      rfl
  rintro H12 ⟨s12, h12⟩
  rw [hlen, List.take_of_length_le (Nat.le_refl _)] at h12
  refine ⟨D5, (SK.ways pl.room t).map (wfew pl t), rfl, SqL.of (by rw [h12, List.map_map]; rfl), by rw [List.length_map]; exact hw0, fun m5 h5 h6 => ?_⟩
  have em5 := few2_of tok h5 h6
  subst em5
  have e5_12 := e5_11.trans (ExtN.ofS s12)
  have hp12 := hp.ext e5_12
  have ht12 := ht.ext e5_12
  -- fewest, told, judged
  refine ⟨_, rfl, _, rfl, .ref pa, pl, .ref tA, t, rfl, hp12, ok, ht12, tok, fun H13 s13 => ⟨_, rfl, rfl, _, rfl, iteNS rfl ?_⟩⟩
  refine ⟨_, rfl, _, rfl, .ref pa, pl, chS pl t, rfl, hp12.mono s13, ok, by have := chS_len ok tok; omega, chS_in ok tok, fun H14 v14 s14 h14 => ?_⟩
  rw [chS_told ok tok] at h14
  have s12_14 := s13.trans s14
  refine ⟨_, rfl, ne_trip tok h14 (ht12.mono s12_14) ⟨_, rfl, iteF ?_⟩⟩
  refine ⟨_, rfl, _, rfl, _, rfl, .ref pa, pl, .ref tA, t, chS pl t, rfl, hp12.mono s12_14, ok, ht12.mono s12_14, tok, by have := chS_len ok tok; omega, chS_in ok tok, chS_told ok tok, fun H15 s15 => ⟨_, rfl, rfl, _, rfl, iteNS (congrArg V.int (chS_price ok t)) ?_⟩⟩
  have s12_15 := s12_14.trans s15
  have e5_15 := e5_12.trans (ExtN.ofS s12_15)
  have hp15 := hp.ext e5_15
  have ht15 := ht.ext e5_15
  have B15 := B5.ext e5_15
  have T15 := Tabs.same (Tabs.same T11 s12) s12_15
  -- a work
  refine ⟨_, rfl, _, rfl, p, q, ns5, z5, .ref pa, pl, 5, 6, 60, rfl, B15, hp15, ok, by decide, by decide, by decide, by decide, by decide, by decide, fun wk u16 ns16 z16 H16 can dep siz ctm hu16 B16 k16 => ?_⟩
  have wok : WOk pl.many wk := ⟨can, siz, by omega⟩
  have hp16 := hp15.keep B15 k16
  have ht16 := ht15.keep B15 k16
  have T16 := Tabs.keep T15 B15 k16
  have okw := W.tri_ok (room := pl.room) ok.r1 wk can
  refine ⟨_, rfl, _, rfl, _, rfl, .ref pa, pl, u16, wk, rfl, hp16, ok, hu16, wok, fun H17 v17 s17 h17 => ⟨.ref pa, pl, v17, _, rfl, hp16.mono s17, ok, h17, okw, Tabs.same T16 s17, fun A2 H18 e18 T18 hA2 => ?_⟩⟩
  have e16_18 := (ExtN.ofS s17).trans e18
  refine ⟨A2, _, 0, _, rfl, rfl, SqT.of hA2, rfl, _, rfl, _, rfl, .ref pa, pl, u16, wk, rfl, hp16.ext e16_18, ok, hu16.tups (Tups.ofN e16_18), wok, fun H19 s19 => ⟨_, _, rfl, rfl, _, rfl, iteDF (Int.not_lt.mpr (LB_work (pay_p ok) ok.r1 can)) ?_⟩⟩
  have e16_19 := e16_18.trans (ExtN.ofS s19)
  have T19 := Tabs.same T18 s19
  have hp19 := hp16.ext e16_19
  have B19 := B16.ext e16_19
  have ht19 := ht16.ext e16_19
  -- another triple, both
  refine ⟨_, rfl, _, rfl, p, q, ns16, z16, .ref pa, pl, rfl, B19, hp19, ok, fun t2 u2 ns20 z20 H20 tok2 ht2 B20 k20 => ?_⟩
  have hp20 := hp19.keep B19 k20
  have ht20 := ht19.keep B19 k20
  have T20 := Tabs.keep T19 B19 k20
  have okj := tjoin_ok tok tok2
  refine ⟨_, rfl, _, rfl, _, rfl, .ref pa, pl, .ref tA, u2, t, t2, rfl, hp20, ok, ht20, tok, ht2, tok2, fun H21 vb s21 hvb => ?_⟩
  have hp21 := hp20.mono s21
  refine ⟨_, rfl, _, rfl, .ref pa, pl, vb, _, rfl, hp21, ok, hvb, okj, Tabs.same T20 s21, fun A3 H22 e22 T22 hA3 => ?_⟩
  refine ⟨A3, _, 0, _, rfl, rfl, SqT.of hA3, rfl, _, rfl, _, rfl, _, rfl, .ref pa, pl, u2, t2, rfl, hp21.ext e22, ok, (ht2.mono s21).ext e22, tok2, T22, fun A4 H23 e23 T23 hA4 => ?_⟩
  have e21_23 := e22.trans e23
  refine ⟨A4, _, 0, _, rfl, rfl, SqT.of hA4, rfl, _, _, rfl, rfl, _, _, rfl, rfl, _, rfl, iteDF (Int.not_lt.mpr (LB_join (pay_p ok) ok.r1 (csg_in ok) (cst_csg ok) tok tok2)) ?_⟩
  have hp23 := hp21.ext e21_23
  refine ⟨_, rfl, _, rfl, .ref pa, pl, vb, _, rfl, hp23, ok, hvb.ext e21_23, okj, fun H24 s24 => ?_⟩
  refine ⟨_, rfl, _, rfl, .ref pa, pl, .ref tA, t, rfl, hp23.mono s24, ok, ((ht20.mono s21).ext e21_23).mono s24, tok, fun H25 s25 => ?_⟩
  have s23_25 := s24.trans s25
  refine ⟨_, rfl, _, rfl, .ref pa, pl, u2, t2, rfl, hp23.mono s23_25, ok, ((ht2.mono s21).ext e21_23).mono s23_25, tok2, fun H26 s26 => ?_⟩
  have s23_26 := s23_25.trans s26
  refine ⟨_, _, rfl, rfl, _, _, rfl, rfl, _, rfl, iteDF (Int.not_lt.mpr (LB_join (pay_1 pl.many) ok.r1 (csg_in ok) rfl tok tok2)) ?_⟩
  exact ⟨_, _, _, _, _, _, _, _, _, _, _, _, _, _, _, _, _, _, ns20, z20, rfl, ((B20.mono s21).ext e21_23).mono s23_26, Tabs.same T23 s23_26⟩
end
/-! ### the end -/
theorem gx_mk {K : PySem.W.Frag} {mg : Str → Option Value} {h : Heap} (X : K.In h) (G : h.Ns mainGlobals mg) {u0 : Value} (v0 : PySem.W.nsIn K mainGlobals "SIGNS" = some (some u0)) (r0 : RelV (.str (tx [97, 98, 99, 100])) u0) {u1 : Value} (v1 : PySem.W.nsIn K mainGlobals "POP_STEP" = some (some u1)) (r1 : RelV (.str (tx [45])) u1) {u2 : Value} (v2 : PySem.W.nsIn K mainGlobals "MOST_ROOM" = some (some u2)) (r2 : RelV (.int 9) u2) {u3 : Value} (v3 : PySem.W.nsIn K mainGlobals "MOST_PRICE" = some (some u3)) (r3 : RelV (.int 99) u3) {u4 : Value} (v4 : PySem.W.nsIn K mainGlobals "MOST_TIMES" = some (some u4)) (r4 : RelV (.int 1000000000000000000) u4) {u5 : Value} (v5 : PySem.W.nsIn K mainGlobals "MOST_WORKS" = some (some u5)) (r5 : RelV (.int 60) u5) {u6 : Value} (v6 : PySem.W.nsIn K mainGlobals "MOST_DEEP" = some (some u6)) (r6 : RelV (.int 8) u6) (z0 : PySem.W.nsIn K mainGlobals "isinstance" = some none) (z1 : PySem.W.nsIn K mainGlobals "bool" = some none) (z2 : PySem.W.nsIn K mainGlobals "int" = some none) (z3 : PySem.W.nsIn K mainGlobals "str" = some none) (z4 : PySem.W.nsIn K mainGlobals "tuple" = some none) (z5 : PySem.W.nsIn K mainGlobals "len" = some none) (z6 : PySem.W.nsIn K mainGlobals "all" = some none) (z7 : PySem.W.nsIn K mainGlobals "max" = some none) (z8 : PySem.W.nsIn K mainGlobals "min" = some none) (z9 : PySem.W.nsIn K mainGlobals "range" = some none) (z10 : PySem.W.nsIn K mainGlobals "list" = some none) (z11 : PySem.W.nsIn K mainGlobals "reversed" = some none) (z12 : PySem.W.nsIn K mainGlobals "sum" = some none) (z13 : PySem.W.nsIn K mainGlobals "abs" = some none) : Gx mg :=
  ⟨⟨_, PySem.W.mg_of X G v0, r0⟩, ⟨_, PySem.W.mg_of X G v1, r1⟩, ⟨_, PySem.W.mg_of X G v2, r2⟩, ⟨_, PySem.W.mg_of X G v3, r3⟩, ⟨_, PySem.W.mg_of X G v4, r4⟩, ⟨_, PySem.W.mg_of X G v5, r5⟩, ⟨_, PySem.W.mg_of X G v6, r6⟩, PySem.W.mg_none_of X G z0, PySem.W.mg_none_of X G z1, PySem.W.mg_none_of X G z2, PySem.W.mg_none_of X G z3, PySem.W.mg_none_of X G z4, PySem.W.mg_none_of X G z5, PySem.W.mg_none_of X G z6, PySem.W.mg_none_of X G z7, PySem.W.mg_none_of X G z8, PySem.W.mg_none_of X G z9, PySem.W.mg_none_of X G z10, PySem.W.mg_none_of X G z11, PySem.W.mg_none_of X G z12, PySem.W.mg_none_of X G z13⟩
theorem all_mk {l : PySem.W.OpenLaw} {w : World} {K : PySem.W.Frag} {h : Heap} {mg : Str → Option Value} {fa fL cW PT : Addr} (X : K.In h) (G : h.Ns mainGlobals mg) (hfa : mg "law" = some (.ref fa))
    {od an : Option Addr} {sl : Array (Option Value)} {oc kV dc pm cd ct : Value}
    (aL : PySem.W.nsIn K mainGlobals "law" = some (some (.ref fL))) (lL : K.lookup fL = some ⟨oc, od, .func (PySem.W.fnOf "law" "law" (defArgs s_law) (defBody s_law) (defScope s_law) .none kV dc pm an cd ct), sl⟩) (cL : PySem.W.codeIn K cd "law" = true) (kL : PySem.W.keepIn K (.ref fL) = true)
    (g : Gx mg)
    (D_signs_of : Dn K mg "signs_of" s_signs_of P_signs_of)
    (D_is_number : Dn K mg "is_number" s_is_number P_is_number)
    (D_is_text_of : Dn K mg "is_text_of" s_is_text_of P_is_text_of)
    (D_are_prices : Dn K mg "are_prices" s_are_prices P_are_prices)
    (D_check_plan : Dn K mg "check_plan" s_check_plan P_check_plan)
    (D_check_steps : Dn K mg "check_steps" s_check_steps P_check_steps)
    (D_is_triple : Dn K mg "is_triple" s_is_triple P_is_triple)
    (D_check_triple : Dn K mg "check_triple" s_check_triple P_check_triple)
    (D_without_top : Dn K mg "without_top" s_without_top P_without_top)
    (D_top_of : Dn K mg "top_of" s_top_of P_top_of)
    (D_tidied : Dn K mg "tidied" s_tidied P_tidied)
    (D_untouched : Dn K mg "untouched" s_untouched P_untouched)
    (D_join_triples : Dn K mg "join_triples" s_join_triples P_join_triples)
    (D_triple_of_step : Dn K mg "triple_of_step" s_triple_of_step P_triple_of_step)
    (D_triple_of_steps : Dn K mg "triple_of_steps" s_triple_of_steps P_triple_of_steps)
    (D_told_of_steps : Dn K mg "told_of_steps" s_told_of_steps P_told_of_steps)
    (D_law_take : Dn K mg "_law_take" s_law_take P_law_take)
    (D_law_begun : Dn K mg "_law_begun" s_law_begun P_law_begun)
    (D_law_plan : Dn K mg "_law_plan" s_law_plan P_law_plan)
    (D_is_work_alone : Dn K mg "is_work_alone" s_is_work_alone P_is_work_alone)
    (D_works_within : Dn K mg "works_within" s_works_within P_works_within)
    (D_power_triple : Dn K mg "power_triple" s_power_triple P_power_triple)
    (D_price_of_step : Dn K mg "price_of_step" s_price_of_step P_price_of_step)
    (D_triple_of_work : Dn K mg "triple_of_work" s_triple_of_work P_triple_of_work)
    (D_price_of_work : Dn K mg "price_of_work" s_price_of_work P_price_of_work)
    (D_check_work : Dn K mg "check_work" s_check_work P_check_work)
    (D_told : Dn K mg "told" s_told P_told)
    (D_cost : Dn K mg "cost" s_cost P_cost)
    (D_joined : Dn K mg "joined" s_joined P_joined)
    (D_law_signs : Dn K mg "_law_signs" s_law_signs P_law_signs)
    (D_law_work : Dn K mg "_law_work" s_law_work P_law_work)
    (D_law_triple : Dn K mg "_law_triple" s_law_triple P_law_triple)
    (D_law_tuples : Dn K mg "_law_tuples" s_law_tuples P_law_tuples)
    (D_law_some : Dn K mg "_law_some" s_law_some P_law_some)
    (D_cheapest_sign : Dn K mg "cheapest_sign" s_cheapest_sign P_cheapest_sign)
    (D_ways : Dn K mg "ways" s_ways P_ways)
    (D_steps_of_way : Dn K mg "steps_of_way" s_steps_of_way P_steps_of_way)
    (D_price_of_steps : Dn K mg "price_of_steps" s_price_of_steps P_price_of_steps)
    (D_fewest : Dn K mg "fewest" s_fewest P_fewest)
    (D_judged : Dn K mg "judged" s_judged P_judged)
    (D_cheapest_way : DnL K mg "cheapest_way" s_cheapest_way P_cheapest_way cW)
    (D_cheapest : Dn K mg "cheapest" s_cheapest P_cheapest)
    (D_fillers : Dn K mg "fillers" s_fillers P_fillers) :
    ∃ fd : FuncData, (∀ (s : Shared) (v : Value), BindsTo s fd ⟨[v], []⟩ [("_law_script", v)]) ∧ ∀ base : Heap, K.In base → base.Ns mainGlobals mg → LamX.TabB base mg cW PT → FnOk l.prog w K mg base CX0 13 fa fd ["_law_script"] (spLawT K [(PT, lamQ)]) := by
  have e := hfa.symm.trans (PySem.W.mg_of X G aL)
  cases e
  have F := fun_mk (st := s_law) lL cL kL
  refine ⟨PySem.W.fnOf "law" "law" (defArgs s_law) (defBody s_law) (defScope s_law) .none kV dc pm an cd ct, fun s v => .of_eq rfl, fun base _ _ TB => ?_⟩
  have c_signs_of := ok_signs_of (P := l.prog) (w := w) (base := base) D_signs_of g
  have c_is_number := ok_is_number (P := l.prog) (w := w) (base := base) D_is_number g
  have c_is_text_of := ok_is_text_of (P := l.prog) (w := w) (base := base) D_is_text_of g
  have c_are_prices := ok_are_prices (P := l.prog) (w := w) (base := base) D_are_prices g c_is_number
  have c_check_plan := ok_check_plan (P := l.prog) (w := w) (base := base) D_check_plan g c_is_number c_are_prices
  have c_check_steps := ok_check_steps (P := l.prog) (w := w) (base := base) D_check_steps g c_signs_of c_is_text_of
  have c_is_triple := ok_is_triple (P := l.prog) (w := w) (base := base) D_is_triple g c_is_number c_signs_of c_is_text_of
  have c_check_triple := ok_check_triple (P := l.prog) (w := w) (base := base) D_check_triple g c_is_triple
  have c_without_top := ok_without_top (P := l.prog) (w := w) (base := base) D_without_top g
  have c_top_of := ok_top_of (P := l.prog) (w := w) (base := base) D_top_of g
  have c_tidied := ok_tidied (P := l.prog) (w := w) (base := base) D_tidied g
  have c_untouched := ok_untouched (P := l.prog) (w := w) (base := base) D_untouched g
  have c_join_triples := ok_join_triples (P := l.prog) (w := w) (base := base) D_join_triples g c_without_top c_top_of c_tidied
  have c_triple_of_step := ok_triple_of_step (P := l.prog) (w := w) (base := base) D_triple_of_step g c_tidied
  have c_triple_of_steps := ok_triple_of_steps (P := l.prog) (w := w) (base := base) D_triple_of_steps g c_untouched c_triple_of_step c_join_triples
  have c_told_of_steps := ok_told_of_steps (P := l.prog) (w := w) (base := base) D_told_of_steps g c_check_plan c_check_steps c_triple_of_steps
  have c_law_take := ok_law_take (P := l.prog) (w := w) (base := base) D_law_take g
  have c_law_begun := ok_law_begun (P := l.prog) (w := w) (base := base) D_law_begun g
  have c_law_plan := ok_law_plan (P := l.prog) (w := w) (base := base) D_law_plan g c_law_take
  have c_is_work_alone := ok_is_work_alone (P := l.prog) (w := w) (base := base) D_is_work_alone g c_is_number
  have c_works_within := ok_works_within (P := l.prog) (w := w) (base := base) D_works_within g
  have c_power_triple := ok_power_triple (P := l.prog) (w := w) (base := base) D_power_triple g c_untouched c_join_triples
  have c_price_of_step := ok_price_of_step (P := l.prog) (w := w) (base := base) D_price_of_step g
  have c_triple_of_work := ok_triple_of_work (P := l.prog) (w := w) (base := base) D_triple_of_work g c_triple_of_step c_power_triple c_untouched c_join_triples 8
  have c_price_of_work := ok_price_of_work (P := l.prog) (w := w) (base := base) D_price_of_work g c_price_of_step 8
  have c_check_work := ok_check_work (P := l.prog) (w := w) (base := base) D_check_work g c_signs_of c_is_work_alone c_works_within
  have c_told := ok_told (P := l.prog) (w := w) (base := base) D_told g c_check_plan c_check_work c_triple_of_work
  have c_cost := ok_cost (P := l.prog) (w := w) (base := base) D_cost g c_check_plan c_check_work c_price_of_work
  have c_joined := ok_joined (P := l.prog) (w := w) (base := base) D_joined g c_check_plan c_check_triple c_join_triples
  have c_law_signs := ok_law_signs (P := l.prog) (w := w) (base := base) D_law_signs g c_law_take
  have c_law_work := ok_law_work (P := l.prog) (w := w) (base := base) D_law_work g c_law_take 8
  have c_law_triple := ok_law_triple (P := l.prog) (w := w) (base := base) D_law_triple g c_law_take c_law_signs
  have c_law_tuples := ok_law_tuples (P := l.prog) (w := w) (base := base) D_law_tuples g 8
  have c_law_some := ok_law_some (P := l.prog) (w := w) (base := base) D_law_some g c_law_work c_law_tuples
  have c_cheapest_sign := ok_cheapest_sign (P := l.prog) (w := w) (base := base) D_cheapest_sign g
  have c_ways := ok_ways (P := l.prog) (w := w) (base := base) D_ways g
  have c_steps_of_way := ok_steps_of_way (P := l.prog) (w := w) (base := base) D_steps_of_way g c_cheapest_sign
  have c_price_of_steps := ok_price_of_steps (P := l.prog) (w := w) (base := base) D_price_of_steps g c_price_of_step
  have c_fewest := ok_fewest (P := l.prog) (w := w) (base := base) D_fewest g c_check_plan c_check_triple c_ways
  have c_judged := ok_judged (P := l.prog) (w := w) (base := base) D_judged g c_check_plan c_check_triple c_check_steps c_triple_of_steps c_price_of_steps
  have c_cheapest_way := ok_cheapest_way (P := l.prog) (w := w) (base := base) D_cheapest_way TB g c_ways
  have c_cheapest := ok_cheapest (P := l.prog) (w := w) (base := base) D_cheapest g c_check_plan c_check_triple c_cheapest_way c_steps_of_way c_price_of_steps
  have c_fillers := ok_fillers (P := l.prog) (w := w) (base := base) D_fillers g c_check_plan c_check_triple c_cheapest_way
  exact ok_law F g c_law_begun c_law_plan c_law_triple c_law_take c_cheapest c_fillers c_fewest c_told_of_steps c_judged c_law_some c_told c_cost c_joined
theorem law_at {l : PySem.W.OpenLaw} {w : World} {K : PySem.W.Frag} {h : Heap} {mg : Str → Option Value} {fa cL PT : Addr} {k : Nat} (hE : h.get? PT = some { cls := .none, data := .fields #[] }) (hN : K.lookup PT = none) (hC : PySem.W.codeHdIn K cL PT = true) (KX : K.In h)
    (A : ∃ fd : FuncData, (∀ (s : Shared) (v : Value), BindsTo s fd ⟨[v], []⟩ [("_law_script", v)]) ∧ ∀ base : Heap, K.In base → base.Ns mainGlobals mg → LamX.TabB base mg cL PT → FnOk l.prog w K mg base CX0 k fa fd ["_law_script"] (spLawT K [(PT, lamQ)])) : LamX.LawAtS l w K CX0 k 63 "_law_script" mg fa h := by
  obtain ⟨fd, hb, hF⟩ := A
  refine ⟨fd, [(cL, PT)], spLawT K [(PT, lamQ)], fun p hp => ?_, fun p hp => ?_, fun p hp => ?_, hb, fun H a ns hl _ hH hS => ⟨a, ns, rfl, hS, hl, fun p hp => ?_, fun _ => rfl⟩, fun base b1 b2 b3 => hF base b1 b2 (b3 _ (List.mem_singleton.mpr rfl))⟩
  · rw [List.mem_singleton.mp hp]
    exact hE
  · rw [List.mem_singleton.mp hp]
    exact hN
  · rw [List.mem_singleton.mp hp]
    exact PySem.W.codeHd_of_K KX hC
  · rw [List.mem_singleton.mp hp]
    exact LamX.TabS.nil (hH _ (List.mem_singleton.mpr rfl))
end SK
open PySem PySem.W PyProof.Rows
set_option maxRecDepth 100000 in
set_option maxHeartbeats 0 in
theorem PySem.Challenge.cw_sinkstack_k06_whole_one_told_price_holds : PySem.Challenge.rw_sinkstack_k06_whole_one_told_price.Holds := by
  w_on; o_law; k_head; (case hw => w_witness2)
  k_fill
  refine LamX.walk_ofTs (n := 63) (k := 13) (x := "_law_script") (CX := fun _ => L2.CX0) rfl (by decide) rfl ⟨rfl, by decide, by decide⟩ (fun w h Y => PySem.W.km_in_of Y) ?F (fun _ _ _ _ _ z => z)
  case F =>
    intro w mg fa h Y KX G hmg
    have hT8 := PySem.W.km_tabs_of Y
    refine' SK.law_at (hT8 _ (List.mem_cons_self ..)) ?hN ?hC KX ?A
    case A =>
     refine' SK.all_mk KX G hmg ?aL ?lL ?cL ?kL (SK.gx_mk KX G ?v0 ?r0 ?v1 ?r1 ?v2 ?r2 ?v3 ?r3 ?v4 ?r4 ?v5 ?r5 ?v6 ?r6 ?z0 ?z1 ?z2 ?z3 ?z4 ?z5 ?z6 ?z7 ?z8 ?z9 ?z10 ?z11 ?z12 ?z13)
      (SK.dn_mk KX G ?a0 ?l0 ?c0 ?k0 (fun _ _ _ _ _ _ us hl => match us, hl with | [_], _ => rfl))
      (SK.dn_mk KX G ?a1 ?l1 ?c1 ?k1 (fun _ _ _ _ _ _ us hl => match us, hl with | [_, _, _], _ => rfl))
      (SK.dn_mk KX G ?a2 ?l2 ?c2 ?k2 (fun _ _ _ _ _ _ us hl => match us, hl with | [_, _], _ => rfl))
      (SK.dn_mk KX G ?a3 ?l3 ?c3 ?k3 (fun _ _ _ _ _ _ us hl => match us, hl with | [_, _], _ => rfl))
      (SK.dn_mk KX G ?a4 ?l4 ?c4 ?k4 (fun _ _ _ _ _ _ us hl => match us, hl with | [_], _ => rfl))
      (SK.dn_mk KX G ?a5 ?l5 ?c5 ?k5 (fun _ _ _ _ _ _ us hl => match us, hl with | [_, _], _ => rfl))
      (SK.dn_mk KX G ?a6 ?l6 ?c6 ?k6 (fun _ _ _ _ _ _ us hl => match us, hl with | [_, _], _ => rfl))
      (SK.dn_mk KX G ?a7 ?l7 ?c7 ?k7 (fun _ _ _ _ _ _ us hl => match us, hl with | [_, _], _ => rfl))
      (SK.dn_mk KX G ?a8 ?l8 ?c8 ?k8 (fun _ _ _ _ _ _ us hl => match us, hl with | [_, _], _ => rfl))
      (SK.dn_mk KX G ?a9 ?l9 ?c9 ?k9 (fun _ _ _ _ _ _ us hl => match us, hl with | [_, _], _ => rfl))
      (SK.dn_mk KX G ?a10 ?l10 ?c10 ?k10 (fun _ _ _ _ _ _ us hl => match us, hl with | [_, _, _], _ => rfl))
      (SK.dn_mk KX G ?a11 ?l11 ?c11 ?k11 (fun _ _ _ _ _ _ us hl => match us, hl with | [_], _ => rfl))
      (SK.dn_mk KX G ?a12 ?l12 ?c12 ?k12 (fun _ _ _ _ _ _ us hl => match us, hl with | [_, _], _ => rfl))
      (SK.dn_mk KX G ?a13 ?l13 ?c13 ?k13 (fun _ _ _ _ _ _ us hl => match us, hl with | [_, _], _ => rfl))
      (SK.dn_mk KX G ?a14 ?l14 ?c14 ?k14 (fun _ _ _ _ _ _ us hl => match us, hl with | [_, _], _ => rfl))
      (SK.dn_mk KX G ?a15 ?l15 ?c15 ?k15 (fun _ _ _ _ _ _ us hl => match us, hl with | [_, _], _ => rfl))
      (SK.dn_mk KX G ?a16 ?l16 ?c16 ?k16 (fun _ _ _ _ _ _ us hl => match us, hl with | [_, _], _ => rfl))
      (SK.dn_mk KX G ?a17 ?l17 ?c17 ?k17 (fun _ _ _ _ _ _ us hl => match us, hl with | [_], _ => rfl))
      (SK.dn_mk KX G ?a18 ?l18 ?c18 ?k18 (fun _ _ _ _ _ _ us hl => match us, hl with | [_, _, _], _ => rfl))
      (SK.dn_mk KX G ?a19 ?l19 ?c19 ?k19 (fun _ _ _ _ _ _ us hl => match us, hl with | [_, _], _ => rfl))
      (SK.dn_mk KX G ?a20 ?l20 ?c20 ?k20 (fun _ _ _ _ _ _ us hl => match us, hl with | [_], _ => rfl))
      (SK.dn_mk KX G ?a21 ?l21 ?c21 ?k21 (fun _ _ _ _ _ _ us hl => match us, hl with | [_, _, _], _ => rfl))
      (SK.dn_mk KX G ?a22 ?l22 ?c22 ?k22 (fun _ _ _ _ _ _ us hl => match us, hl with | [_, _], _ => rfl))
      (SK.dn_mk KX G ?a23 ?l23 ?c23 ?k23 (fun _ _ _ _ _ _ us hl => match us, hl with | [_, _], _ => rfl))
      (SK.dn_mk KX G ?a24 ?l24 ?c24 ?k24 (fun _ _ _ _ _ _ us hl => match us, hl with | [_, _], _ => rfl))
      (SK.dn_mk KX G ?a25 ?l25 ?c25 ?k25 (fun _ _ _ _ _ _ us hl => match us, hl with | [_, _], _ => rfl))
      (SK.dn_mk KX G ?a26 ?l26 ?c26 ?k26 (fun _ _ _ _ _ _ us hl => match us, hl with | [_, _], _ => rfl))
      (SK.dn_mk KX G ?a27 ?l27 ?c27 ?k27 (fun _ _ _ _ _ _ us hl => match us, hl with | [_, _], _ => rfl))
      (SK.dn_mk KX G ?a28 ?l28 ?c28 ?k28 (fun _ _ _ _ _ _ us hl => match us, hl with | [_, _, _], _ => rfl))
      (SK.dn_mk KX G ?a29 ?l29 ?c29 ?k29 (fun _ _ _ _ _ _ us hl => match us, hl with | [_, _, _], _ => rfl))
      (SK.dn_mk KX G ?a30 ?l30 ?c30 ?k30 (fun _ _ _ _ _ _ us hl => match us, hl with | [_, _, _, _], _ => rfl))
      (SK.dn_mk KX G ?a31 ?l31 ?c31 ?k31 (fun _ _ _ _ _ _ us hl => match us, hl with | [_, _], _ => rfl))
      (SK.dn_mk KX G ?a32 ?l32 ?c32 ?k32 (fun _ _ _ _ _ _ us hl => match us, hl with | [_], _ => rfl))
      (SK.dn_mk KX G ?a33 ?l33 ?c33 ?k33 (fun _ _ _ _ _ _ us hl => match us, hl with | [_, _, _, _, _], _ => rfl))
      (SK.dn_mk KX G ?a34 ?l34 ?c34 ?k34 (fun _ _ _ _ _ _ us hl => match us, hl with | [_], _ => rfl))
      (SK.dn_mk KX G ?a35 ?l35 ?c35 ?k35 (fun _ _ _ _ _ _ us hl => match us, hl with | [_, _], _ => rfl))
      (SK.dn_mk KX G ?a36 ?l36 ?c36 ?k36 (fun _ _ _ _ _ _ us hl => match us, hl with | [_, _, _], _ => rfl))
      (SK.dn_mk KX G ?a37 ?l37 ?c37 ?k37 (fun _ _ _ _ _ _ us hl => match us, hl with | [_, _], _ => rfl))
      (SK.dn_mk KX G ?a38 ?l38 ?c38 ?k38 (fun _ _ _ _ _ _ us hl => match us, hl with | [_, _], _ => rfl))
      (SK.dn_mk KX G ?a39 ?l39 ?c39 ?k39 (fun _ _ _ _ _ _ us hl => match us, hl with | [_, _, _], _ => rfl))
      (SK.dnL_mk KX G ?a40 ?l40 ?c40 ?k40 (fun _ _ _ _ _ _ us hl => match us, hl with | [_, _], _ => rfl))
      (SK.dn_mk KX G ?a41 ?l41 ?c41 ?k41 (fun _ _ _ _ _ _ us hl => match us, hl with | [_, _], _ => rfl))
      (SK.dn_mk KX G ?a42 ?l42 ?c42 ?k42 (fun _ _ _ _ _ _ us hl => match us, hl with | [_, _], _ => rfl))
     (case aL => k_is); (case lL => k_is); (case cL => k_is); (case kL => k_is)
     (case v0 => k_is); (case r0 => exact ⟨_, rfl⟩)
     (case v1 => k_is); (case r1 => exact ⟨_, rfl⟩)
     (case v2 => k_is); (case r2 => exact ⟨_, rfl⟩)
     (case v3 => k_is); (case r3 => exact ⟨_, rfl⟩)
     (case v4 => k_is); (case r4 => exact ⟨_, rfl⟩)
     (case v5 => k_is); (case r5 => exact ⟨_, rfl⟩)
     (case v6 => k_is); (case r6 => exact ⟨_, rfl⟩)
     (case z0 => k_is)
     (case z1 => k_is)
     (case z2 => k_is)
     (case z3 => k_is)
     (case z4 => k_is)
     (case z5 => k_is)
     (case z6 => k_is)
     (case z7 => k_is)
     (case z8 => k_is)
     (case z9 => k_is)
     (case z10 => k_is)
     (case z11 => k_is)
     (case z12 => k_is)
     (case z13 => k_is)
     (case a0 => k_is); (case l0 => k_is); (case c0 => k_is); (case k0 => k_is)
     (case a1 => k_is); (case l1 => k_is); (case c1 => k_is); (case k1 => k_is)
     (case a2 => k_is); (case l2 => k_is); (case c2 => k_is); (case k2 => k_is)
     (case a3 => k_is); (case l3 => k_is); (case c3 => k_is); (case k3 => k_is)
     (case a4 => k_is); (case l4 => k_is); (case c4 => k_is); (case k4 => k_is)
     (case a5 => k_is); (case l5 => k_is); (case c5 => k_is); (case k5 => k_is)
     (case a6 => k_is); (case l6 => k_is); (case c6 => k_is); (case k6 => k_is)
     (case a7 => k_is); (case l7 => k_is); (case c7 => k_is); (case k7 => k_is)
     (case a8 => k_is); (case l8 => k_is); (case c8 => k_is); (case k8 => k_is)
     (case a9 => k_is); (case l9 => k_is); (case c9 => k_is); (case k9 => k_is)
     (case a10 => k_is); (case l10 => k_is); (case c10 => k_is); (case k10 => k_is)
     (case a11 => k_is); (case l11 => k_is); (case c11 => k_is); (case k11 => k_is)
     (case a12 => k_is); (case l12 => k_is); (case c12 => k_is); (case k12 => k_is)
     (case a13 => k_is); (case l13 => k_is); (case c13 => k_is); (case k13 => k_is)
     (case a14 => k_is); (case l14 => k_is); (case c14 => k_is); (case k14 => k_is)
     (case a15 => k_is); (case l15 => k_is); (case c15 => k_is); (case k15 => k_is)
     (case a16 => k_is); (case l16 => k_is); (case c16 => k_is); (case k16 => k_is)
     (case a17 => k_is); (case l17 => k_is); (case c17 => k_is); (case k17 => k_is)
     (case a18 => k_is); (case l18 => k_is); (case c18 => k_is); (case k18 => k_is)
     (case a19 => k_is); (case l19 => k_is); (case c19 => k_is); (case k19 => k_is)
     (case a20 => k_is); (case l20 => k_is); (case c20 => k_is); (case k20 => k_is)
     (case a21 => k_is); (case l21 => k_is); (case c21 => k_is); (case k21 => k_is)
     (case a22 => k_is); (case l22 => k_is); (case c22 => k_is); (case k22 => k_is)
     (case a23 => k_is); (case l23 => k_is); (case c23 => k_is); (case k23 => k_is)
     (case a24 => k_is); (case l24 => k_is); (case c24 => k_is); (case k24 => k_is)
     (case a25 => k_is); (case l25 => k_is); (case c25 => k_is); (case k25 => k_is)
     (case a26 => k_is); (case l26 => k_is); (case c26 => k_is); (case k26 => k_is)
     (case a27 => k_is); (case l27 => k_is); (case c27 => k_is); (case k27 => k_is)
     (case a28 => k_is); (case l28 => k_is); (case c28 => k_is); (case k28 => k_is)
     (case a29 => k_is); (case l29 => k_is); (case c29 => k_is); (case k29 => k_is)
     (case a30 => k_is); (case l30 => k_is); (case c30 => k_is); (case k30 => k_is)
     (case a31 => k_is); (case l31 => k_is); (case c31 => k_is); (case k31 => k_is)
     (case a32 => k_is); (case l32 => k_is); (case c32 => k_is); (case k32 => k_is)
     (case a33 => k_is); (case l33 => k_is); (case c33 => k_is); (case k33 => k_is)
     (case a34 => k_is); (case l34 => k_is); (case c34 => k_is); (case k34 => k_is)
     (case a35 => k_is); (case l35 => k_is); (case c35 => k_is); (case k35 => k_is)
     (case a36 => k_is); (case l36 => k_is); (case c36 => k_is); (case k36 => k_is)
     (case a37 => k_is); (case l37 => k_is); (case c37 => k_is); (case k37 => k_is)
     (case a38 => k_is); (case l38 => k_is); (case c38 => k_is); (case k38 => k_is)
     (case a39 => k_is); (case l39 => k_is); (case c39 => k_is); (case k39 => k_is)
     (case a40 => k_is); (case l40 => k_is); (case c40 => k_is); (case k40 => k_is)
     (case a41 => k_is); (case l41 => k_is); (case c41 => k_is); (case k41 => k_is)
     (case a42 => k_is); (case l42 => k_is); (case c42 => k_is); (case k42 => k_is)
    (case hN => first | k_is | kernel_rfl)
    (case hC => first | kernel_rfl | k_is)
