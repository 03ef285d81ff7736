import PyProof.Rows.All
import Wide.All
import OpenK.AllK
import Wide.FinOn
import HandS.Base
import HandS.Call
import HandS.List
import HandS.Comp
import HandS.Ends
import HandS.Iter
import HandS.Text
import HandS.Words
import HandS.WordsList
import HandS.Codes
import HandS.IsInst
import HandS.Walk
import HandS.TupAny
import HandS.Wide
import HandS.Rev
import HandS.Replace
import HandS.Style
import KE.DataMinKey
import KE.KMinKey
import HandS.Lambda
import HandS.Nested
import HandS.Strs
import HandS.TupLe
import KE.KAssignIn
import HandS.ExcOwn
import HandS.ExcIs
import HandS.ExcField
import HandS.WordsExc
import KE.KNestM
import KE.KLam
import HandS.EndTab
import KE.RegKIsAll
import PyProof.ExcBaseAll.ValueError
import PySem.Challenge.RW_sinkstack_k10_machines_step_by_step
set_option Elab.async false
set_option linter.all false
set_option maxRecDepth 100000
set_option maxHeartbeats 4000000
/-! the mathematics of triples, over lists of numbers -/
namespace SK
def tp (k : Nat) (l : List Nat) : List Nat := l.drop (l.length - k)
def ct (g : Nat) (l : List Nat) : List Nat := l.take (l.length - g)
structure Tr where
  g : Nat
  k : Nat
  l : List Nat
def tby (t : Tr) (x : List Nat) : List Nat := tp t.k (ct t.g x) ++ t.l
def tidy (g k : Nat) (l : List Nat) : Tr := if k = 0 then ⟨0, 0, l⟩ else ⟨g, k, l⟩
def tjoin (t u : Tr) : Tr := tidy (t.g + (u.g - t.l.length)) (min (t.k - (u.g - t.l.length)) (u.k - (ct u.g t.l).length)) (tp u.k (ct u.g t.l) ++ u.l)
def tstep (room c : Nat) : Tr := if c = 45 then tidy 1 (room - 1) [] else ⟨0, room - 1, [c]⟩
def tunt (room : Nat) : Tr := ⟨0, room, []⟩
def ttold (room : Nat) (s : List Nat) : Tr := s.foldl (fun t c => tjoin t (tstep room c)) (tunt room)
def step (room : Nat) (x : List Nat) (c : Nat) : List Nat := if c = 45 then ct 1 x else tp room (x ++ [c])
def gone (room : Nat) (x : List Nat) (s : List Nat) : List Nat := s.foldl (step room) x
def signs (n : Nat) : List Nat := [97, 98, 99, 100].take n
structure TrOk (room many : Nat) (t : Tr) : Prop where
  gk : t.g + t.k ≤ room
  kl : t.k + t.l.length ≤ room
  z : t.k = 0 → t.g = 0
  s : ∀ c ∈ t.l, c ∈ signs many
theorem len_tp (k : Nat) (l : List Nat) : (tp k l).length = min k l.length := by
  unfold tp
  rw [List.length_drop]
  omega
theorem len_ct (g : Nat) (l : List Nat) : (ct g l).length = l.length - g := by
  unfold ct
  rw [List.length_take]
  omega
theorem tp_all {k : Nat} {l : List Nat} (h : l.length ≤ k) : tp k l = l := by
  unfold tp
  rw [Nat.sub_eq_zero_of_le h, List.drop_zero]
theorem tp_zero (l : List Nat) : tp 0 l = [] := by
  unfold tp
  rw [Nat.sub_zero, List.drop_length]
theorem ct_zero (l : List Nat) : ct 0 l = l := by
  unfold ct
  rw [Nat.sub_zero, List.take_length]
theorem ct_all {g : Nat} {l : List Nat} (h : l.length ≤ g) : ct g l = [] := by
  unfold ct
  rw [Nat.sub_eq_zero_of_le h, List.take_zero]
theorem tp_tp (a b : Nat) (l : List Nat) : tp a (tp b l) = tp (min a b) l := by
  unfold tp
  rw [List.drop_drop, List.length_drop]
  congr 1
  omega
theorem ct_ct (a b : Nat) (l : List Nat) : ct a (ct b l) = ct (b + a) l := by
  unfold ct
  rw [List.take_take, List.length_take]
  congr 1
  omega
theorem ct_tp (d k : Nat) (l : List Nat) : ct d (tp k l) = tp (k - d) (ct d l) := by
  unfold ct tp
  rw [List.length_drop, List.length_take, List.drop_take]
  by_cases h : l.length ≤ k
  · have e1 : l.length - k = 0 := by omega
    have e2 : min (l.length - d) l.length - (k - d) = 0 := by omega
    rw [e1, e2, List.drop_zero, Nat.sub_zero, Nat.sub_zero]
  · by_cases h2 : d ≤ k
    · have e2 : min (l.length - d) l.length - (k - d) = l.length - k := by omega
      rw [e2]
      congr 1
      omega
    · have e1 : l.length - (l.length - k) - d = 0 := by omega
      have e2 : l.length - d - (min (l.length - d) l.length - (k - d)) = 0 := by omega
      rw [e1, e2, List.take_zero, List.take_zero]
theorem ct_app_le {g : Nat} {a b : List Nat} (h : g ≤ b.length) : ct g (a ++ b) = a ++ ct g b := by
  unfold ct
  rw [List.length_append, List.take_append]
  have e1 : a.length + b.length - g - a.length = b.length - g := by omega
  rw [e1, List.take_of_length_le (by omega)]
theorem ct_app_ge {g : Nat} {a b : List Nat} (h : b.length ≤ g) : ct g (a ++ b) = ct (g - b.length) a := by
  unfold ct
  rw [List.length_append, List.take_append]
  have e1 : a.length + b.length - g - a.length = 0 := by omega
  rw [e1, List.take_zero, List.append_nil]
  congr 1
  omega
theorem tp_app (k : Nat) (a b : List Nat) : tp k (a ++ b) = tp (k - b.length) a ++ tp k b := by
  unfold tp
  rw [List.length_append, List.drop_append]
  have e1 : a.length + b.length - k - a.length = b.length - k := by omega
  by_cases h : b.length ≤ k
  · have e2 : a.length + b.length - k = a.length - (k - b.length) := by omega
    rw [e1, e2]
  · have e2 : a.length ≤ a.length + b.length - k := by omega
    have e3 : a.length - (k - b.length) = a.length := by omega
    rw [e1, e3, List.drop_eq_nil_of_le e2, List.drop_length]
theorem tby_tidy (g k : Nat) (l x : List Nat) : tby (tidy g k l) x = tby ⟨g, k, l⟩ x := by
  unfold tidy
  by_cases h : k = 0
  · rw [if_pos h]
    subst h
    simp only [tby, tp_zero]
  · rw [if_neg h]
theorem tby_join (t u : Tr) (x : List Nat) : tby (tjoin t u) x = tby u (tby t x) := by
  unfold tjoin
  rw [tby_tidy]
  simp only [tby]
  by_cases h : u.g ≤ t.l.length
  · have e : u.g - t.l.length = 0 := by omega
    rw [ct_app_le h, tp_app, tp_tp, e, Nat.add_zero, Nat.sub_zero, Nat.min_comm, List.append_assoc]
  · have h' : t.l.length ≤ u.g := by omega
    have e : ct u.g t.l = [] := ct_all h'
    rw [ct_app_ge h', e, ct_tp, ct_ct, tp_tp]
    simp only [List.length_nil, Nat.sub_zero]
    rw [tp_all (l := []) (by simp), List.nil_append, Nat.min_comm]
theorem tidy_ok {room many g k : Nat} {l : List Nat} (h1 : 0 < k → g + k ≤ room) (h2 : k + l.length ≤ room) (h3 : ∀ c ∈ l, c ∈ signs many) : TrOk room many (tidy g k l) := by
  unfold tidy
  by_cases h : k = 0
  · rw [if_pos h]
    exact ⟨by simp, by subst h; simpa using h2, fun _ => rfl, h3⟩
  · rw [if_neg h]
    exact ⟨h1 (by omega), h2, fun z => absurd z h, h3⟩
theorem mem_tp {k c : Nat} {l : List Nat} (h : c ∈ tp k l) : c ∈ l := List.mem_of_mem_drop h
theorem mem_ct {k c : Nat} {l : List Nat} (h : c ∈ ct k l) : c ∈ l := List.mem_of_mem_take h
theorem tjoin_ok {room many : Nat} {t u : Tr} (a : TrOk room many t) (b : TrOk room many u) : TrOk room many (tjoin t u) := by
  have := a.gk
  have := a.kl
  have := b.gk
  have := b.kl
  unfold tjoin
  refine tidy_ok (fun h => ?_) ?_ fun c hc => ?_
  · omega
  · rw [List.length_append, len_tp]
    omega
  · rcases List.mem_append.mp hc with h | h
    · exact a.s c (mem_ct (mem_tp h))
    · exact b.s c h
theorem tunt_ok {room many : Nat} : TrOk room many (tunt room) := ⟨by simp [tunt], by simp [tunt], fun _ => rfl, fun c h => by simp [tunt] at h⟩
theorem tstep_ok {room many c : Nat} (hr : 1 ≤ room) (hc : c = 45 ∨ c ∈ signs many) : TrOk room many (tstep room c) := by
  unfold tstep
  by_cases h : c = 45
  · rw [if_pos h]
    exact tidy_ok (fun _ => by omega) (by simp) fun c h => by simp at h
  · rw [if_neg h]
    refine ⟨by simp, by simp; omega, fun _ => rfl, fun d hd => ?_⟩
    have e : d = c := by simpa using hd
    subst e
    exact hc.resolve_left h
theorem ttold_ok {room many : Nat} (hr : 1 ≤ room) : ∀ (s : List Nat) (t : Tr), TrOk room many t → (∀ c ∈ s, c = 45 ∨ c ∈ signs many) → TrOk room many (s.foldl (fun t c => tjoin t (tstep room c)) t)
  | [], _, h, _ => h
  | c :: r, t, h, hs => ttold_ok hr r _ (tjoin_ok h (tstep_ok hr (hs c (List.mem_cons_self ..)))) fun d hd => hs d (List.mem_cons_of_mem _ hd)
theorem tby_step {room c : Nat} {x : List Nat} (hr : 1 ≤ room) (hx : x.length ≤ room) : tby (tstep room c) x = step room x c := by
  unfold tstep step
  by_cases h : c = 45
  · rw [if_pos h, if_pos h, tby_tidy]
    simp only [tby, List.append_nil]
    exact tp_all (by rw [len_ct]; omega)
  · rw [if_neg h, if_neg h, tp_app]
    simp only [tby, ct_zero, List.length_singleton]
    congr 1
    exact (tp_all (by simpa using hr)).symm
theorem step_len {room c : Nat} {x : List Nat} (hx : x.length ≤ room) : (step room x c).length ≤ room := by
  unfold step
  by_cases h : c = 45
  · rw [if_pos h, len_ct]
    omega
  · rw [if_neg h, len_tp]
    omega
theorem gone_len {room : Nat} : ∀ (s x : List Nat), x.length ≤ room → (gone room x s).length ≤ room
  | [], _, h => h
  | c :: r, x, h => gone_len r (step room x c) (step_len h)
theorem tby_fold {room : Nat} (hr : 1 ≤ room) : ∀ (s : List Nat) (t : Tr) (x y : List Nat), (tby t x).length ≤ room → tby (s.foldl (fun t c => tjoin t (tstep room c)) t) x = gone room (tby t x) s
  | [], _, _, _, _ => rfl
  | c :: r, t, x, y, h => by
    have e := tby_fold hr r (tjoin t (tstep room c)) x y (by rw [tby_join, tby_step hr h]; exact step_len h)
    rw [tby_join, tby_step hr h] at e
    exact e
theorem tby_unt {room : Nat} {x : List Nat} (hx : x.length ≤ room) : tby (tunt room) x = x := by
  simp only [tby, tunt, ct_zero, List.append_nil]
  exact tp_all hx
theorem tby_told {room : Nat} (hr : 1 ≤ room) (s : List Nat) {x : List Nat} (hx : x.length ≤ room) : tby (ttold room s) x = gone room x s := by
  have e := tby_fold hr s (tunt room) x [] (by rw [tby_unt hx]; exact hx)
  rw [tby_unt hx] at e
  exact e
end SK
namespace SK
open PySem PySem.Spec PyProof.Rows L2
/-! ### tuples whose object is known to have no dict -/
/-- a tuple, its object plain -/
def TupF (H : Hp) (a : Addr) (xs : List V) : Prop := ∃ ob : Obj, ob.dict = none ∧ H a = some (.frz ob (.tup xs))
theorem TupF.sq {K : PySem.W.Frag} {H : Hp} {a : Addr} {xs : List V} (h : TupF H a xs) : SqT K H a xs := by
  obtain ⟨ob, _, e⟩ := h
  exact .inl (.inr ⟨ob, e⟩)
section
variable {X : Cx} {es : List Expr} {t : TA} {pos cpos apos : Pos}
def tTupF (t : TA) : TE := fun σ H Q => t σ H fun xs H1 => xs.length ≤ sizeLine ∧ ∀ (p : Addr) (ob : Obj), ob.dict = none → H1 p = none → Q (.ref p) (upd H1 p (.frz ob (.tup xs)))
theorem tupF_ok {P : Program} {w : World} {H : Hp} {h : Heap} {us : List Value} {xs : List V} (r : Vals xs us) (z : xs.length ≤ sizeLine) : ObjOk P w H (h.push { cls := .type "tuple", data := .seq us.toArray }) h.objs.size (.frz { cls := .type "tuple", data := .seq us.toArray } (.tup xs)) :=
  ⟨Heap.get?_push_size _ rfl, z, us, r, ⟨_, Heap.get?_push_size _ rfl, rfl, _, rfl⟩⟩
theorem pe_tupF {x1} (h : PA X es t) : PE X (.Tuple es x1 pos) (tTupF t) := by
  refine ⟨fun pins s σ H Q I hq => ?_⟩
  refine wpAny_Tuple_spliced (thn (h.run pos pins s σ H _ I hq) fun us s1 ⟨xs, H1, I1, r, z, q⟩ => ⟨by rw [← r.length]; exact z, ?_⟩)
  have hf : H1 s1.heap.objs.size = none := I1.hok.fresh (Nat.le_refl _)
  exact ⟨.ref s1.heap.objs.size, upd H1 s1.heap.objs.size (.frz { cls := .type "tuple", data := .seq us.toArray } (.tup xs)), I1.laid (t' := s1.toks) (fun b u e => Heap.get?_push_of_some _ e) (Nat.le_refl _) (tupF_ok r z), rfl, q _ _ rfl hf⟩
theorem call_tupleF : CallR X (.type "tuple") (fun xs H Q => ∃ p ys, xs = [.ref p] ∧ SqL X.K H p ys ∧ ∀ (l : Addr) (ob : Obj), ob.dict = none → H l = none → Q (.ref l) (upd H l (.frz ob (.tup ys)))) := by
  intro pins s σ H xs us Q I r h
  obtain ⟨p, ys, rfl, hq, q⟩ := h
  obtain ⟨u, rfl, rx⟩ := vals1 r
  cases rx
  obtain ⟨its, r', pl, hz⟩ := I.list hq
  have hlen := r'.length
  refine call_tuple_list pl.isList (fun h' kp => ?_) (by simp only [List.size_toArray] <;> omega)
  have I1 : Inv X pins σ H { s with heap := h' } := I.kept (t' := s.toks) kp
  have I2 : Inv X pins σ (upd H h'.objs.size (.frz { cls := .type "tuple", data := .seq its.toArray } (.tup ys))) { s with heap := h'.push { cls := .type "tuple", data := .seq its.toArray } } :=
    I1.laid (t' := s.toks) (fun b o e => Heap.get?_push_of_some _ e) (Nat.le_refl _) (tupF_ok r' hz)
  exact ⟨.ref h'.objs.size, _, I2, rfl, q _ _ rfl (I1.hok.fresh (Nat.le_refl _))⟩
/-- t + u, t not empty -/
def rCatF (K : PySem.W.Frag) : R2 := fun x y H Q => ∃ a b xs ys, x = .ref a ∧ y = .ref b ∧ SqT K H a xs ∧ SqT K H b ys ∧ xs ≠ [] ∧ xs.length + ys.length ≤ sizeLine ∧
  (ys = [] → Q (.ref a) H) ∧ (ys ≠ [] → ∀ (p : Addr) (ob : Obj), ob.dict = none → H p = none → Q (.ref p) (upd H p (.frz ob (.tup (xs ++ ys)))))
theorem op_catF : OpR X (binaryOp .Add) (rCatF X.K) := by
  intro pins s σ H x y v u Q I rx ry h
  obtain ⟨a, b, xs, ys, rfl, rfl, ha, hb, hx, hz, q1, q2⟩ := h
  cases rx
  cases ry
  obtain ⟨its, r1, p1, _⟩ := I.tuple ha
  obtain ⟨its2, r2, p2, _⟩ := I.tuple hb
  refine HT.cat_tup p1 p2 (fun z => hx (r1.nil_iff.mp z)) (fun z => ⟨.ref a, H, I, rfl, q1 (r2.nil_iff.mp z)⟩) (fun z => ?_) (by rw [← r1.length, ← r2.length]; exact hz)
  exact ⟨.ref s.heap.objs.size, _, I.laid (t' := s.toks) (fun b ob q => Heap.get?_push_of_some _ q) (Nat.le_refl _) (tupF_ok (r1.append r2) (by rw [List.length_append]; exact hz)), rfl, q2 (fun w => z (r2.nil_iff.mpr w)) _ _ rfl (I.hok.fresh (Nat.le_refl _))⟩
/-- a method of such a tuple -/
def tBMT (r : V → List V → Hp → VK → Prop) (to : TE) (t : TA) : TE := fun σ H Q => to σ H fun x H1 => (∃ a xs, x = .ref a ∧ TupF H1 a xs) ∧ t σ H1 fun vs H2 => r x vs H2 Q
theorem pe_bmT {name : Str} {id : String} {o e : Expr} {to : TE} {r : V → List V → Hp → VK → Prop} (pa : PlainAttrs "tuple") (slot : Slot "tuple" name id) (hty : typeOf (.builtin id) = pure (.type "method_descriptor")) (hm : MtR X id r) (ho : PE X o to) (ha : PA X (e :: es) t)
    (hbase : attributeBase o name X.env (eval o X.env) = eval o X.env := by rfl)
    (hfew : ((backTo cpos (starEach (e :: es) X.env)).all (fun x => !x.1) && (backToKw cpos (keywordEach [] X.env)).all (fun x => x.1.isSome)
      && decide ((e :: es).length + ([] : List Keyword).length + (if ([] : List Keyword).isEmpty then 0 else 1) < 30)) = true := by rfl)
    (hline : (apos.endLine == cpos.line) = true := by rfl) (hs : starEach (e :: es) X.env = (false, eval e X.env) :: starEach es X.env := by rfl) (hplain : (backTo cpos (starEach es X.env)).any (·.1) = false := by rfl) :
    PE X (.Call (.Attribute o name apos) (e :: es) [] cpos) (tBMT r to t) := by
  refine ⟨fun pins s σ H Q I h => ?_⟩
  refine wpAny_Call_method_late hbase hfew hline rfl (thn (ho.run pins s σ H _ I h) fun v s1 ⟨x, H1, I1, r1, ty, q1⟩ => ?_)
  obtain ⟨a, xs, rfl, ob, hd, hH⟩ := ty
  cases r1
  obtain ⟨hob, hz, its, rv, hit⟩ := I1.hok a _ hH
  obtain ⟨o', ho', hc, _⟩ := hit
  rw [hob] at ho'
  cases ho'
  refine ⟨"tuple", id, pa, slot, hty, ⟨ob, hob, hc⟩, fun b e => ?_, ?_⟩
  · cases e
    exact ⟨ob, hob, hd⟩
  have hA := ha.run cpos pins s1 σ H1 _ I1 q1
  rw [hs] at hA ⊢
  refine Calls.callWith_builtin (by show (false || (backTo cpos (starEach es X.env)).any (·.1)) = false; rw [hplain] <;> rfl) (Calls.evalArgs_plain ?_)
  exact thn hA fun us s2 ⟨vs, H2, I2, r2, q2⟩ => hm pins s2 σ H2 (.ref a) vs (.ref a) us Q I2 rfl r2 q2
end
end SK
namespace SK
open PySem PySem.Spec PyProof.Rows L2
/-! ### a def of the module, by its name -/
structure Dn (K : PySem.W.Frag) (mg : Str → Option Value) (x : Str) (st : Stmt) (ps : List Str) : Prop where
  ex : ∃ (f : Addr) (fd : FuncData), L2.Fun K x x st f fd ∧ mg x = some (.ref f) ∧ Binds K fd ps []
abbrev Cal := @C8.Cal
section
variable {P : Program} {w : World} {K : PySem.W.Frag} {mg : Str → Option Value} {base : Heap}
theorem Dn.cal {x : Str} {st : Stmt} {N ps : List Str} {k : Nat} {sp : Sp} (D : Dn K mg x st ps) (S : FnScope N ps (defScope st)) (len : ∀ vs H Q E, sp vs H Q E → vs.length = ps.length)
    (hbody : ∀ (f : Addr) (cdv : Value) (A : Around) (outer : List Env) (s : Shared) (H : Hp) (vs : List V) (Q : VK) (E : XK), Room k (A.deeper (envOfC x (defScope st) s.heap.objs.size f cdv)) → sp vs H Q E →
      ∃ t, PSs (cxOf CX0 P w K mg base N x (defScope st) f cdv A outer s H E).nox (defBody st) t ∧ t { nx := fun _ H' => Q .non H', rt := Q } (start N vs) H) : C8.Cal P w K mg base (k + 1) x sp [] := by
  obtain ⟨f, fd, F, hm, b⟩ := D.ex
  exact ⟨f, fd, ps, [], F.ok S len (fun cdv A outer s H vs Q E => hbody f cdv A outer s H vs Q E), hm, F.kp, b, .nil⟩
theorem dn_mk {x : Str} {st : Stmt} {ps : List Str} {h : Heap} {f : Addr} {oc : Value} {od an : Option Addr} {osl : Array (Option Value)} {kV doc pm cd ct : Value} (X : K.In h) (G : h.Ns mainGlobals mg)
    (a : PySem.W.nsIn K mainGlobals x = some (some (.ref f))) (l : K.lookup f = some ⟨oc, od, .func (PySem.W.fnOf x x (defArgs st) (defBody st) (defScope st) .none kV doc pm an cd ct), osl⟩)
    (c : PySem.W.codeIn K cd x = true) (k : PySem.W.keepIn K (.ref f) = true)
    (hb : ∀ (kV doc pm : Value) (an : Option Addr) (cdv ct : Value) (us : List Value), us.length = ps.length → bindArgs (PySem.W.fnOf x x (defArgs st) (defBody st) (defScope st) .none kV doc pm an cdv ct) ⟨us, []⟩ = pure (ps.zip us)) : Dn K mg x st ps := by
  have F := fun_mk (st := st) l c k
  exact ⟨f, _, F, PySem.W.mg_of X G a, F.binds hb⟩
end
/-! ### heaps -/
theorem Same.new {H : Hp} {p : Addr} (h : H p = none) (o : HO) : Same H (upd H p o) := fun b u q => by rw [upd_ne (ne_of_none q h)]; exact q
theorem sz {n : Nat} (h : n ≤ 100000) : n ≤ sizeLine := Nat.le_trans h (by decide)
theorem szl {n : Nat} (h : n < 100000) : n < sizeLine := Nat.lt_of_lt_of_le h (by decide)
/-! ### texts -/
def tx (l : List Nat) : Str := ⟨l.toArray⟩
theorem tx_len (l : List Nat) : (tx l).length = l.length := by
  show l.toArray.size = _
  rw [List.size_toArray]
theorem tx_list (l : List Nat) : (tx l).cps.toList = l := rfl
theorem tx_app (a b : List Nat) : tx a ++ tx b = tx (a ++ b) := by
  show Str.append _ _ = _
  unfold Str.append tx
  simp
theorem cut_tx (l : List Nat) (lo hi : Option Int) : cutS (tx l) lo hi = tx ((l.drop (HT.sIx l.length 0 lo)).take (HT.sIx l.length l.length hi - HT.sIx l.length 0 lo)) := by
  unfold cutS
  rw [tx_len, tx_list]
  rfl
theorem cut_to {l : List Nat} {n : Nat} (h : n ≤ l.length) : cutS (tx l) none (some (n : Int)) = tx (l.take n) := by
  rw [cut_tx, HT.sIx_none, HT.sIx_nat, List.drop_zero, Nat.sub_zero, Nat.min_eq_left h]
theorem cut_from {l : List Nat} {n : Nat} (h : n ≤ l.length) : cutS (tx l) (some (n : Int)) none = tx (l.drop n) := by
  rw [cut_tx, HT.sIx_none, HT.sIx_nat, Nat.min_eq_left h, List.take_of_length_le (by rw [List.length_drop]; exact Nat.le_refl _)]
theorem cut_back {l : List Nat} {n : Nat} (h : 0 < n) : cutS (tx l) (some (-(n : Int))) none = tx (l.drop (l.length - n)) := by
  have e : HT.sIx l.length 0 (some (-(n : Int))) = l.length - n := by
    show (if (-(n : Int)) < 0 then (-(n : Int) + (l.length : Int)).toNat else _) = _
    rw [if_pos (by omega)]
    omega
  rw [cut_tx, HT.sIx_none, e, List.take_of_length_le (by rw [List.length_drop]; exact Nat.le_refl _)]
theorem cut_but {l : List Nat} {n : Nat} (h : 0 < n) : cutS (tx l) none (some (-(n : Int))) = tx (l.take (l.length - n)) := by
  have e : HT.sIx l.length l.length (some (-(n : Int))) = l.length - n := by
    show (if (-(n : Int)) < 0 then (-(n : Int) + (l.length : Int)).toNat else _) = _
    rw [if_pos (by omega)]
    omega
  rw [cut_tx, HT.sIx_none, e, List.drop_zero, Nat.sub_zero]
theorem str_inj {a b : List Nat} : tx a = tx b ↔ a = b := by
  constructor
  · intro h
    have := congrArg (fun z : Str => z.cps.toList) h
    simpa [tx] using this
  · intro h
    rw [h]
/-! ### plans and triples as they stand in the heap -/
structure Pl where
  room : Nat
  many : Nat
  pr : List Int
  pop : Int
structure Pl.Ok (p : Pl) : Prop where
  r1 : 1 ≤ p.room
  r9 : p.room ≤ 9
  m1 : 1 ≤ p.many
  m4 : p.many ≤ 4
  pl : p.pr.length = p.many
  pr : ∀ x ∈ p.pr, 1 ≤ x ∧ x ≤ 99
  q1 : 1 ≤ p.pop
  q9 : p.pop ≤ 99
/-- the prices as they stand -/
def PrAt (H : Hp) (b : Addr) (p : Pl) : Prop := TupF H b (p.pr.map V.int)
theorem PrAt.mono {H H' : Hp} {b : Addr} {p : Pl} (h : PrAt H b p) (s : Same H H') : PrAt H' b p := by
  obtain ⟨ob, h1, h2⟩ := h
  exact ⟨ob, h1, s _ _ h2⟩
theorem PrAt.ty {K : PySem.W.Frag} {H : Hp} {b : Addr} {p : Pl} (h : PrAt H b p) : TyX K H (.ref b) (.type "tuple") := by
  obtain ⟨ob, h1, h2⟩ := h
  exact .fTuple h2
def PlanAt (H : Hp) (v : V) (p : Pl) : Prop := ∃ a b, v = .ref a ∧ H a = some (.tup [.int p.room, .int p.many, .ref b, .int p.pop]) ∧ PrAt H b p
def TripAt (H : Hp) (v : V) (t : Tr) : Prop := ∃ a, v = .ref a ∧ H a = some (.tup [.int t.g, .int t.k, .str (tx t.l)])
theorem PlanAt.mono {H H' : Hp} {v : V} {p : Pl} (h : PlanAt H v p) (e : Same H H') : PlanAt H' v p := by
  obtain ⟨a, b, h1, h2, h3⟩ := h
  exact ⟨a, b, h1, e _ _ h2, h3.mono e⟩
theorem TripAt.mono {H H' : Hp} {v : V} {t : Tr} (h : TripAt H v t) (e : Same H H') : TripAt H' v t := by
  obtain ⟨a, h1, h2⟩ := h
  exact ⟨a, h1, e _ _ h2⟩
theorem signs_len (n : Nat) : (signs n).length ≤ 4 := by
  unfold signs
  rw [List.length_take]
  exact Nat.min_le_right ..
/-! ### kinds of values -/
theorem ty_int {K : PySem.W.Frag} {H : Hp} {i : Int} : TyX K H (.int i) (.type "int") := .base (.int i)
theorem ty_str {K : PySem.W.Frag} {H : Hp} {i : Str} : TyX K H (.str i) (.type "str") := .base (.str i)
theorem ty_tup {K : PySem.W.Frag} {H : Hp} {a : Addr} {xs : List V} (h : H a = some (.tup xs)) : TyX K H (.ref a) (.type "tuple") := .base (.tup h)
theorem ty_lst {K : PySem.W.Frag} {H : Hp} {a : Addr} {xs : List V} (h : H a = some (.lst xs)) : TyX K H (.ref a) (.type "list") := .base (.lst h)
theorem ty_non {K : PySem.W.Frag} {H : Hp} : TyX K H .non (.type "NoneType") := .base .non
theorem ty_bl {K : PySem.W.Frag} {H : Hp} {b : Bool} : TyX K H (.bl b) (.type "bool") := .base (.bl b)
theorem k_int_int : kitB "int" "int" = some true := by decide +kernel
theorem k_int_bool : kitB "int" "bool" = some false := by decide +kernel
theorem k_int_tup : kitB "int" "tuple" = some false := by decide +kernel
theorem k_int_lst : kitB "int" "list" = some false := by decide +kernel
theorem k_str_str : kitB "str" "str" = some true := by decide +kernel
theorem k_str_bool : kitB "str" "bool" = some false := by decide +kernel
theorem k_str_int : kitB "str" "int" = some false := by decide +kernel
theorem k_tup_tup : kitB "tuple" "tuple" = some true := by decide +kernel
theorem k_tup_int : kitB "tuple" "int" = some false := by decide +kernel
theorem k_tup_bool : kitB "tuple" "bool" = some false := by decide +kernel
theorem k_tup_str : kitB "tuple" "str" = some false := by decide +kernel
theorem k_tup_lst : kitB "tuple" "list" = some false := by decide +kernel
theorem k_lst_lst : kitB "list" "list" = some true := by decide +kernel
theorem k_lst_tup : kitB "list" "tuple" = some false := by decide +kernel
theorem k_lst_int : kitB "list" "int" = some false := by decide +kernel
theorem k_lst_bool : kitB "list" "bool" = some false := by decide +kernel
theorem k_lst_str : kitB "list" "str" = some false := by decide +kernel
theorem k_bool_bool : kitB "bool" "bool" = some true := by decide +kernel
theorem k_bool_int : kitB "bool" "int" = some true := by decide +kernel
theorem b_isi : bootBuiltins "isinstance" = some (.builtin "isinstance") := by decide +kernel
theorem b_all : bootBuiltins "all" = some (.builtin "all") := by decide +kernel
theorem b_max : bootBuiltins "max" = some (.builtin "max") := by decide +kernel
theorem b_min : bootBuiltins "min" = some (.builtin "min") := by decide +kernel
theorem b_bool : bootBuiltins "bool" = some (.type "bool") := by decide +kernel
theorem b_int : bootBuiltins "int" = some (.type "int") := by decide +kernel
theorem b_str : bootBuiltins "str" = some (.type "str") := by decide +kernel
theorem b_tuple : bootBuiltins "tuple" = some (.type "tuple") := by decide +kernel
theorem b_list : bootBuiltins "list" = some (.type "list") := by decide +kernel
theorem s_empty : ("" : Str) = tx [] := by decide +kernel
theorem s_minus : ("-" : Str) = tx [45] := by decide +kernel
theorem s_abcd : ("abcd" : Str) = tx [97, 98, 99, 100] := by decide +kernel
/-! ### promises of the program's defs -/
/-- hands back this value, all that stood stands -/
def giv (v : V) (H : Hp) (Q : VK) : Prop := ∀ H', Same H H' → Q v H'
def spSigns : Sp := fun vs H Q _ => ∃ v p, vs = [v] ∧ PlanAt H v p ∧ p.Ok ∧ giv (.str (tx (signs p.many))) H Q
def spNum : Sp := fun vs H Q _ => ∃ i lo hi : Int, vs = [.int i, .int lo, .int hi] ∧ giv (.bl (decide (lo ≤ i ∧ i ≤ hi))) H Q
def spTextOf : Sp := fun vs H Q _ => ∃ l sg : List Nat, vs = [.str (tx l), .str (tx sg)] ∧ l.length ≤ 10000 ∧ giv (.bl (decide (∀ c ∈ l, c ∈ sg))) H Q
def spChPlan : Sp := fun vs H Q _ => ∃ v p, vs = [v] ∧ PlanAt H v p ∧ p.Ok ∧ giv .non H Q
def spPrices : Sp := fun vs H Q _ => ∃ b p, vs = [.ref b, .int (p : Pl).many] ∧ PrAt H b p ∧ p.Ok ∧ giv (.bl true) H Q
def spChStack : Sp := fun vs H Q _ => ∃ v p l, vs = [v, .str (tx l)] ∧ PlanAt H v p ∧ p.Ok ∧ l.length ≤ p.room ∧ (∀ c ∈ l, c ∈ signs p.many) ∧ giv .non H Q
def spIsStack : Sp := fun vs H Q _ => ∃ v p l, vs = [v, .str (tx l)] ∧ PlanAt H v p ∧ p.Ok ∧ l.length ≤ p.room ∧ (∀ c ∈ l, c ∈ signs p.many) ∧ giv (.bl true) H Q
def spChSteps : Sp := fun vs H Q _ => ∃ v p l, vs = [v, .str (tx l)] ∧ PlanAt H v p ∧ p.Ok ∧ l.length ≤ 10000 ∧ (∀ c ∈ l, c = 45 ∨ c ∈ signs p.many) ∧ giv .non H Q
def spChTriple : Sp := fun vs H Q _ => ∃ v p u t, vs = [v, u] ∧ PlanAt H v p ∧ p.Ok ∧ TripAt H u t ∧ TrOk p.room p.many t ∧ giv .non H Q
def spIsTriple : Sp := fun vs H Q _ => ∃ v p u t, vs = [v, u] ∧ PlanAt H v p ∧ p.Ok ∧ TripAt H u t ∧ TrOk p.room p.many t ∧ giv (.bl true) H Q
/-- a new triple -/
def givT (t : Tr) (H : Hp) (Q : VK) : Prop := ∀ H' v, Same H H' → TripAt H' v t → Q v H'
def spWithout : Sp := fun vs H Q _ => ∃ (l : List Nat) (n : Nat), vs = [.str (tx l), .int n] ∧ l.length ≤ 10000 ∧ giv (.str (tx (ct n l))) H Q
def spTop : Sp := fun vs H Q _ => ∃ (l : List Nat) (n : Nat), vs = [.str (tx l), .int n] ∧ l.length ≤ 10000 ∧ giv (.str (tx (tp n l))) H Q
def spBehind : Sp := fun vs H Q _ => ∃ u t l, vs = [u, .str (tx l)] ∧ TripAt H u t ∧ l.length ≤ 1000 ∧ (t : Tr).l.length ≤ 1000 ∧ giv (.str (tx (tby t l))) H Q
def spTidied : Sp := fun vs H Q _ => ∃ (g k : Nat) (l : List Nat), vs = [.int g, .int k, .str (tx l)] ∧ givT (tidy g k l) H Q
def spJoin : Sp := fun vs H Q _ => ∃ a b t u, vs = [a, b] ∧ TripAt H a t ∧ TripAt H b u ∧ (t : Tr).l.length ≤ 1000 ∧ (u : Tr).l.length ≤ 1000 ∧ givT (tjoin t u) H Q
def spUnt : Sp := fun vs H Q _ => ∃ v p, vs = [v] ∧ PlanAt H v p ∧ givT (tunt p.room) H Q
def spTStep : Sp := fun vs H Q _ => ∃ v p c, vs = [v, .str (tx [c])] ∧ PlanAt H v p ∧ p.Ok ∧ givT (tstep p.room c) H Q
def spTSteps : Sp := fun vs H Q _ => ∃ v p l, vs = [v, .str (tx l)] ∧ PlanAt H v p ∧ p.Ok ∧ (∀ c ∈ l, c = 45 ∨ c ∈ signs p.many) ∧ givT (ttold p.room l) H Q
def spToldSteps : Sp := fun vs H Q _ => ∃ v p l, vs = [v, .str (tx l)] ∧ PlanAt H v p ∧ p.Ok ∧ l.length ≤ 10000 ∧ (∀ c ∈ l, c = 45 ∨ c ∈ signs p.many) ∧ givT (ttold p.room l) H Q
def spDone : Sp := fun vs H Q _ => ∃ v p u t l, vs = [v, u, .str (tx l)] ∧ PlanAt H v p ∧ p.Ok ∧ TripAt H u t ∧ TrOk p.room p.many t ∧ l.length ≤ p.room ∧ (∀ c ∈ l, c ∈ signs p.many) ∧ giv (.str (tx (tby t l))) H Q
end SK
namespace SK
open PySem PySem.Spec PyProof.Rows L2
/-! ### the box of draws -/
structure BoxAt (H : Hp) (p q : Addr) (ns : List Int) (z : Int) : Prop where
  b : H p = some (.lst [.ref q, .int z])
  l : H q = some (.lst (ns.map V.int))
  ne : p ≠ q
/-- all but the box stands -/
def Keep (p q : Addr) (H H' : Hp) : Prop := ∀ b o, H b = some o → b ≠ p → b ≠ q → H' b = some o
theorem Keep.refl (p q : Addr) (H : Hp) : Keep p q H H := fun _ _ h _ _ => h
theorem Keep.trans {p q : Addr} {H H1 H2 : Hp} (a : Keep p q H H1) (b : Keep p q H1 H2) : Keep p q H H2 := fun c o h h1 h2 => b c o (a c o h h1 h2) h1 h2
theorem Keep.of {p q : Addr} {H H' : Hp} (s : Same H H') : Keep p q H H' := fun b o h _ _ => s b o h
theorem BoxAt.mono {H H' : Hp} {p q : Addr} {ns : List Int} {z : Int} (h : BoxAt H p q ns z) (s : Same H H') : BoxAt H' p q ns z := ⟨s _ _ h.b, s _ _ h.l, h.ne⟩
theorem BoxAt.no {H : Hp} {p q : Addr} {ns : List Int} {z : Int} (h : BoxAt H p q ns z) {b : Addr} {o : HO} (e : H b = some o) (ho : ∀ xs, o ≠ .lst xs) : b ≠ p ∧ b ≠ q :=
  ⟨ne_of e h.b (ho _), ne_of e h.l (ho _)⟩
theorem Keep.tup {p q : Addr} {H H' : Hp} {ns : List Int} {z : Int} (k : Keep p q H H') (h : BoxAt H p q ns z) {a : Addr} {xs : List V} (e : H a = some (.tup xs)) : H' a = some (.tup xs) :=
  k a _ e (h.no e fun _ => by intro z; cases z).1 (h.no e fun _ => by intro z; cases z).2
theorem PlanAt.keep {p q : Addr} {H H' : Hp} {ns : List Int} {z : Int} {v : V} {pl : Pl} (h : PlanAt H v pl) (b : BoxAt H p q ns z) (k : Keep p q H H') : PlanAt H' v pl := by
  obtain ⟨a, c, e, h1, h2⟩ := h
  obtain ⟨ob, h3, h4⟩ := h2
  exact ⟨a, c, e, k.tup b h1, ob, h3, k _ _ h4 (b.no h4 fun _ => by intro z; cases z).1 (b.no h4 fun _ => by intro z; cases z).2⟩
theorem TripAt.keep {p q : Addr} {H H' : Hp} {ns : List Int} {z : Int} {v : V} {t : Tr} (h : TripAt H v t) (b : BoxAt H p q ns z) (k : Keep p q H H') : TripAt H' v t := by
  obtain ⟨a, e, h1⟩ := h
  exact ⟨a, e, k.tup b h1⟩
/-- a list made later than the box -/
theorem BoxAt.fresh {H : Hp} {p q D : Addr} {ns : List Int} {z : Int} (h : BoxAt H p q ns z) (e : H D = none) : D ≠ p ∧ D ≠ q := by
  constructor
  · intro x
    subst x
    rw [h.b] at e
    cases e
  · intro x
    subst x
    rw [h.l] at e
    cases e
/-- a draw -/
def spTake : Sp := fun vs H Q _ => ∃ (p q : Addr) (ns : List Int) (z n : Int), vs = [.ref p, .int n] ∧ BoxAt H p q ns z ∧ 0 < n ∧ n < 2 ^ 9000 ∧
  ∀ (r : Int) (ns' : List Int) (z' : Int) (H' : Hp), 0 ≤ r → r < n → BoxAt H' p q ns' z' → Keep p q H H' → Q (.int r) H'
theorem shp : ∀ ns : List Int, SeqAt.shaped (.list (ns.map PyData.int)) = true := by
  have h1 : ∀ ns : List Int, PyData.canLayAll0 (ns.map PyData.int) = true := fun ns => by
    induction ns with
    | nil => rfl
    | cons n r ih =>
      show (PyData.canLay0 (.int n) && PyData.canLayAll0 (r.map PyData.int)) = true
      rw [ih]
      rfl
  have h2 : ∀ ns : List Int, PyData.depthAll (ns.map PyData.int) = 0 := fun ns => by
    induction ns with
    | nil => rfl
    | cons n r ih =>
      show max (PyData.depth (.int n)) (PyData.depthAll (r.map PyData.int)) = 0
      rw [ih]
      rfl
  intro ns
  show (PyData.canLayAll0 (ns.map PyData.int) && decide (PyData.depthAll (ns.map PyData.int) + 1 ≤ 64)) = true
  rw [h1, h2]
  rfl
theorem dpAll {K : PySem.W.Frag} {H : Hp} : ∀ ns : List Int, DpAll K H (ns.map V.int) (ns.map PyData.int)
  | [] => .nil
  | n :: r => .cons (.int n) (dpAll r)
theorem fmod_in {x n : Int} (h : 0 < n) : 0 ≤ x.fmod n ∧ x.fmod n < n := by
  rw [Int.fmod_eq_emod_of_nonneg _ (by omega)]
  exact ⟨Int.emod_nonneg _ (by omega), Int.emod_lt_of_pos _ h⟩
theorem divW {i j : Int} (h : 0 < j) (h2 : j < 2 ^ 9000) : CDivW i j := wide_div (b := 9000) h (by
  have e : ((j.natAbs : Nat) : Int) = j := Int.natAbs_of_nonneg (by omega)
  have e2 : ((j.natAbs : Nat) : Int) < ((2 ^ 9000 : Nat) : Int) := by
    rw [e]
    exact_mod_cast h2
  exact Int.ofNat_lt.mp e2) (by decide) (by decide)
theorem p9 {n : Int} (h : n ≤ 2000000000000000000) : n < 2 ^ 9000 := Int.lt_of_le_of_lt h (by decide +kernel)
theorem at0 {x : V} {r : List V} : atI (x :: r) 0 = some x := atI_nat (j := 0) rfl
theorem ix0 {x : V} {r : List V} : ixN (x :: r).length 0 = some 0 := by
  unfold ixN
  simp
theorem sq0 {x : V} {r : List V} : seqIndex? 0 (x :: r).length = some 0 := by
  unfold seqIndex?
  simp
/-! ### what is alike -/
def Sc : V → Prop
  | .non => True
  | .bl _ => True
  | .int _ => True
  | .str _ => True
  | _ => False
def Alk (H : Hp) : Nat → V → V → Prop
  | 0, _, _ => False
  | n + 1, v, w => (v = w ∧ Sc v) ∨ ∃ (a b : Addr) (xs ys : List V), v = .ref a ∧ w = .ref b ∧ ((H a = some (.tup xs) ∧ H b = some (.tup ys)) ∨ (H a = some (.lst xs) ∧ H b = some (.lst ys))) ∧ xs.length = ys.length ∧ ys.length ≤ 10000 ∧
      ∀ (i : Nat) (x y : V), xs[i]? = some x → ys[i]? = some y → Alk H n x y
theorem Alk.mono {H H' : Hp} (s : Same H H') : ∀ {n : Nat} {v w : V}, Alk H n v w → Alk H' n v w
  | 0, _, _, h => h
  | n + 1, v, w, h => by
    rcases h with h | ⟨a, b, xs, ys, h1, h2, h3, h4, h5, h6⟩
    · exact .inl h
    · refine .inr ⟨a, b, xs, ys, h1, h2, ?_, h4, h5, fun i x y e1 e2 => Alk.mono s (h6 i x y e1 e2)⟩
      rcases h3 with ⟨u1, u2⟩ | ⟨u1, u2⟩
      · exact .inl ⟨s _ _ u1, s _ _ u2⟩
      · exact .inr ⟨s _ _ u1, s _ _ u2⟩
def spAlike (n : Nat) : Sp := fun vs H Q _ => ∃ v w, vs = [v, w] ∧ Alk H n v w ∧ giv (.bl true) H Q
theorem alk_trip {H : Hp} {n : Nat} {v w : V} {t : Tr} (hv : TripAt H v t) (hw : TripAt H w t) : Alk H (n + 2) v w := by
  obtain ⟨a, rfl, ha⟩ := hv
  obtain ⟨b, rfl, hb⟩ := hw
  refine .inr ⟨a, b, _, _, rfl, rfl, .inl ⟨ha, hb⟩, rfl, by show 3 ≤ 10000; decide, fun i x y e1 e2 => ?_⟩
  have e : x = y := Option.some.inj (e1.symm.trans e2)
  subst e
  refine .inl ⟨rfl, ?_⟩
  match i, e1 with
  | 0, e1 => cases e1; trivial
  | 1, e1 => cases e1; trivial
  | 2, e1 => cases e1; trivial
/-! ### the law's own promises -/
def spLStep : Sp := fun vs H Q _ => ∃ v p l c, vs = [v, .str (tx l), .str (tx [c])] ∧ PlanAt H v p ∧ p.Ok ∧ l.length ≤ 1000 ∧ giv (.str (tx (step p.room l c))) H Q
def spLGone : Sp := fun vs H Q _ => ∃ v p l s, vs = [v, .str (tx l), .str (tx s)] ∧ PlanAt H v p ∧ p.Ok ∧ l.length ≤ p.room ∧ giv (.str (tx (gone p.room l s))) H Q
def spLPlan : Sp := fun vs H Q _ => ∃ (p q : Addr) (ns : List Int) (z : Int) (r s : Nat), vs = [.ref p, .int r, .int s] ∧ BoxAt H p q ns z ∧ 1 ≤ r ∧ r ≤ 9 ∧ 1 ≤ s ∧ s ≤ 4 ∧
  ∀ (pl : Pl) (v : V) (ns' : List Int) (z' : Int) (H' : Hp), pl.Ok → pl.room ≤ r → pl.many ≤ s → PlanAt H' v pl → BoxAt H' p q ns' z' → Keep p q H H' → Q v H'
def spLSteps : Sp := fun vs H Q _ => ∃ (p q : Addr) (ns : List Int) (z : Int) (v : V) (pl : Pl) (n : Nat), vs = [.ref p, v, .int n] ∧ BoxAt H p q ns z ∧ PlanAt H v pl ∧ pl.Ok ∧ n ≤ 1000 ∧
  ∀ (l : List Nat) (ns' : List Int) (z' : Int) (H' : Hp), l.length ≤ n → (∀ c ∈ l, c = 45 ∨ c ∈ signs pl.many) → BoxAt H' p q ns' z' → Keep p q H H' → Q (.str (tx l)) H'
def spLSigns : Sp := fun vs H Q _ => ∃ (p q : Addr) (ns : List Int) (z : Int) (v : V) (pl : Pl) (n : Nat), vs = [.ref p, v, .int n] ∧ BoxAt H p q ns z ∧ PlanAt H v pl ∧ pl.Ok ∧ n ≤ 1000 ∧
  ∀ (l : List Nat) (ns' : List Int) (z' : Int) (H' : Hp), l.length ≤ n → (∀ c ∈ l, c ∈ signs pl.many) → BoxAt H' p q ns' z' → Keep p q H H' → Q (.str (tx l)) H'
def spLTriple : Sp := fun vs H Q _ => ∃ (p q : Addr) (ns : List Int) (z : Int) (v : V) (pl : Pl), vs = [.ref p, v] ∧ BoxAt H p q ns z ∧ PlanAt H v pl ∧ pl.Ok ∧
  ∀ (t : Tr) (u : V) (ns' : List Int) (z' : Int) (H' : Hp), TrOk pl.room pl.many t → TripAt H' u t → BoxAt H' p q ns' z' → Keep p q H H' → Q u H'
def spLBy : Sp := fun vs H Q _ => ∃ u t l, vs = [u, .str (tx l)] ∧ TripAt H u t ∧ l.length ≤ 1000 ∧ (t : Tr).l.length ≤ 1000 ∧ giv (.str (tx (tby t l))) H Q
def spLBegun (K : PySem.W.Frag) : Sp := fun vs H Q _ => ∃ (a : Addr) (ns : List Int), vs = [.ref a] ∧ SqL K H a (ns.map V.int) ∧ ns.length ≤ 63 ∧
  ∀ (p q : Addr) (z : Int) (H' : Hp), Same H H' → BoxAt H' p q ns z → H p = none → H q = none → Q (.ref p) H'
/-- all texts of so many signs, in turn; all stacks -/
def lay (many : Nat) : Nat → List (List Nat)
  | 0 => [[]]
  | n + 1 => (lay many n).flatMap fun l => (signs many).map fun c => l ++ [c]
def stk (many : Nat) : Nat → List (List Nat)
  | 0 => [[]]
  | n + 1 => stk many n ++ lay many (n + 1)
def spLStacks : Sp := fun vs H Q _ => ∃ v p, vs = [v] ∧ PlanAt H v p ∧ p.Ok ∧ ∀ (D : Addr) (H' : Hp), Same H H' → H D = none → H' D = some (.lst ((stk p.many p.room).map fun l => V.str (tx l))) → Q (.ref D) H'
def spLaw (K : PySem.W.Frag) : Sp := fun vs H Q _ => ∃ (a : Addr) (ns : List Int), vs = [.ref a] ∧ SqL K H a (ns.map V.int) ∧ ns.length ≤ 63 ∧ ∀ H', Q (.bl true) H'
theorem lay_len (many : Nat) : ∀ n, (lay many n).length = (signs many).length ^ n
  | 0 => rfl
  | n + 1 => by
    have h : ∀ xs : List (List Nat), (xs.flatMap fun l => (signs many).map fun c => l ++ [c]).length = xs.length * (signs many).length := fun xs => by
      induction xs with
      | nil => simp
      | cons x r ih =>
        rw [List.flatMap_cons, List.length_append, ih, List.length_map, List.length_cons, Nat.succ_mul, Nat.add_comm]
    show ((lay many n).flatMap _).length = _
    rw [h, lay_len many n, Nat.pow_succ]
theorem lay_le (many : Nat) {n : Nat} (h : n ≤ 9) : (lay many n).length ≤ 262144 := by
  rw [lay_len]
  have h1 := signs_len many
  calc (signs many).length ^ n ≤ 4 ^ n := Nat.pow_le_pow_left h1 n
    _ ≤ 4 ^ 9 := Nat.pow_le_pow_right (by decide) h
    _ = 262144 := by decide
theorem stk_le (many : Nat) : ∀ {n : Nat}, n ≤ 9 → (stk many n).length ≤ (n + 1) * 262144
  | 0, _ => by show 1 ≤ _; omega
  | n + 1, h => by
    have h1 := stk_le many (n := n) (by omega)
    have h2 := lay_le many h
    show (stk many n ++ lay many (n + 1)).length ≤ _
    rw [List.length_append]
    omega
theorem lay_mem {many : Nat} : ∀ {n : Nat} {l : List Nat}, l ∈ lay many n → l.length = n ∧ ∀ c ∈ l, c ∈ signs many
  | 0, l, h => by
    have e : l = [] := by simpa [lay] using h
    subst e
    exact ⟨rfl, fun c hc => by simp at hc⟩
  | n + 1, l, h => by
    obtain ⟨k, hk, h2⟩ := List.mem_flatMap.mp (show l ∈ (lay many n).flatMap _ from h)
    obtain ⟨c, hc, rfl⟩ := List.mem_map.mp h2
    obtain ⟨h3, h4⟩ := lay_mem hk
    refine ⟨by simp [h3], fun d hd => ?_⟩
    rcases List.mem_append.mp hd with h5 | h5
    · exact h4 d h5
    · have : d = c := by simpa using h5
      subst this
      exact hc
theorem stk_mem {many : Nat} : ∀ {n : Nat} {l : List Nat}, l ∈ stk many n → l.length ≤ n ∧ ∀ c ∈ l, c ∈ signs many
  | 0, l, h => by
    have := lay_mem (many := many) (n := 0) h
    exact ⟨Nat.le_of_eq this.1, this.2⟩
  | n + 1, l, h => by
    rcases List.mem_append.mp (show l ∈ stk many n ++ lay many (n + 1) from h) with h1 | h1
    · have := stk_mem h1
      exact ⟨by omega, this.2⟩
    · have := lay_mem h1
      exact ⟨Nat.le_of_eq this.1, this.2⟩
end SK
/-! works, their triples, their steps; the mathematics -/
namespace SK
/-! ### triples are told apart by what they do -/
theorem len_tby (t : Tr) (x : List Nat) : (tby t x).length = min t.k (x.length - t.g) + t.l.length := by
  simp only [tby]
  rw [List.length_append, len_tp, len_ct]
theorem tr_ext {room many : Nat} {t u : Tr} (a : TrOk room many t) (b : TrOk room many u) {c : Nat} (h : ∀ s, s ≤ room → tby t (List.replicate s c) = tby u (List.replicate s c)) : t = u := by
  have h0 := h 0 (Nat.zero_le _)
  have hl : t.l = u.l := by
    simp only [tby, List.replicate_zero, ct, tp, List.length_nil, List.take_nil, List.drop_nil, List.nil_append] at h0
    exact h0
  have hn : ∀ s, s ≤ room → min t.k (s - t.g) = min u.k (s - u.g) := fun s hs => by
    have e := congrArg List.length (h s hs)
    rw [len_tby, len_tby, List.length_replicate, hl] at e
    omega
  have := a.gk
  have := b.gk
  have ht := a.z
  have hu := b.z
  have hk : t.k = u.k := by
    have e := hn room (Nat.le_refl _)
    omega
  have hg : t.g = u.g := by
    by_cases h1 : t.k = 0
    · have := ht h1
      have := hu (by omega)
      omega
    · have e1 := hn (t.g + 1) (by omega)
      have e2 := hn (u.g + 1) (by omega)
      omega
  cases t
  cases u
  simp only at hl hk hg
  subst hl hk hg
  rfl
theorem tjoin_assoc {room many : Nat} {t u v : Tr} (a : TrOk room many t) (b : TrOk room many u) (c : TrOk room many v) : tjoin (tjoin t u) v = tjoin t (tjoin u v) :=
  tr_ext (c := 97) (tjoin_ok (tjoin_ok a b) c) (tjoin_ok a (tjoin_ok b c)) fun s _ => by rw [tby_join, tby_join, tby_join, tby_join]
theorem tby_len {room many : Nat} {t : Tr} (a : TrOk room many t) (x : List Nat) : (tby t x).length ≤ room := by
  rw [len_tby]
  have := a.kl
  omega
theorem tunt_left {room many : Nat} {t : Tr} (a : TrOk room many t) : tjoin (tunt room) t = t :=
  tr_ext (c := 97) (tjoin_ok tunt_ok a) a fun s hs => by rw [tby_join, tby_unt (by rw [List.length_replicate]; exact hs)]
theorem tunt_right {room many : Nat} {t : Tr} (a : TrOk room many t) : tjoin t (tunt room) = t :=
  tr_ext (c := 97) (tjoin_ok a tunt_ok) a fun s hs => by rw [tby_join, tby_unt (tby_len a _)]
/-- done so often -/
def tpw (room : Nat) (t : Tr) : Nat → Tr
  | 0 => tunt room
  | n + 1 => tjoin (tpw room t n) t
theorem tpw_ok {room many : Nat} {t : Tr} (a : TrOk room many t) : ∀ n, TrOk room many (tpw room t n)
  | 0 => tunt_ok
  | n + 1 => tjoin_ok (tpw_ok a n) a
theorem tpw_add {room many : Nat} {t : Tr} (a : TrOk room many t) (m : Nat) : ∀ n, tpw room t (m + n) = tjoin (tpw room t m) (tpw room t n)
  | 0 => (tunt_right (tpw_ok a m)).symm
  | n + 1 => by
    show tjoin (tpw room t (m + n)) t = tjoin (tpw room t m) (tjoin (tpw room t n) t)
    rw [tpw_add a m n, tjoin_assoc (tpw_ok a m) (tpw_ok a n) a]
theorem tpw_one {room many : Nat} {t : Tr} (a : TrOk room many t) : tpw room t 1 = t := tunt_left a
theorem tpw_two {room many : Nat} {t : Tr} (a : TrOk room many t) : ∀ n, tpw room (tjoin t t) n = tpw room t (2 * n)
  | 0 => rfl
  | n + 1 => by
    have e : 2 * (n + 1) = 2 * n + 2 := by omega
    have e2 : tpw room t 2 = tjoin t t := by
      show tjoin (tpw room t 1) t = _
      rw [tpw_one a]
    rw [e, tpw_add a, e2]
    show tjoin (tpw room (tjoin t t) n) (tjoin t t) = _
    rw [tpw_two a n]
/-- one turn of the doubling -/
theorem tpw_odd {room many : Nat} {t u : Tr} {n : Nat} (a : TrOk room many t) (b : TrOk room many u) (h : n % 2 = 1) : tjoin u (tpw room t n) = tjoin (tjoin u t) (tpw room (tjoin t t) (n / 2)) := by
  have e : n = 1 + 2 * (n / 2) := by omega
  rw [tpw_two a, tjoin_assoc b a (tpw_ok a _)]
  congr 1
  have e3 : tpw room t n = tpw room t (1 + 2 * (n / 2)) := by rw [← e]
  rw [e3, tpw_add a, tpw_one a]
theorem tpw_even {room many : Nat} {t u : Tr} {n : Nat} (a : TrOk room many t) (h : n % 2 = 0) : tjoin u (tpw room t n) = tjoin u (tpw room (tjoin t t) (n / 2)) := by
  rw [tpw_two a]
  have e : n = 2 * (n / 2) := by omega
  have e3 : tpw room t n = tpw room t (2 * (n / 2)) := by rw [← e]
  rw [e3]
/-! ### steps one behind another -/
theorem ttold_from {room many : Nat} {u : Tr} (hr : 1 ≤ room) (b : TrOk room many u) : ∀ (s : List Nat), (∀ c ∈ s, c = 45 ∨ c ∈ signs many) → ∀ t, TrOk room many t → s.foldl (fun t c => tjoin t (tstep room c)) (tjoin u t) = tjoin u (s.foldl (fun t c => tjoin t (tstep room c)) t)
  | [], _, _, _ => rfl
  | c :: r, hs, t, a => by
    have hc := tstep_ok (room := room) (many := many) hr (hs c (List.mem_cons_self ..))
    have ih := ttold_from hr b r (fun d hd => hs d (List.mem_cons_of_mem _ hd)) (tjoin t (tstep room c)) (tjoin_ok a hc)
    show r.foldl _ (tjoin (tjoin u t) (tstep room c)) = tjoin u (r.foldl _ (tjoin t (tstep room c)))
    rw [tjoin_assoc b a hc, ih]
theorem ttold_ok' {room many : Nat} (hr : 1 ≤ room) {s : List Nat} (hs : ∀ c ∈ s, c = 45 ∨ c ∈ signs many) : TrOk room many (ttold room s) := ttold_ok hr s _ tunt_ok hs
theorem ttold_app {room many : Nat} (hr : 1 ≤ room) {a b : List Nat} (ha : ∀ c ∈ a, c = 45 ∨ c ∈ signs many) (hb : ∀ c ∈ b, c = 45 ∨ c ∈ signs many) : ttold room (a ++ b) = tjoin (ttold room a) (ttold room b) := by
  have e : ttold room (a ++ b) = b.foldl (fun t c => tjoin t (tstep room c)) (ttold room a) := by
    unfold ttold
    rw [List.foldl_append]
  have h := ttold_from hr (ttold_ok' hr ha) b hb (tunt room) tunt_ok
  rw [tunt_right (ttold_ok' hr ha)] at h
  rw [e, h]
  rfl
theorem ttold_one {room many c : Nat} (hr : 1 ≤ room) (hc : c = 45 ∨ c ∈ signs many) : ttold room [c] = tstep room c := by
  show tjoin (tunt room) (tstep room c) = _
  exact tunt_left (tstep_ok (many := many) hr hc)
/-! ### works -/
mutual
inductive W where
  | push (c : Nat)
  | pop
  | row (ws : Ws)
  | times (n : Nat) (w : W)
inductive Ws where
  | nil
  | cons (w : W) (r : Ws)
end
mutual
def W.siz : W → Nat
  | .push _ => 1
  | .pop => 1
  | .row ws => 1 + ws.siz
  | .times _ w => 1 + w.siz
def Ws.siz : Ws → Nat
  | .nil => 0
  | .cons w r => w.siz + r.siz
end
mutual
def W.dep : W → Nat
  | .push _ => 1
  | .pop => 1
  | .row ws => 1 + ws.dep
  | .times _ w => 1 + w.dep
def Ws.dep : Ws → Nat
  | .nil => 0
  | .cons w r => max w.dep r.dep
end
mutual
def W.lng : W → List Nat
  | .push c => [c]
  | .pop => [45]
  | .row ws => ws.lng
  | .times n w => (List.replicate n w.lng).flatten
def Ws.lng : Ws → List Nat
  | .nil => []
  | .cons w r => w.lng ++ r.lng
end
mutual
/-- how many steps -/
def W.cnt : W → Nat
  | .push _ => 1
  | .pop => 1
  | .row ws => ws.cnt
  | .times n w => n * w.cnt
def Ws.cnt : Ws → Nat
  | .nil => 0
  | .cons w r => w.cnt + r.cnt
end
mutual
def W.prc (f : Nat → Int) : W → Int
  | .push c => f c
  | .pop => f 45
  | .row ws => ws.prc f
  | .times n w => (n : Int) * w.prc f
def Ws.prc (f : Nat → Int) : Ws → Int
  | .nil => 0
  | .cons w r => w.prc f + r.prc f
end
mutual
def W.tri (room : Nat) : W → Tr
  | .push c => tstep room c
  | .pop => tstep room 45
  | .row ws => ws.tri room (tunt room)
  | .times n w => tpw room (w.tri room) n
def Ws.tri (room : Nat) : Ws → Tr → Tr
  | .nil, t => t
  | .cons w r, t => r.tri room (tjoin t (w.tri room))
end
def Ws.len : Ws → Nat
  | .nil => 0
  | .cons _ r => r.len + 1
mutual
/-- can be: signs of the plan, counts to 10 ** 18 -/
def W.Can (many : Nat) : W → Prop
  | .push c => c ∈ signs many
  | .pop => True
  | .row ws => ws.len ≤ 1000 ∧ ws.Can many
  | .times n w => n ≤ 1000000000000000000 ∧ w.Can many
def Ws.Can (many : Nat) : Ws → Prop
  | .nil => True
  | .cons w r => w.Can many ∧ r.Can many
end
mutual
/-- few in a row, nothing done more often than so -/
def W.Tm (t : Nat) : W → Prop
  | .push _ => True
  | .pop => True
  | .row ws => ws.len ≤ 3 ∧ ws.Tm t
  | .times n w => n ≤ t ∧ w.Tm t
def Ws.Tm (t : Nat) : Ws → Prop
  | .nil => True
  | .cons w r => w.Tm t ∧ r.Tm t
end
mutual
theorem W.cnt_le : ∀ w : W, w.Tm 4 → w.cnt ≤ 4 ^ w.dep
  | .push _, _ => by show 1 ≤ 4 ^ 1; decide
  | .pop, _ => by show 1 ≤ 4 ^ 1; decide
  | .row ws, h => by
    have e := Ws.cnt_le ws h.2
    have e2 : ws.len * 4 ^ ws.dep ≤ 3 * 4 ^ ws.dep := Nat.mul_le_mul_right _ h.1
    show ws.cnt ≤ 4 ^ (1 + ws.dep)
    rw [Nat.pow_add]
    omega
  | .times n w, h => by
    have e := W.cnt_le w h.2
    show n * w.cnt ≤ 4 ^ (1 + w.dep)
    rw [Nat.pow_add]
    exact Nat.mul_le_mul h.1 e
theorem Ws.cnt_le : ∀ ws : Ws, ws.Tm 4 → ws.cnt ≤ ws.len * 4 ^ ws.dep
  | .nil, _ => Nat.zero_le _
  | .cons w r, h => by
    have e1 := W.cnt_le w h.1
    have e2 := Ws.cnt_le r h.2
    show w.cnt + r.cnt ≤ (r.len + 1) * 4 ^ (max w.dep r.dep)
    have p1 : 4 ^ w.dep ≤ 4 ^ (max w.dep r.dep) := Nat.pow_le_pow_right (by decide) (Nat.le_max_left ..)
    have p2 : r.len * 4 ^ r.dep ≤ r.len * 4 ^ (max w.dep r.dep) := Nat.mul_le_mul_left _ (Nat.pow_le_pow_right (by decide) (Nat.le_max_right ..))
    rw [Nat.succ_mul]
    omega
end
mutual
theorem W.siz_pos : ∀ w : W, 1 ≤ w.siz
  | .push _ => Nat.le_refl _
  | .pop => Nat.le_refl _
  | .row ws => by show 1 ≤ 1 + ws.siz; omega
  | .times _ w => by show 1 ≤ 1 + w.siz; omega
end
mutual
theorem W.dep_pos : ∀ w : W, 1 ≤ w.dep
  | .push _ => Nat.le_refl _
  | .pop => Nat.le_refl _
  | .row ws => by show 1 ≤ 1 + ws.dep; omega
  | .times _ w => by show 1 ≤ 1 + w.dep; omega
end
mutual
theorem W.tri_ok {room many : Nat} (hr : 1 ≤ room) : ∀ w : W, w.Can many → TrOk room many (w.tri room)
  | .push c, h => tstep_ok hr (.inr h)
  | .pop, _ => tstep_ok hr (.inl rfl)
  | .row ws, h => Ws.tri_ok hr ws _ h.2 tunt_ok
  | .times n w, h => tpw_ok (W.tri_ok hr w h.2) n
theorem Ws.tri_ok {room many : Nat} (hr : 1 ≤ room) : ∀ (ws : Ws) (t : Tr), ws.Can many → TrOk room many t → TrOk room many (ws.tri room t)
  | .nil, _, _, a => a
  | .cons w r, t, h, a => Ws.tri_ok hr r _ h.2 (tjoin_ok a (W.tri_ok hr w h.1))
end
mutual
theorem W.lng_in {many : Nat} : ∀ w : W, w.Can many → ∀ c ∈ w.lng, c = 45 ∨ c ∈ signs many
  | .push c, h, d, hd => by
    have e : d = c := by simpa [W.lng] using hd
    subst e
    exact .inr h
  | .pop, _, d, hd => .inl (by simpa [W.lng] using hd)
  | .row ws, h, d, hd => Ws.lng_in ws h.2 d hd
  | .times n w, h, d, hd => by
    obtain ⟨l, hl, hd⟩ := List.mem_flatten.mp (show d ∈ (List.replicate n w.lng).flatten from hd)
    have e := List.eq_of_mem_replicate hl
    subst e
    exact W.lng_in w h.2 d hd
theorem Ws.lng_in {many : Nat} : ∀ ws : Ws, ws.Can many → ∀ c ∈ ws.lng, c = 45 ∨ c ∈ signs many
  | .nil, _, d, hd => by simp [Ws.lng] at hd
  | .cons w r, h, d, hd => by
    rcases List.mem_append.mp (show d ∈ w.lng ++ r.lng from hd) with h1 | h1
    · exact W.lng_in w h.1 d h1
    · exact Ws.lng_in r h.2 d h1
end
mutual
theorem W.tri_lng {room many : Nat} (hr : 1 ≤ room) : ∀ w : W, w.Can many → w.tri room = ttold room w.lng
  | .push c, h => (ttold_one (many := many) hr (.inr h)).symm
  | .pop, _ => (ttold_one (many := many) hr (.inl rfl)).symm
  | .row ws, h => by
    have e := Ws.tri_lng (many := many) hr ws (tunt room) h.2 tunt_ok
    rw [tunt_left (ttold_ok' hr (Ws.lng_in ws h.2))] at e
    exact e
  | .times n w, h => by
    have e := W.tri_lng hr w h.2
    have hin := W.lng_in w h.2
    have hok := W.tri_ok (room := room) hr w h.2
    show tpw room (w.tri room) n = ttold room (List.replicate n w.lng).flatten
    have k : ∀ n, tpw room (w.tri room) n = ttold room (List.replicate n w.lng).flatten ∧ ∀ c ∈ (List.replicate n w.lng).flatten, c = 45 ∨ c ∈ signs many := fun n => by
      induction n with
      | zero => exact ⟨rfl, fun c hc => by simp at hc⟩
      | succ n ih =>
        have e2 : (List.replicate (n + 1) w.lng).flatten = (List.replicate n w.lng).flatten ++ w.lng := by
          rw [List.replicate_succ', List.flatten_append]
          simp
        have h2 : ∀ c ∈ (List.replicate (n + 1) w.lng).flatten, c = 45 ∨ c ∈ signs many := fun c hc => by
          rw [e2] at hc
          rcases List.mem_append.mp hc with h3 | h3
          · exact ih.2 c h3
          · exact hin c h3
        refine ⟨?_, h2⟩
        show tjoin (tpw room (w.tri room) n) (w.tri room) = _
        rw [e2, ttold_app (many := many) hr ih.2 hin, ih.1, ← e]
    exact (k n).1
theorem Ws.tri_lng {room many : Nat} (hr : 1 ≤ room) : ∀ (ws : Ws) (t : Tr), ws.Can many → TrOk room many t → ws.tri room t = tjoin t (ttold room ws.lng)
  | .nil, t, _, a => (tunt_right a).symm
  | .cons w r, t, h, a => by
    have e1 := W.tri_lng (many := many) hr w h.1
    have o1 := W.tri_ok (room := room) hr w h.1
    have e2 := Ws.tri_lng hr r (tjoin t (w.tri room)) h.2 (tjoin_ok a o1)
    show r.tri room (tjoin t (w.tri room)) = tjoin t (ttold room (w.lng ++ r.lng))
    rw [e2, ttold_app (many := many) hr (W.lng_in w h.1) (Ws.lng_in r h.2), ← e1, tjoin_assoc a o1 (ttold_ok' hr (Ws.lng_in r h.2))]
end
mutual
theorem W.cnt_lng : ∀ w : W, w.cnt = w.lng.length
  | .push _ => rfl
  | .pop => rfl
  | .row ws => Ws.cnt_lng ws
  | .times n w => by
    have e := W.cnt_lng w
    show n * w.cnt = (List.replicate n w.lng).flatten.length
    rw [List.length_flatten, List.map_replicate, List.sum_replicate_nat, e]
theorem Ws.cnt_lng : ∀ ws : Ws, ws.cnt = ws.lng.length
  | .nil => rfl
  | .cons w r => by
    have e1 := W.cnt_lng w
    have e2 := Ws.cnt_lng r
    show w.cnt + r.cnt = (w.lng ++ r.lng).length
    rw [List.length_append, e1, e2]
end
/-- what steps cost -/
def sprc (f : Nat → Int) (l : List Nat) : Int := (l.map f).sum
theorem sprc_app (f : Nat → Int) (a b : List Nat) : sprc f (a ++ b) = sprc f a + sprc f b := by
  unfold sprc
  rw [List.map_append, List.sum_append]
mutual
theorem W.prc_lng (f : Nat → Int) : ∀ w : W, w.prc f = sprc f w.lng
  | .push c => by simp [W.prc, W.lng, sprc]
  | .pop => by simp [W.prc, W.lng, sprc]
  | .row ws => Ws.prc_lng f ws
  | .times n w => by
    have e := W.prc_lng f w
    show (n : Int) * w.prc f = sprc f (List.replicate n w.lng).flatten
    have k : ∀ n : Nat, (n : Int) * w.prc f = sprc f (List.replicate n w.lng).flatten := fun n => by
      induction n with
      | zero => simp [sprc]
      | succ n ih =>
        rw [List.replicate_succ, List.flatten_cons, sprc_app, ← ih, ← e, Int.natCast_succ, Int.add_mul, Int.one_mul, Int.add_comm]
    exact k n
theorem Ws.prc_lng (f : Nat → Int) : ∀ ws : Ws, ws.prc f = sprc f ws.lng
  | .nil => rfl
  | .cons w r => by
    have e1 := W.prc_lng f w
    have e2 := Ws.prc_lng f r
    show w.prc f + r.prc f = sprc f (w.lng ++ r.lng)
    rw [sprc_app, e1, e2]
end
end SK
namespace SK
open PySem PySem.Spec PyProof.Rows L2
/-! ### two rules: list(text), text * int -/
theorem call_listS {X : Cx} (hc : X.calm = true) : CallR X (.type "list") (fun xs H Q => ∃ z : Str, xs = [.str z] ∧ z.length ≤ sizeLine ∧ ∀ l, H l = none → Q (.ref l) (upd H l (.lst (z.cps.toList.map fun c => V.str ⟨#[c]⟩)))) := by
  intro pins s σ H xs us Q I r h
  obtain ⟨z, rfl, hz, q⟩ := h
  obtain ⟨u, rfl, rx⟩ := vals1 r
  obtain ⟨t, rfl⟩ := rx
  have hn : z.cps.size ≤ sizeLine := hz
  refine PySem.call_list_str (I.ok.hd hc) z t (fun h' tk acc' c' kp e hi => ?_) hn
  have hlen : z.cps.toList.length = z.cps.size := Array.length_toList
  have rv : Vals (z.cps.toList.map fun c => V.str ⟨#[c]⟩) acc'.toList := by
    obtain ⟨h1, h2⟩ := hi
    have hx : ∀ (cs : List Nat) (as : List Value), as.length = cs.length → (∀ (j : Nat) (v : Value), as[j]? = some v → ∃ c u, cs[j]? = some c ∧ v = .str ⟨#[c]⟩ u) → Vals (cs.map fun c => V.str ⟨#[c]⟩) as := by
      intro cs
      induction cs with
      | nil =>
        intro as hl _
        have e : as = [] := List.length_eq_zero_iff.mp hl
        subst e
        exact .nil
      | cons c r ih =>
        intro as hl ha
        cases as with
        | nil => cases hl
        | cons v vs =>
          obtain ⟨c', u, e1, e2⟩ := ha 0 v rfl
          cases e1
          subst e2
          exact .cons ⟨u, rfl⟩ (ih vs (Nat.succ.inj hl) fun j v hj => ha (j + 1) v hj)
    refine hx _ _ ?_ fun j v hj => ?_
    · rw [Array.length_toList, h1, hlen]
    · rw [Array.getElem?_toList] at hj
      obtain ⟨c, u, e1, e2⟩ := h2 j v hj
      exact ⟨c, u, by rw [Array.getElem?_toList]; exact e1, e2⟩
  exact ⟨.ref s.heap.objs.size, _, I.laid (t' := tk) kp (Nat.le_refl _) (show ObjOk X.prog X.w _ h' _ (.lst _) from ⟨by rw [List.length_map, hlen]; exact hn, acc'.toList, c', rv, by simpa using e⟩), rfl, q _ (I.hok.fresh (Nat.le_refl _))⟩
theorem mulOk {z : Str} {n : Nat} (h : z.length * n ≤ 16777216) (hn : n ≤ 1000000000000000000) : MulOk z (n : Int) := by
  have hp : (2 : Int) ^ 63 = 9223372036854775808 := by decide
  refine ⟨?_, fun h1 h2 => ?_, fun h1 h2 => ?_⟩
  · rw [hp]
    rw [Bool.or_eq_false_iff]
    exact ⟨decide_eq_false (by omega), decide_eq_false (by omega)⟩
  · rw [hp]
    have h' : (z.length : Int) * (n : Int) ≤ 16777216 := by
      have h0 := Int.ofNat_le.mpr h
      rw [Int.natCast_mul] at h0
      exact h0
    have h3 : (z.length : Int) ≤ (9223372036854775808 - 1 : Int) / (n : Int) := Int.le_ediv_of_mul_le (by omega) (by omega)
    omega
  · rw [Int.toNat_natCast]
    unfold Builtin.Str.tooLong
    have h4 : z.length * n ≤ sizeLine := h
    simp only [gt_iff_lt, decide_eq_false_iff_not]
    omega
theorem foldl_reps (l : List Nat) : ∀ (n : Nat) (acc : Array Nat), (List.replicate n l.toArray).foldl (· ++ ·) acc = acc ++ ((List.replicate n l).flatten).toArray
  | 0, acc => by simp
  | n + 1, acc => by
    rw [List.replicate_succ, List.foldl_cons, foldl_reps l n, List.replicate_succ, List.flatten_cons]
    simp
theorem mul_tx (l : List Nat) (n : Nat) : Txt.mul (tx l) (n : Int) = tx (List.replicate n l).flatten := by
  unfold Txt.mul
  by_cases h : (n : Int) < 1
  · have e : n = 0 := by omega
    subst e
    rw [if_pos h]
    rfl
  · rw [if_neg h]
    by_cases h2 : ((n : Int) == 1 || (tx l).length == 0) = true
    · rw [if_pos h2]
      rw [Bool.or_eq_true] at h2
      rcases h2 with h2 | h2
      · have e : n = 1 := by
          have := eq_of_beq h2
          omega
        subst e
        simp
      · have e : l = [] := by
          have := eq_of_beq h2
          rw [tx_len] at this
          exact List.length_eq_zero_iff.mp this
        subst e
        simp
    · rw [if_neg h2]
      have e := foldl_reps l n #[]
      show (⟨(List.replicate (n : Int).toNat l.toArray).foldl (· ++ ·) #[]⟩ : Str) = _
      rw [Int.toNat_natCast, e]
      simp [tx]
/-- text * int -/
def rMulS : R2 := fun x y H Q => ∃ (l : List Nat) (n : Nat), x = .str (tx l) ∧ y = .int n ∧ l.length * n ≤ 16777216 ∧ n ≤ 1000000000000000000 ∧ Q (.str (tx (List.replicate n l).flatten)) H
theorem op_mulS {X : Cx} : OpR X (binaryOp .Mult) rMulS := by
  intro pins s σ H x y v u Q I rx ry h
  obtain ⟨l, n, rfl, rfl, hz, hn, q⟩ := h
  obtain ⟨t, rfl⟩ := rx
  obtain ⟨t', rfl⟩ := ry
  refine SB.mul (mulOk (by rw [tx_len]; exact hz) hn) fun t'' k => ?_
  rw [mul_tx]
  exact ⟨.str (tx (List.replicate n l).flatten), H, I.tok _, ⟨_, rfl⟩, q⟩
theorem join_tx (ls : List (List Nat)) : Txt.join (tx []) (ls.map tx) = tx ls.flatten := by
  have h : ∀ (r : List (List Nat)) (acc : Array Nat), (r.map tx).foldl (fun (acc : Array Nat) (p : Str) => acc ++ (tx []).cps ++ p.cps) acc = acc ++ r.flatten.toArray := by
    intro r
    induction r with
    | nil =>
      intro acc
      simp
    | cons x r ih =>
      intro acc
      rw [List.map_cons, List.foldl_cons, ih, List.flatten_cons]
      simp [tx]
  show Builtin.Str.glued (tx []) (ls.map tx) = _
  unfold Builtin.Str.glued
  cases ls with
  | nil => rfl
  | cons x r =>
    have e := h r x.toArray
    show (⟨(r.map tx).foldl (fun (acc : Array Nat) (p : Str) => acc ++ (tx []).cps ++ p.cps) x.toArray⟩ : Str) = _
    rw [e]
    simp [tx]
theorem b_sum : bootBuiltins "sum" = some (.builtin "sum") := by decide +kernel
/-! ### tuples stand -/
structure Tups (H H' : Hp) : Prop where
  t : ∀ (b : Addr) (xs : List V), H b = some (.tup xs) → H' b = some (.tup xs)
  f : ∀ (b : Addr) (o : Obj) (xs : List V), H b = some (.frz o (.tup xs)) → H' b = some (.frz o (.tup xs))
instance {H H' : Hp} : CoeFun (Tups H H') (fun _ => ∀ (b : Addr) (xs : List V), H b = some (.tup xs) → H' b = some (.tup xs)) := ⟨Tups.t⟩
theorem Tups.refl (H : Hp) : Tups H H := ⟨fun _ _ h => h, fun _ _ _ h => h⟩
theorem Tups.of {H H' : Hp} (s : Same H H') : Tups H H' := ⟨fun b xs h => s b _ h, fun b o xs h => s b _ h⟩
theorem Tups.trans {H H1 H2 : Hp} (a : Tups H H1) (b : Tups H1 H2) : Tups H H2 := ⟨fun c xs h => b.t c xs (a.t c xs h), fun c o xs h => b.f c o xs (a.f c o xs h)⟩
theorem Keep.tups {p q : Addr} {H H' : Hp} {ns : List Int} {z : Int} (k : Keep p q H H') (B : BoxAt H p q ns z) : Tups H H' := ⟨fun _ _ h => k.tup B h, fun b o xs h => k _ _ h (B.no h fun _ => by intro z; cases z).1 (B.no h fun _ => by intro z; cases z).2⟩
theorem Tups.lst {H : Hp} {a : Addr} {xs ys : List V} (h : H a = some (.lst xs)) : Tups H (upd H a (.lst ys)) := ⟨fun b zs e => by
  rw [upd_ne (ne_of e h (by intro z; cases z))]
  exact e, fun b o zs e => by
  rw [upd_ne (ne_of e h (by intro z; cases z))]
  exact e⟩
theorem PlanAt.tups {H H' : Hp} {v : V} {p : Pl} (h : PlanAt H v p) (e : Tups H H') : PlanAt H' v p := by
  obtain ⟨a, b, h1, h2, ob, h3, h4⟩ := h
  exact ⟨a, b, h1, e.t _ _ h2, ob, h3, e.f _ _ _ h4⟩
theorem TripAt.tups {H H' : Hp} {v : V} {t : Tr} (h : TripAt H v t) (e : Tups H H') : TripAt H' v t := by
  obtain ⟨a, h1, h2⟩ := h
  exact ⟨a, h1, e _ _ h2⟩
/-! ### works as they stand in the heap -/
mutual
def WAt (H : Hp) : W → V → Prop
  | .push c, v => ∃ a, v = .ref a ∧ H a = some (.tup [.str "push", .str (tx [c])])
  | .pop, v => ∃ a, v = .ref a ∧ H a = some (.tup [.str "pop"])
  | .row ws, v => ∃ a b vs, v = .ref a ∧ H a = some (.tup [.str "row", .ref b]) ∧ H b = some (.tup vs) ∧ WsAt H ws vs
  | .times n w, v => ∃ a u, v = .ref a ∧ H a = some (.tup [.str "times", .int (n : Int), u]) ∧ WAt H w u
def WsAt (H : Hp) : Ws → List V → Prop
  | .nil, vs => vs = []
  | .cons w r, vs => ∃ v s, vs = v :: s ∧ WAt H w v ∧ WsAt H r s
end
mutual
theorem WAt.tups {H H' : Hp} (e : Tups H H') : ∀ {w : W} {v : V}, WAt H w v → WAt H' w v
  | .push c, v, h => by
    obtain ⟨a, h1, h2⟩ := h
    exact ⟨a, h1, e _ _ h2⟩
  | .pop, v, h => by
    obtain ⟨a, h1, h2⟩ := h
    exact ⟨a, h1, e _ _ h2⟩
  | .row ws, v, h => by
    obtain ⟨a, b, vs, h1, h2, h3, h4⟩ := h
    exact ⟨a, b, vs, h1, e _ _ h2, e _ _ h3, WsAt.tups e h4⟩
  | .times n w, v, h => by
    obtain ⟨a, u, h1, h2, h3⟩ := h
    exact ⟨a, u, h1, e _ _ h2, WAt.tups e h3⟩
theorem WsAt.tups {H H' : Hp} (e : Tups H H') : ∀ {ws : Ws} {vs : List V}, WsAt H ws vs → WsAt H' ws vs
  | .nil, vs, h => h
  | .cons w r, vs, h => by
    obtain ⟨v, s, h1, h2, h3⟩ := h
    exact ⟨v, s, h1, WAt.tups e h2, WsAt.tups e h3⟩
end
def Ws.list : Ws → List W
  | .nil => []
  | .cons w r => w :: r.list
theorem Ws.len_list : ∀ ws : Ws, ws.list.length = ws.len
  | .nil => rfl
  | .cons w r => by
    show r.list.length + 1 = r.len + 1
    rw [r.len_list]
theorem WsAt.len {H : Hp} : ∀ {ws : Ws} {vs : List V}, WsAt H ws vs → vs.length = ws.list.length
  | .nil, vs, h => by
    cases h
    rfl
  | .cons w r, vs, h => by
    obtain ⟨v, s, rfl, h2, h3⟩ := h
    show s.length + 1 = r.list.length + 1
    rw [h3.len]
theorem WsAt.get {H : Hp} : ∀ {ws : Ws} {vs : List V}, WsAt H ws vs → ∀ {i : Nat} {x : V}, vs[i]? = some x → ∃ w, ws.list[i]? = some w ∧ WAt H w x
  | .nil, vs, h, i, x, e => by
    cases h
    cases e
  | .cons w r, vs, h, i, x, e => by
    obtain ⟨v, s, rfl, h2, h3⟩ := h
    cases i with
    | zero =>
      cases e
      exact ⟨w, rfl, h2⟩
    | succ i => exact h3.get (i := i) e
theorem Ws.siz_list : ∀ ws : Ws, ws.siz = (ws.list.map W.siz).sum
  | .nil => rfl
  | .cons w r => by
    show w.siz + r.siz = (w.siz :: r.list.map W.siz).sum
    rw [List.sum_cons, r.siz_list]
theorem Ws.cnt_list : ∀ ws : Ws, ws.cnt = (ws.list.map W.cnt).sum
  | .nil => rfl
  | .cons w r => by
    show w.cnt + r.cnt = (w.cnt :: r.list.map W.cnt).sum
    rw [List.sum_cons, r.cnt_list]
theorem Ws.prc_list (f : Nat → Int) : ∀ ws : Ws, ws.prc f = (ws.list.map (W.prc f)).sum
  | .nil => rfl
  | .cons w r => by
    show w.prc f + r.prc f = (w.prc f :: r.list.map (W.prc f)).sum
    rw [List.sum_cons, r.prc_list]
theorem Ws.lng_list : ∀ ws : Ws, ws.lng = (ws.list.map W.lng).flatten
  | .nil => rfl
  | .cons w r => by
    show w.lng ++ r.lng = (w.lng :: r.list.map W.lng).flatten
    rw [List.flatten_cons, r.lng_list]
theorem Ws.tri_list (room : Nat) : ∀ (ws : Ws) (t : Tr), ws.tri room t = ws.list.foldl (fun t w => tjoin t (w.tri room)) t
  | .nil, _ => rfl
  | .cons w r, t => r.tri_list room (tjoin t (w.tri room))
theorem Ws.dep_mem : ∀ {ws : Ws} {w : W}, w ∈ ws.list → w.dep ≤ ws.dep
  | .nil, w, h => by cases h
  | .cons w' r, w, h => by
    show w.dep ≤ max w'.dep r.dep
    rcases List.mem_cons.mp h with h | h
    · subst h
      exact Nat.le_max_left ..
    · exact Nat.le_trans (Ws.dep_mem h) (Nat.le_max_right ..)
theorem Ws.can_mem {many : Nat} : ∀ {ws : Ws} {w : W}, ws.Can many → w ∈ ws.list → w.Can many
  | .nil, w, _, h => by cases h
  | .cons w' r, w, c, h => by
    rcases List.mem_cons.mp h with h | h
    · subst h
      exact c.1
    · exact Ws.can_mem c.2 h
theorem Ws.tm_mem {t : Nat} : ∀ {ws : Ws} {w : W}, ws.Tm t → w ∈ ws.list → w.Tm t
  | .nil, w, _, h => by cases h
  | .cons w' r, w, c, h => by
    rcases List.mem_cons.mp h with h | h
    · subst h
      exact c.1
    · exact Ws.tm_mem c.2 h
theorem Ws.cnt_mem : ∀ {ws : Ws} {w : W}, w ∈ ws.list → w.cnt ≤ ws.cnt
  | .nil, w, h => by cases h
  | .cons w' r, w, h => by
    show w.cnt ≤ w'.cnt + r.cnt
    rcases List.mem_cons.mp h with h | h
    · subst h
      omega
    · have := Ws.cnt_mem h
      omega
theorem s_push : ¬ (("push" : Str) = "pop") := by decide +kernel
theorem s_pu_ro : ¬ (("push" : Str) = "row") := by decide +kernel
theorem s_pu_ti : ¬ (("push" : Str) = "times") := by decide +kernel
theorem s_po_pu : ¬ (("pop" : Str) = "push") := by decide +kernel
theorem s_po_ro : ¬ (("pop" : Str) = "row") := by decide +kernel
theorem s_po_ti : ¬ (("pop" : Str) = "times") := by decide +kernel
theorem s_ro_pu : ¬ (("row" : Str) = "push") := by decide +kernel
theorem s_ro_po : ¬ (("row" : Str) = "pop") := by decide +kernel
theorem s_ro_ti : ¬ (("row" : Str) = "times") := by decide +kernel
theorem s_ti_pu : ¬ (("times" : Str) = "push") := by decide +kernel
theorem s_ti_po : ¬ (("times" : Str) = "pop") := by decide +kernel
theorem s_ti_ro : ¬ (("times" : Str) = "row") := by decide +kernel
theorem vne {a b : Str} (h : ¬ a = b) : ¬ (V.str a = V.str b) := fun z => by
  injection z with z
  exact h z
theorem sign_at {M : Nat} {r : Int} (hm : M ≤ 4) (r0 : 0 ≤ r) (r1 : r < (M : Int)) : ∃ c : Nat, c ∈ signs M ∧ atI (("abcd" : Str).cps.toList) r = some c := by
  obtain ⟨R, rfl⟩ : ∃ R : Nat, r = (R : Int) := ⟨r.toNat, by omega⟩
  have hR : R < M := by omega
  have h3 : R < ([97, 98, 99, 100] : List Nat).length := by show R < 4; omega
  refine ⟨([97, 98, 99, 100] : List Nat)[R], ?_, ?_⟩
  · unfold signs
    exact List.mem_take_iff_getElem.mpr ⟨R, by rw [Nat.lt_min]; exact ⟨hR, h3⟩, rfl⟩
  · exact atI_nat (by rw [s_abcd]; exact List.getElem?_eq_getElem h3)
/-- what a work is made of -/
def W.within : W → Ws
  | .push _ => .nil
  | .pop => .nil
  | .row ws => ws
  | .times _ w => .cons w .nil
structure WOk (many : Nat) (w : W) : Prop where
  can : w.Can many
  siz : w.siz ≤ 60
  dep : w.dep ≤ 8
/-- what a step costs -/
def cst (p : Pl) (c : Nat) : Int := if c = 45 then p.pop else p.pr.getD (c - 97) 0
/-! ### promises -/
def spAlone : Sp := fun vs H Q _ => ∃ (w : W) (v : V) (D : Addr) (many : Nat), vs = [v, .ref D] ∧ WAt H w v ∧ H D = some (.lst ((signs many).map fun c => V.str (tx [c]))) ∧ w.Can many ∧ giv (.bl true) H Q
def spWithin : Sp := fun vs H Q _ => ∃ (w : W) (v : V), vs = [v] ∧ WAt H w v ∧ ∀ (H' : Hp) (u : Addr) (xs : List V), Same H H' → H' u = some (.tup xs) → WsAt H' w.within xs → Q (.ref u) H'
def spChWork : Sp := fun vs H Q _ => ∃ v p u w, vs = [v, u] ∧ PlanAt H v p ∧ p.Ok ∧ WAt H w u ∧ WOk p.many w ∧ giv .non H Q
def spTri (n : Nat) : Sp := fun vs H Q _ => ∃ v p u w, vs = [v, u] ∧ PlanAt H v p ∧ p.Ok ∧ WAt H w u ∧ w.Can p.many ∧ w.dep ≤ n ∧ givT (w.tri p.room) H Q
def spPower : Sp := fun vs H Q _ => ∃ (v : V) (p : Pl) (u : V) (t : Tr) (n : Nat), vs = [v, u, .int n] ∧ PlanAt H v p ∧ p.Ok ∧ TripAt H u t ∧ TrOk p.room p.many t ∧ n ≤ 1000000000000000000 ∧ givT (tpw p.room t n) H Q
def spTold : Sp := fun vs H Q _ => ∃ v p u w, vs = [v, u] ∧ PlanAt H v p ∧ p.Ok ∧ WAt H w u ∧ WOk p.many w ∧ givT (w.tri p.room) H Q
def spRun : Sp := fun vs H Q _ => ∃ v p u w l, vs = [v, u, .str (tx l)] ∧ PlanAt H v p ∧ p.Ok ∧ WAt H w u ∧ WOk p.many w ∧ l.length ≤ p.room ∧ (∀ c ∈ l, c ∈ signs p.many) ∧ giv (.str (tx (tby (w.tri p.room) l))) H Q
def spPStep : Sp := fun vs H Q _ => ∃ v p c, vs = [v, .str (tx [c])] ∧ PlanAt H v p ∧ p.Ok ∧ (c = 45 ∨ c ∈ signs p.many) ∧ giv (.int (cst p c)) H Q
def spPWork (n : Nat) : Sp := fun vs H Q _ => ∃ v p u w, vs = [v, u] ∧ PlanAt H v p ∧ p.Ok ∧ WAt H w u ∧ w.Can p.many ∧ w.dep ≤ n ∧ giv (.int (w.prc (cst p))) H Q
def spCost : Sp := fun vs H Q _ => ∃ v p u w, vs = [v, u] ∧ PlanAt H v p ∧ p.Ok ∧ WAt H w u ∧ WOk p.many w ∧ giv (.int (w.prc (cst p))) H Q
def spLTuples (n : Nat) : Sp := fun vs H Q _ => ∃ u w many, vs = [u] ∧ WAt H w u ∧ (w : W).Can many ∧ w.dep ≤ n ∧ giv (.int ((w : W).siz : Int)) H Q
def spLCount (n : Nat) : Sp := fun vs H Q _ => ∃ u w many, vs = [u] ∧ WAt H w u ∧ (w : W).Can many ∧ w.dep ≤ n ∧ giv (.int ((w : W).cnt : Int)) H Q
def spLLong (n : Nat) : Sp := fun vs H Q _ => ∃ u w many, vs = [u] ∧ WAt H w u ∧ (w : W).Can many ∧ w.dep ≤ n ∧ w.Tm 4 ∧ w.dep ≤ 8 ∧ giv (.str (tx w.lng)) H Q
def spLWork (n : Nat) : Sp := fun vs H Q _ => ∃ (p q : Addr) (ns : List Int) (z : Int) (v : V) (pl : Pl) (m tm : Nat), vs = [.ref p, v, .int (m : Int), .int (tm : Int)] ∧ BoxAt H p q ns z ∧ PlanAt H v pl ∧ pl.Ok ∧ 1 ≤ m ∧ m ≤ n ∧ tm ≤ 1000000000000000000 ∧
  ∀ (w : W) (u : V) (ns' : List Int) (z' : Int) (H' : Hp), w.Can pl.many → w.dep ≤ m → w.Tm tm → WAt H' w u → BoxAt H' p q ns' z' → Keep p q H H' → Q u H'
def spLSome (n : Nat) : Sp := fun vs H Q _ => ∃ (p q : Addr) (ns : List Int) (z : Int) (v : V) (pl : Pl) (m tm lim : Nat), vs = [.ref p, v, .int (m : Int), .int (tm : Int), .int (lim : Int)] ∧ BoxAt H p q ns z ∧ PlanAt H v pl ∧ pl.Ok ∧ 1 ≤ m ∧ m ≤ n ∧ 2 ≤ m ∧ 2 ≤ tm ∧ tm ≤ 1000000000000000000 ∧ 2 ≤ lim ∧
  ∀ (w : W) (u : V) (ns' : List Int) (z' : Int) (H' : Hp), w.Can pl.many → w.dep ≤ m → w.siz ≤ lim → w.Tm tm → WAt H' w u → BoxAt H' p q ns' z' → Keep p q H H' → Q u H'
def ofL : List W → Ws
  | [] => .nil
  | w :: r => .cons w (ofL r)
theorem ofL_len : ∀ l : List W, (ofL l).len = l.length
  | [] => rfl
  | w :: r => by
    show (ofL r).len + 1 = r.length + 1
    rw [ofL_len r]
theorem ofL_can {many : Nat} : ∀ l : List W, (∀ w ∈ l, w.Can many) → (ofL l).Can many
  | [], _ => trivial
  | w :: r, h => ⟨h w (List.mem_cons_self ..), ofL_can r fun x hx => h x (List.mem_cons_of_mem _ hx)⟩
theorem ofL_tm {t : Nat} : ∀ l : List W, (∀ w ∈ l, w.Tm t) → (ofL l).Tm t
  | [], _ => trivial
  | w :: r, h => ⟨h w (List.mem_cons_self ..), ofL_tm r fun x hx => h x (List.mem_cons_of_mem _ hx)⟩
theorem ofL_dep {n : Nat} : ∀ l : List W, (∀ w ∈ l, w.dep ≤ n) → (ofL l).dep ≤ n
  | [], _ => Nat.zero_le _
  | w :: r, h => by
    show max w.dep (ofL r).dep ≤ n
    exact Nat.max_le.mpr ⟨h w (List.mem_cons_self ..), ofL_dep r fun x hx => h x (List.mem_cons_of_mem _ hx)⟩
/-- works and their values, one by one -/
def W2 (H : Hp) : List W → List V → Prop
  | [], vs => vs = []
  | w :: r, vs => ∃ v s, vs = v :: s ∧ WAt H w v ∧ W2 H r s
theorem W2.ws {H : Hp} : ∀ {l : List W} {vs : List V}, W2 H l vs → WsAt H (ofL l) vs
  | [], _, h => h
  | _ :: _, _, h => by
    obtain ⟨v, s, h1, h2, h3⟩ := h
    exact ⟨v, s, h1, h2, h3.ws⟩
theorem W2.tups {H H' : Hp} (e : Tups H H') : ∀ {l : List W} {vs : List V}, W2 H l vs → W2 H' l vs
  | [], _, h => h
  | _ :: _, _, h => by
    obtain ⟨v, s, h1, h2, h3⟩ := h
    exact ⟨v, s, h1, h2.tups e, h3.tups e⟩
theorem W2.snoc {H : Hp} {w : W} {u : V} (hu : WAt H w u) : ∀ {l : List W} {vs : List V}, W2 H l vs → W2 H (l ++ [w]) (vs ++ [u])
  | [], _, h => by
    cases h
    exact ⟨u, [], rfl, hu, rfl⟩
  | _ :: _, _, h => by
    obtain ⟨v, s, rfl, h2, h3⟩ := h
    exact ⟨v, s ++ [u], rfl, h2, h3.snoc hu⟩
theorem W2.len {H : Hp} : ∀ {l : List W} {vs : List V}, W2 H l vs → vs.length = l.length
  | [], _, h => by
    cases h
    rfl
  | _ :: r, _, h => by
    obtain ⟨v, s, rfl, h2, h3⟩ := h
    show s.length + 1 = r.length + 1
    rw [h3.len]
theorem tx1_len : ∀ l : List Nat, ((l.map fun c => tx [c]).map (·.length)).sum = l.length
  | [] => rfl
  | c :: r => by
    show 1 + ((r.map fun c => tx [c]).map (·.length)).sum = r.length + 1
    rw [tx1_len r, Nat.add_comm]
theorem flat1 : ∀ l : List Nat, (l.map fun c => [c]).flatten = l
  | [] => rfl
  | c :: r => by
    show c :: (r.map fun c => [c]).flatten = c :: r
    rw [flat1 r]
end SK
namespace SK
theorem tpw_comm {room many : Nat} {t : Tr} (a : TrOk room many t) (n : Nat) : tpw room t (n + 1) = tjoin t (tpw room t n) := by
  have e := tpw_add a 1 n
  rw [tpw_one a, Nat.add_comm] at e
  exact e
/-- where nothing stays, whatever goes ahead -/
theorem tjoin_const {room many : Nat} {t u : Tr} (a : TrOk room many t) (b : TrOk room many u) (h : u.k = 0) : tjoin t u = u := by
  have hc : ∀ x, tby u x = u.l := fun x => by
    simp only [tby, h, tp_zero, List.nil_append]
  exact tr_ext (c := 97) (tjoin_ok a b) b fun s _ => by rw [tby_join, hc, hc]
theorem tidy_eq {g k : Nat} {l : List Nat} (h : k ≠ 0) : tidy g k l = ⟨g, k, l⟩ := by
  unfold tidy
  rw [if_neg h]
theorem tidy_k (g k : Nat) (l : List Nat) : (tidy g k l).k = k := by
  unfold tidy
  by_cases h : k = 0
  · rw [if_pos h]
    exact h.symm
  · rw [if_neg h]
theorem tjoin_k (t u : Tr) : (tjoin t u).k = min (t.k - (u.g - t.l.length)) (u.k - (ct u.g t.l).length) := tidy_k _ _ _
theorem tpw_k_le {room many : Nat} {t : Tr} (a : TrOk room many t) (n : Nat) : (tpw room t (n + 1)).k ≤ (tpw room t n).k := by
  show (tjoin (tpw room t n) t).k ≤ _
  rw [tjoin_k]
  omega
theorem tpw_same {room many : Nat} {t : Tr} (a : TrOk room many t) {n : Nat} (h : (tpw room t (n + 1)).k = (tpw room t n).k) (h0 : (tpw room t n).k ≠ 0) : tpw room t (n + 1) = tpw room t n := by
  have b := tpw_ok a n
  have e1 : tpw room t (n + 1) = tjoin (tpw room t n) t := rfl
  have e2 := tpw_comm a n
  generalize tpw room t n = u at h h0 b e1 e2
  have k1 : (tjoin u t).k = u.k := by rw [← e1]; exact h
  have k2 : (tjoin t u).k = u.k := by rw [← e2]; exact h
  rw [tjoin_k, len_ct] at k1 k2
  have g1 : t.g - u.l.length = 0 := by omega
  have g2 : t.l.length - u.g = 0 := by omega
  have x1 : tjoin u t = ⟨u.g, u.k, tp t.k (ct t.g u.l) ++ t.l⟩ := by
    unfold tjoin
    rw [tidy_eq (by rw [len_ct]; omega)]
    have e3 : min (u.k - (t.g - u.l.length)) (t.k - (ct t.g u.l).length) = u.k := by rw [len_ct]; exact k1
    rw [e3, g1, Nat.add_zero]
  have x2 : (tjoin t u).l = u.l := by
    unfold tjoin
    rw [tidy_eq (by rw [len_ct]; omega)]
    have e3 : ct u.g t.l = [] := ct_all (by omega)
    show tp u.k (ct u.g t.l) ++ u.l = u.l
    rw [e3]
    simp [tp]
  have x3 : tp t.k (ct t.g u.l) ++ t.l = u.l := by
    have e4 : tjoin u t = tjoin t u := e1.symm.trans e2
    rw [← e4, x1] at x2
    exact x2
  rw [e1, x1, x3]
theorem tpw_low {room many : Nat} {t : Tr} (a : TrOk room many t) (hr : 1 ≤ room) : ∀ n, 1 ≤ n → tpw room t (n + 1) = tpw room t n ∨ (tpw room t n).k + n ≤ room
  | 0, h => absurd h (by omega)
  | 1, _ => by
    by_cases h : t.k = room
    · refine .inl ?_
      have hg : t.g = 0 := by have := a.gk; omega
      have hl : t.l = [] := List.length_eq_zero_iff.mp (by have := a.kl; omega)
      have e : t = tunt room := by
        cases t
        simp only at h hg hl
        subst h hg hl
        rfl
      show tjoin (tpw room t 1) t = tpw room t 1
      rw [tpw_one a]
      have e5 : tjoin (tunt room) t = t := tunt_left a
      rw [← e] at e5
      exact e5
    · refine .inr ?_
      rw [tpw_one a]
      have := a.gk
      omega
  | n + 2, _ => by
    rcases tpw_low a hr (n + 1) (by omega) with h | h
    · refine .inl ?_
      show tjoin (tpw room t (n + 2)) t = tpw room t (n + 2)
      have h' : tpw room t (n + 2) = tpw room t (n + 1) := h
      rw [h']
      exact h'
    · have hle := tpw_k_le a (n + 1)
      have hle' : (tpw room t (n + 2)).k ≤ (tpw room t (n + 1)).k := hle
      by_cases h0 : (tpw room t (n + 1)).k = 0
      · refine .inl ?_
        have c1 : tpw room t (n + 2) = tpw room t (n + 1) := by
          rw [tpw_comm a (n + 1)]
          exact tjoin_const a (tpw_ok a _) h0
        show tjoin (tpw room t (n + 2)) t = tpw room t (n + 2)
        rw [c1]
        exact c1
      · by_cases h1 : (tpw room t (n + 2)).k = (tpw room t (n + 1)).k
        · refine .inl ?_
          have c1 : tpw room t (n + 2) = tpw room t (n + 1) := tpw_same a h1 h0
          show tjoin (tpw room t (n + 2)) t = tpw room t (n + 2)
          rw [c1]
          exact c1
        · exact .inr (by omega)
theorem tpw_next {room many : Nat} {t : Tr} (a : TrOk room many t) (hr : 1 ≤ room) {n : Nat} (h : room ≤ n) : tpw room t (n + 1) = tpw room t n := by
  rcases tpw_low a hr n (by omega) with e | e
  · exact e
  · rw [tpw_comm a n]
    exact tjoin_const a (tpw_ok a _) (by omega)
/-- from as many as there's room on -/
theorem tpw_far {room many : Nat} {t : Tr} (a : TrOk room many t) (hr : 1 ≤ room) : ∀ m, tpw room t (room + m) = tpw room t room
  | 0 => rfl
  | m + 1 => by
    have e := tpw_next a hr (n := room + m) (by omega)
    rw [tpw_far a hr m] at e
    exact e
theorem tpw_mul {room many : Nat} {t : Tr} (a : TrOk room many t) (m : Nat) : ∀ n, tpw room (tpw room t m) n = tpw room t (m * n)
  | 0 => rfl
  | n + 1 => by
    show tjoin (tpw room (tpw room t m) n) (tpw room t m) = _
    rw [tpw_mul a m n, Nat.mul_succ, tpw_add a]
end SK
namespace SK
open PySem PySem.Spec PyProof.Rows L2
/-! ### triples compared -/
def trD (t : Tr) : PyData := .tuple [.int t.g, .int t.k, .str (tx t.l)]
theorem dp_trip {K : PySem.W.Frag} {H : Hp} {v : V} {t : Tr} (h : TripAt H v t) : Dp K H v (trD t) := by
  obtain ⟨a, rfl, ha⟩ := h
  exact .tup (SqT.of ha) (.cons (.int _) (.cons (.int _) (.cons (.str _) .nil)))
theorem signs_lt {many c : Nat} (h : c ∈ signs many) : c < 1114112 := by
  have h4 := List.mem_of_mem_take (show c ∈ List.take many [97, 98, 99, 100] from h)
  have : c = 97 ∨ c = 98 ∨ c = 99 ∨ c = 100 := by simpa using h4
  omega
theorem strOk_tx {l : List Nat} (h : ∀ c ∈ l, c < 1114112) : PyData.strOk (tx l) = true := by
  show l.toArray.all (· < 0x110000) = true
  rw [Array.all_eq_true']
  intro c hc
  exact decide_eq_true (h c (by simpa using hc))
theorem trD_can {room many : Nat} {t : Tr} (a : TrOk room many t) : PyData.canLay0 (trD t) = true := by
  show (true && (true && (PyData.strOk (tx t.l) && true))) = true
  rw [strOk_tx fun c hc => signs_lt (a.s c hc)]
  rfl
theorem trD_shaped {room many : Nat} {t : Tr} (a : TrOk room many t) : SeqAt.shaped (trD t) = true := by
  show (PyData.canLay0 (trD t) && decide (PyData.depth (trD t) ≤ 64)) = true
  rw [trD_can a]
  rfl
theorem trD_eqv {room many : Nat} {t : Tr} (a : TrOk room many t) : PyData.eqv (trD t) (trD t) = true := SeqAt.eqv_refl _ (trD_can a)
/-- t != u of the same triple -/
theorem ne_trip {K : PySem.W.Frag} {H : Hp} {Q : VK} {v u : V} {room many : Nat} {t : Tr} (a : TrOk room many t) (hv : TripAt H v t) (hu : TripAt H u t) (q : Q (.bl false) H) : rNeD K v u H Q := by
  refine ⟨trD t, trD t, dp_trip hv, dp_trip hu, trD_shaped a, trD_shaped a, ?_⟩
  rw [trD_eqv a]
  exact q
def spTimes : Sp := fun vs H Q _ => ∃ n : Nat, vs = [.int (n : Int)] ∧ n ≤ 1000000000000000000 ∧ giv .non H Q
def spJoined : Sp := fun vs H Q _ => ∃ v p a b t u, vs = [v, a, b] ∧ PlanAt H v p ∧ p.Ok ∧ TripAt H a t ∧ TrOk p.room p.many t ∧ TripAt H b u ∧ TrOk p.room p.many u ∧ givT (tjoin t u) H Q
end SK
namespace SK
open PySem PySem.Spec PyProof.Rows L2
/-! ### the least stack that parts two triples -/
theorem tp_min {k j : Nat} {l : List Nat} (h : min k l.length = min j l.length) : tp k l = tp j l := by
  unfold tp
  congr 1
  omega
theorem same_upto {room many : Nat} {t u : Tr} (a : TrOk room many t) (b : TrOk room many u) {c : Nat} (st : List Nat) (h : ∀ s, s ≤ st.length → tby t (List.replicate s c) = tby u (List.replicate s c)) : tby t st = tby u st := by
  have h0 := h 0 (Nat.zero_le _)
  have hl : t.l = u.l := by
    simp only [tby, List.replicate_zero, ct, tp, List.length_nil, List.take_nil, List.drop_nil, List.nil_append] at h0
    exact h0
  have hn : ∀ s, s ≤ st.length → min t.k (s - t.g) = min u.k (s - u.g) := fun s hs => by
    have e := congrArg List.length (h s hs)
    rw [len_tby, len_tby, List.length_replicate, hl] at e
    omega
  have hv := hn st.length (Nat.le_refl _)
  simp only [tby]
  rw [hl]
  congr 1
  by_cases z : min t.k (st.length - t.g) = 0
  · have e1 : tp t.k (ct t.g st) = [] := List.length_eq_zero_iff.mp (by rw [len_tp, len_ct]; exact z)
    have e2 : tp u.k (ct u.g st) = [] := List.length_eq_zero_iff.mp (by rw [len_tp, len_ct]; omega)
    rw [e1, e2]
  · have x1 := hn (t.g + 1) (by omega)
    have x2 := hn (u.g + 1) (by omega)
    have hg : t.g = u.g := by omega
    rw [hg]
    refine tp_min ?_
    rw [len_ct]
    rw [hg] at hv
    exact hv
theorem rep_lay {many : Nat} (hm : 97 ∈ signs many) : ∀ n, ∃ r, lay many n = List.replicate n 97 :: r
  | 0 => ⟨[], rfl⟩
  | n + 1 => by
    obtain ⟨r, e⟩ := rep_lay hm n
    have hs : ∃ s, signs many = 97 :: s := by
      cases many with
      | zero => simp [signs] at hm
      | succ m => exact ⟨_, List.take_succ_cons ..⟩
    obtain ⟨s, es⟩ := hs
    refine ⟨(s.map fun c => List.replicate n 97 ++ [c]) ++ r.flatMap fun l => (signs many).map fun c => l ++ [c], ?_⟩
    show (lay many n).flatMap (fun l => (signs many).map fun c => l ++ [c]) = _
    rw [e, List.flatMap_cons, es, List.map_cons, List.cons_append, List.replicate_succ']
theorem rep_stk {many : Nat} (hm : 97 ∈ signs many) : ∀ {n s : Nat}, s ≤ n → List.replicate s 97 ∈ stk many n
  | 0, s, h => by
    have e : s = 0 := by omega
    subst e
    exact List.mem_singleton.mpr rfl
  | n + 1, s, h => by
    by_cases e : s = n + 1
    · subst e
      obtain ⟨r, er⟩ := rep_lay hm (n + 1)
      refine List.mem_append.mpr (.inr ?_)
      rw [er]
      exact List.mem_cons_self ..
    · exact List.mem_append.mpr (.inl (rep_stk hm (by omega)))
/-- the stacks ahead of the least of a size -/
theorem stk_split {many : Nat} (hm : 97 ∈ signs many) : ∀ {n s : Nat}, s ≤ n → ∃ a b, stk many n = a ++ List.replicate s 97 :: b ∧ ∀ x ∈ a, x.length < s
  | 0, s, h => by
    have e : s = 0 := by omega
    subst e
    exact ⟨[], [], rfl, fun x hx => by simp at hx⟩
  | n + 1, s, h => by
    by_cases e : s = n + 1
    · subst e
      obtain ⟨r, er⟩ := rep_lay hm (n + 1)
      refine ⟨stk many n, r, ?_, fun x hx => Nat.lt_succ_of_le (stk_mem hx).1⟩
      show stk many n ++ lay many (n + 1) = _
      rw [er]
    · obtain ⟨a, b, e1, e2⟩ := stk_split hm (n := n) (s := s) (by omega)
      refine ⟨a, b ++ lay many (n + 1), ?_, e2⟩
      show stk many n ++ lay many (n + 1) = _
      rw [e1]
      simp
def Unl (t u : Tr) (st : List Nat) : Bool := decide (tby t st ≠ tby u st)
theorem unl_first {room many : Nat} {t u : Tr} (a : TrOk room many t) (b : TrOk room many u) (hm : 97 ∈ signs many) {s : Nat} (hs : s ≤ room) (h1 : tby t (List.replicate s 97) ≠ tby u (List.replicate s 97))
    (h2 : ∀ s', s' < s → tby t (List.replicate s' 97) = tby u (List.replicate s' 97)) : ∃ r, (stk many room).filter (Unl t u) = List.replicate s 97 :: r := by
  obtain ⟨x, y, e1, e2⟩ := stk_split hm hs
  refine ⟨y.filter (Unl t u), ?_⟩
  rw [e1, List.filter_append]
  have e3 : x.filter (Unl t u) = [] := by
    rw [List.filter_eq_nil_iff]
    intro st hst
    have e4 := same_upto a b (c := 97) st fun s' hs' => h2 s' (by have := e2 st hst; omega)
    simp [Unl, e4]
  rw [e3, List.nil_append, List.filter_cons_of_pos]
  exact decide_eq_true h1
theorem unl_none {room many : Nat} {t u : Tr} (a : TrOk room many t) (b : TrOk room many u) (h : ∀ s, s ≤ room → tby t (List.replicate s 97) = tby u (List.replicate s 97)) : t = u := tr_ext (c := 97) a b h
theorem unl_nil {room many : Nat} {t u : Tr} (a : TrOk room many t) (b : TrOk room many u) (hm : 97 ∈ signs many) : (stk many room).filter (Unl t u) = [] ↔ t = u := by
  constructor
  · intro h
    refine tr_ext (c := 97) a b fun s hs => ?_
    by_cases e : tby t (List.replicate s 97) = tby u (List.replicate s 97)
    · exact e
    · have h2 := List.filter_eq_nil_iff.mp h _ (rep_stk hm hs)
      exact absurd (decide_eq_true e) h2
  · intro h
    subst h
    rw [List.filter_eq_nil_iff]
    intro st _
    simp [Unl]
/-! ### values compared -/
theorem eqv_trD {t u : Tr} : PyData.eqv (trD t) (trD u) = true ↔ t = u := by
  have e : PyData.eqv (trD t) (trD u) = (((t.g : Int) == (u.g : Int)) && (((t.k : Int) == (u.k : Int)) && ((tx t.l == tx u.l) && true))) := by
    simp [trD, PyData.eqv, PyData.eqvAll]
  rw [e]
  constructor
  · intro h
    simp only [Bool.and_eq_true, beq_iff_eq, Bool.and_true] at h
    obtain ⟨h1, h2, h3⟩ := h
    have h4 := str_inj.mp h3
    cases t
    cases u
    simp only at h1 h2 h4
    have h1' := Int.ofNat.inj h1
    have h2' := Int.ofNat.inj h2
    subst h1' h2' h4
    rfl
  · intro h
    subst h
    simp
theorem dpTx {K : PySem.W.Frag} {H : Hp} : ∀ ls : List (List Nat), DpAll K H (ls.map fun l => V.str (tx l)) (ls.map fun l => PyData.str (tx l))
  | [] => .nil
  | l :: r => .cons (.str _) (dpTx r)
theorem shTx : ∀ ls : List (List Nat), (∀ l ∈ ls, ∀ c ∈ l, c < 1114112) → SeqAt.shaped (.list (ls.map fun l => PyData.str (tx l))) = true := fun ls h => by
  have h1 : ∀ ls : List (List Nat), (∀ l ∈ ls, ∀ c ∈ l, c < 1114112) → PyData.canLayAll0 (ls.map fun l => PyData.str (tx l)) = true := fun ls h => by
    induction ls with
    | nil => rfl
    | cons l r ih =>
      show (PyData.strOk (tx l) && PyData.canLayAll0 (r.map _)) = true
      rw [strOk_tx (h l (List.mem_cons_self ..)), ih fun x hx => h x (List.mem_cons_of_mem _ hx)]
      rfl
  have h2 : ∀ ls : List (List Nat), PyData.depthAll (ls.map fun l => PyData.str (tx l)) = 0 := fun ls => by
    induction ls with
    | nil => rfl
    | cons l r ih =>
      show max 0 (PyData.depthAll (r.map _)) = 0
      rw [ih]
      rfl
  show (PyData.canLayAll0 _ && decide (PyData.depthAll _ + 1 ≤ 64)) = true
  rw [h1 ls h, h2]
  rfl
theorem eqNil {ls : List (List Nat)} : PyData.eqv (.list (ls.map fun l => PyData.str (tx l))) (.list []) = decide (ls = []) := by
  cases ls with
  | nil => rfl
  | cons l r =>
    show PyData.eqvAll _ _ = _
    simp [PyData.eqvAll]
/-- a list of texts == [] -/
theorem eq_nil {K : PySem.W.Frag} {H : Hp} {Q : VK} {a b : Addr} {ls : List (List Nat)} (ha : H a = some (.lst (ls.map fun l => V.str (tx l)))) (hb : H b = some (.lst [])) (hc : ∀ l ∈ ls, ∀ c ∈ l, c < 1114112) (q : Q (.bl (decide (ls = []))) H) : rEqD K (.ref a) (.ref b) H Q := by
  refine ⟨_, .list [], .lst (SqL.of ha) (dpTx ls), .lst (SqL.of hb) .nil, shTx ls hc, rfl, ?_⟩
  rw [eqNil]
  exact q
theorem ne_nil {K : PySem.W.Frag} {H : Hp} {Q : VK} {a b : Addr} {ls : List (List Nat)} (ha : H a = some (.lst (ls.map fun l => V.str (tx l)))) (hb : H b = some (.lst [])) (hc : ∀ l ∈ ls, ∀ c ∈ l, c < 1114112) (q : Q (.bl (!decide (ls = []))) H) : rNeD K (.ref a) (.ref b) H Q := by
  refine ⟨_, .list [], .lst (SqL.of ha) (dpTx ls), .lst (SqL.of hb) .nil, shTx ls hc, rfl, ?_⟩
  rw [eqNil]
  exact q
theorem eq_trip {K : PySem.W.Frag} {H : Hp} {Q : VK} {v u : V} {room many : Nat} {t s : Tr} (a : TrOk room many t) (b : TrOk room many s) (hv : TripAt H v t) (hu : TripAt H u s) (q : ∀ k : Bool, (k = true ↔ t = s) → Q (.bl k) H) : rEqD K v u H Q :=
  ⟨trD t, trD s, dp_trip hv, dp_trip hu, trD_shaped a, trD_shaped b, q _ eqv_trD⟩
/-! ### promises -/
def spAlikeW : Sp := fun vs H Q _ => ∃ v p a b t u, vs = [v, a, b] ∧ PlanAt H v p ∧ p.Ok ∧ WAt H t a ∧ WOk p.many t ∧ WAt H u b ∧ WOk p.many u ∧ ∀ (k : Bool) (H' : Hp), Same H H' → (k = true ↔ t.tri p.room = u.tri p.room) → Q (.bl k) H'
def spParting : Sp := fun vs H Q _ => ∃ v p a b t u, vs = [v, a, b] ∧ PlanAt H v p ∧ p.Ok ∧ WAt H t a ∧ WOk p.many t ∧ WAt H u b ∧ WOk p.many u ∧
  (∀ (s : Nat) (H' : Hp), Same H H' → s ≤ p.room → tby (t.tri p.room) (List.replicate s 97) ≠ tby (u.tri p.room) (List.replicate s 97) → (∀ s', s' < s → tby (t.tri p.room) (List.replicate s' 97) = tby (u.tri p.room) (List.replicate s' 97)) → Q (.str (tx (List.replicate s 97))) H') ∧
  (∀ H', Same H H' → (∀ s, s ≤ p.room → tby (t.tri p.room) (List.replicate s 97) = tby (u.tri p.room) (List.replicate s 97)) → Q .non H')
def asWork (s : List Nat) : List W := s.map fun c => if c = 45 then .pop else .push c
def spAsWork : Sp := fun vs H Q _ => ∃ l, vs = [.str (tx l)] ∧ l.length ≤ 40 ∧ ∀ (u : V) (H' : Hp), Same H H' → WAt H' (.row (ofL (asWork l))) u → Q u H'
end SK
/-! the least price of steps that do what a triple does; the mathematics -/
namespace SK
structure Pay (many : Nat) (m q : Int) (f : Nat → Int) : Prop where
  f45 : f 45 = q
  lo : ∀ c ∈ signs many, m ≤ f c
  m0 : 0 ≤ m
  q0 : 0 ≤ q
/-- how many are filled where something is kept -/
def phi (room : Nat) (t : Tr) : Nat := room - t.k - max t.g t.l.length
def wprice (m q : Int) (f : Nat → Int) (l : List Nat) (w : Nat × Nat) : Int := (w.1 : Int) * q + (sprc f l + (w.2 : Int) * (m + q))
def ways (room : Nat) (t : Tr) : List (Nat × Nat) := if t.k = 0 then [(0, room - t.l.length), (room, 0)] else [(t.g, phi room t)]
/-- the least price -/
def LB (room : Nat) (m q : Int) (f : Nat → Int) (t : Tr) : Int := if t.k = 0 then min (wprice m q f t.l (0, room - t.l.length)) (wprice m q f t.l (room, 0)) else wprice m q f t.l (t.g, phi room t)
theorem mulr {a b : Nat} {z : Int} (h : a ≤ b) (hz : 0 ≤ z) : (a : Int) * z ≤ (b : Int) * z := Int.mul_le_mul_of_nonneg_right (Int.ofNat_le.mpr h) hz
theorem muls (a : Nat) (z : Int) : ((a + 1 : Nat) : Int) * z = (a : Int) * z + z := by
  rw [Int.natCast_succ, Int.add_mul, Int.one_mul]
theorem mul0 {a : Nat} {z : Int} (hz : 0 ≤ z) : 0 ≤ (a : Int) * z := Int.mul_nonneg (Int.natCast_nonneg a) hz
theorem sprc_nn {many : Nat} {m q : Int} {f : Nat → Int} (P : Pay many m q f) : ∀ {l : List Nat}, (∀ c ∈ l, c ∈ signs many) → 0 ≤ sprc f l
  | [], _ => by simp [sprc]
  | c :: r, h => by
    have h1 := sprc_nn P (l := r) fun d hd => h d (List.mem_cons_of_mem _ hd)
    have h2 := P.lo c (h c (List.mem_cons_self ..))
    have := P.m0
    have e : sprc f (c :: r) = f c + sprc f r := by simp [sprc]
    omega
theorem sprc_one (f : Nat → Int) (c : Nat) : sprc f [c] = f c := by simp [sprc]
theorem LB_nn {room many : Nat} {m q : Int} {f : Nat → Int} (P : Pay many m q f) {t : Tr} (a : TrOk room many t) : 0 ≤ LB room m q f t := by
  have h1 := sprc_nn P a.s
  have h2 := P.m0
  have h3 := P.q0
  have h4 : 0 ≤ m + q := by omega
  unfold LB wprice
  split
  · have e1 := mul0 (a := room - t.l.length) h4
    have e2 := mul0 (a := room) h3
    simp only
    omega
  · have e1 := mul0 (a := phi room t) h4
    have e2 := mul0 (a := t.g) h3
    simp only
    omega
theorem LB_of0 {room : Nat} {m q : Int} {f : Nat → Int} {t : Tr} (h : t.k = 0) : LB room m q f t = min ((sprc f t.l + ((room - t.l.length : Nat) : Int) * (m + q))) ((room : Int) * q + sprc f t.l) := by
  unfold LB wprice
  rw [if_pos h]
  simp
theorem LB_ofk {room : Nat} {m q : Int} {f : Nat → Int} {t : Tr} (h : t.k ≠ 0) : LB room m q f t = (t.g : Int) * q + (sprc f t.l + ((phi room t : Nat) : Int) * (m + q)) := by
  unfold LB wprice
  rw [if_neg h]
theorem ct_one_price {many : Nat} {m q : Int} {f : Nat → Int} (P : Pay many m q f) {l : List Nat} (hl : ∀ c ∈ l, c ∈ signs many) (h : l ≠ []) : sprc f (ct 1 l) + m ≤ sprc f l := by
  have e : ct 1 l ++ [l.getLast h] = l := by
    unfold ct
    rw [← List.dropLast_eq_take]
    exact List.dropLast_concat_getLast h
  have h2 : sprc f l = sprc f (ct 1 l) + f (l.getLast h) := by
    have := sprc_app f (ct 1 l) [l.getLast h]
    rw [e, sprc_one] at this
    exact this
  have := P.lo _ (hl _ (List.getLast_mem h))
  omega
theorem tp_price {many : Nat} {m q : Int} {f : Nat → Int} (P : Pay many m q f) {l : List Nat} (hl : ∀ c ∈ l, c ∈ signs many) (k : Nat) : sprc f (tp k l) ≤ sprc f l := by
  have e : l.take (l.length - k) ++ tp k l = l := List.take_append_drop ..
  have h2 : sprc f l = sprc f (l.take (l.length - k)) + sprc f (tp k l) := by
    have := sprc_app f (l.take (l.length - k)) (tp k l)
    rw [e] at this
    exact this
  have := sprc_nn P (l := l.take (l.length - k)) fun c hc => hl c (List.mem_of_mem_take hc)
  omega
theorem push_join {room many c : Nat} {t : Tr} (a : TrOk room many t) (hr : 1 ≤ room) : tjoin t ⟨0, room - 1, [c]⟩ = tidy t.g (min t.k (room - 1 - t.l.length)) (tp (room - 1) t.l ++ [c]) := by
  unfold tjoin
  simp only [Nat.zero_sub, Nat.add_zero, Nat.sub_zero, ct_zero]
theorem LB_push {room many : Nat} {m q : Int} {f : Nat → Int} (P : Pay many m q f) (hr : 1 ≤ room) {t : Tr} (a : TrOk room many t) {c : Nat} (hc : c ∈ signs many) : LB room m q f (tjoin t ⟨0, room - 1, [c]⟩) ≤ LB room m q f t + f c := by
  have hm := P.m0
  have hq := P.q0
  have hz : 0 ≤ m + q := by omega
  have gk := a.gk
  have kl := a.kl
  have hp := tp_price P a.s (room - 1)
  rw [push_join a hr]
  by_cases hk : t.k = 0
  · have e : tidy t.g (min t.k (room - 1 - t.l.length)) (tp (room - 1) t.l ++ [c]) = ⟨0, 0, tp (room - 1) t.l ++ [c]⟩ := by
      rw [hk, Nat.zero_min]
      rfl
    rw [e, LB_of0 rfl, LB_of0 hk]
    simp only [sprc_app, sprc_one]
    have hl : (tp (room - 1) t.l ++ [c]).length = min (room - 1) t.l.length + 1 := by rw [List.length_append, len_tp]; rfl
    rw [hl]
    have := mulr (a := room - (min (room - 1) t.l.length + 1)) (b := room - t.l.length) (by omega) hz
    omega
  · by_cases h1 : t.k + t.l.length < room
    · have e : tidy t.g (min t.k (room - 1 - t.l.length)) (tp (room - 1) t.l ++ [c]) = ⟨t.g, t.k, t.l ++ [c]⟩ := by
        rw [Nat.min_eq_left (by omega), tidy_eq hk, tp_all (by omega)]
      rw [e, LB_ofk hk, LB_ofk (t := ⟨t.g, t.k, t.l ++ [c]⟩) hk]
      simp only [sprc_app, sprc_one]
      have := mulr (a := phi room ⟨t.g, t.k, t.l ++ [c]⟩) (b := phi room t) (by unfold phi; simp only [List.length_append, List.length_singleton]; omega) hz
      omega
    · have e : tidy t.g (min t.k (room - 1 - t.l.length)) (tp (room - 1) t.l ++ [c]) = tidy t.g (t.k - 1) (t.l ++ [c]) := by
        rw [Nat.min_eq_right (by omega), tp_all (by omega)]
        congr 1
        omega
      rw [e, LB_ofk hk]
      have h0 := mul0 (a := phi room t) hz
      have h2 := mul0 (a := t.g) hq
      by_cases hk1 : t.k = 1
      · have e2 : tidy t.g (t.k - 1) (t.l ++ [c]) = ⟨0, 0, t.l ++ [c]⟩ := by
          rw [hk1]
          rfl
        rw [e2, LB_of0 rfl]
        simp only [sprc_app, sprc_one, List.length_append, List.length_singleton]
        have e3 : room - (t.l.length + 1) = 0 := by omega
        rw [e3]
        simp only [Int.natCast_zero, Int.zero_mul]
        omega
      · rw [tidy_eq (by omega), LB_ofk (by simp only; omega)]
        simp only [sprc_app, sprc_one]
        have e3 : phi room ⟨t.g, t.k - 1, t.l ++ [c]⟩ = 0 := by
          unfold phi
          simp only [List.length_append, List.length_singleton]
          omega
        rw [e3]
        simp only [Int.natCast_zero, Int.zero_mul]
        omega
theorem pop_join {room many : Nat} {t : Tr} (a : TrOk room many t) (hr : 2 ≤ room) : tjoin t ⟨1, room - 1, []⟩ = tidy (t.g + (1 - t.l.length)) (min (t.k - (1 - t.l.length)) (room - 1 - (t.l.length - 1))) (ct 1 t.l) := by
  have kl := a.kl
  unfold tjoin
  simp only [len_ct, List.append_nil]
  rw [tp_all (by rw [len_ct]; omega)]
theorem LB_pop {room many : Nat} {m q : Int} {f : Nat → Int} (P : Pay many m q f) (hr : 1 ≤ room) {t : Tr} (a : TrOk room many t) : LB room m q f (tjoin t (tidy 1 (room - 1) [])) ≤ LB room m q f t + q := by
  have hm := P.m0
  have hq := P.q0
  have hz : 0 ≤ m + q := by omega
  have gk := a.gk
  have kl := a.kl
  have nn := LB_nn P a
  by_cases h1 : room = 1
  · subst h1
    have e : tjoin t (tidy 1 (1 - 1) []) = ⟨0, 0, []⟩ := by
      show tidy _ (min _ (0 - _)) (tp 0 _ ++ []) = _
      rw [Nat.zero_sub, Nat.min_zero, tp_zero]
      rfl
    rw [e, LB_of0 rfl]
    simp only [sprc, List.map_nil, List.sum_nil, List.length_nil]
    omega
  · rw [tidy_eq (by omega), pop_join a (by omega)]
    by_cases hl : t.l = []
    · have e : tidy (t.g + (1 - t.l.length)) (min (t.k - (1 - t.l.length)) (room - 1 - (t.l.length - 1))) (ct 1 t.l) = tidy (t.g + 1) (t.k - 1) [] := by
        rw [hl]
        simp only [List.length_nil, ct_all (l := []) (g := 1) (by simp)]
        congr 1
        omega
      rw [e]
      by_cases hk : t.k ≤ 1
      · have e2 : tidy (t.g + 1) (t.k - 1) [] = ⟨0, 0, []⟩ := by
          rw [Nat.sub_eq_zero_of_le hk]
          rfl
        rw [e2, LB_of0 rfl]
        simp only [sprc, List.map_nil, List.sum_nil, List.length_nil]
        by_cases hk0 : t.k = 0
        · rw [LB_of0 hk0, hl]
          simp only [sprc, List.map_nil, List.sum_nil, List.length_nil]
          omega
        · rw [LB_ofk hk0, hl]
          simp only [sprc, List.map_nil, List.sum_nil]
          have e3 : phi room t = room - 1 - t.g := by
            unfold phi
            rw [hl]
            simp only [List.length_nil]
            omega
          have h5 : ((phi room t : Nat) : Int) * q ≤ ((phi room t : Nat) : Int) * (m + q) := Int.mul_le_mul_of_nonneg_left (by omega) (Int.natCast_nonneg _)
          have h6 : (room : Int) * q = (t.g : Int) * q + ((phi room t : Nat) : Int) * q + q := by
            have e7 : (room : Int) = (t.g : Int) + ((phi room t : Nat) : Int) + 1 := by omega
            rw [e7, Int.add_mul, Int.add_mul, Int.one_mul]
          omega
      · rw [tidy_eq (by omega), LB_ofk (by simp only; omega), LB_ofk (by omega), hl]
        have e3 : phi room ⟨t.g + 1, t.k - 1, []⟩ = phi room t := by
          unfold phi
          rw [hl]
          simp only [List.length_nil]
          omega
        rw [e3]
        simp only [muls]
        omega
    · have hl1 : 1 ≤ t.l.length := List.length_pos_iff.mpr hl
      have e : tidy (t.g + (1 - t.l.length)) (min (t.k - (1 - t.l.length)) (room - 1 - (t.l.length - 1))) (ct 1 t.l) = tidy t.g t.k (ct 1 t.l) := by
        congr 1
        · omega
        · omega
      have hpr := ct_one_price P a.s hl
      rw [e]
      by_cases hk : t.k = 0
      · have e2 : tidy t.g t.k (ct 1 t.l) = ⟨0, 0, ct 1 t.l⟩ := by
          rw [hk]
          rfl
        rw [e2, LB_of0 rfl, LB_of0 hk]
        simp only [len_ct]
        have e3 : room - (t.l.length - 1) = (room - t.l.length) + 1 := by omega
        rw [e3, muls]
        omega
      · rw [tidy_eq hk, LB_ofk hk, LB_ofk (t := ⟨t.g, t.k, ct 1 t.l⟩) hk]
        have h5 := mulr (a := phi room ⟨t.g, t.k, ct 1 t.l⟩) (b := phi room t + 1) (by unfold phi; simp only [len_ct]; omega) hz
        rw [muls] at h5
        simp only
        omega
theorem LB_step {room many : Nat} {m q : Int} {f : Nat → Int} (P : Pay many m q f) (hr : 1 ≤ room) {t : Tr} (a : TrOk room many t) {c : Nat} (hc : c = 45 ∨ c ∈ signs many) : LB room m q f (tjoin t (tstep room c)) ≤ LB room m q f t + f c := by
  unfold tstep
  by_cases h : c = 45
  · rw [if_pos h, h, P.f45]
    exact LB_pop P hr a
  · rw [if_neg h]
    exact LB_push P hr a (hc.resolve_left h)
theorem LB_unt {room many : Nat} {m q : Int} {f : Nat → Int} (P : Pay many m q f) (hr : 1 ≤ room) : LB room m q f (tunt room) = 0 := by
  rw [LB_ofk (by show room ≠ 0; omega)]
  have e : phi room (tunt room) = 0 := by
    show room - room - _ = 0
    omega
  rw [e]
  simp [tunt, sprc]
theorem LB_steps {room many : Nat} {m q : Int} {f : Nat → Int} (P : Pay many m q f) (hr : 1 ≤ room) : ∀ (s : List Nat) (t : Tr), TrOk room many t → (∀ c ∈ s, c = 45 ∨ c ∈ signs many) → LB room m q f (s.foldl (fun t c => tjoin t (tstep room c)) t) ≤ LB room m q f t + sprc f s
  | [], t, _, _ => by simp [sprc]
  | c :: r, t, a, h => by
    have hc := h c (List.mem_cons_self ..)
    have h1 := LB_step P hr a hc
    have h2 := LB_steps P hr r _ (tjoin_ok a (tstep_ok hr hc)) fun d hd => h d (List.mem_cons_of_mem _ hd)
    have e : sprc f (c :: r) = f c + sprc f r := by simp [sprc]
    show LB room m q f (r.foldl _ (tjoin t (tstep room c))) ≤ _
    omega
/-- steps cost at least so much -/
theorem LB_told {room many : Nat} {m q : Int} {f : Nat → Int} (P : Pay many m q f) (hr : 1 ≤ room) {s : List Nat} (h : ∀ c ∈ s, c = 45 ∨ c ∈ signs many) : LB room m q f (ttold room s) ≤ sprc f s := by
  have := LB_steps P hr s (tunt room) tunt_ok h
  rw [LB_unt P hr] at this
  unfold ttold
  omega
/-! ### steps of a way -/
theorem gone_pops (room : Nat) : ∀ (p : Nat) (x : List Nat), gone room x (List.replicate p 45) = ct p x
  | 0, x => (ct_zero x).symm
  | p + 1, x => by
    rw [List.replicate_succ]
    show gone room (step room x 45) (List.replicate p 45) = _
    rw [gone_pops room p]
    show ct p (ct 1 x) = _
    rw [ct_ct]
    congr 1
    omega
theorem tp_tp_app (room : Nat) (y z : List Nat) : tp room (tp room y ++ z) = tp room (y ++ z) := by
  rw [tp_app, tp_app room y z, tp_tp]
  congr 2
  omega
theorem gone_signs (room : Nat) : ∀ (l x : List Nat), (∀ c ∈ l, c ≠ 45) → x.length ≤ room → gone room x l = tp room (x ++ l)
  | [], x, _, h => by
    rw [List.append_nil, tp_all h]
    rfl
  | c :: r, x, hl, h => by
    show gone room (step room x c) r = _
    have e : step room x c = tp room (x ++ [c]) := if_neg (hl c (List.mem_cons_self ..))
    rw [e, gone_signs room r _ (fun d hd => hl d (List.mem_cons_of_mem _ hd)) (by rw [len_tp]; omega), tp_tp_app, List.append_assoc]
    rfl
theorem gone_app (room : Nat) (x a b : List Nat) : gone room x (a ++ b) = gone room (gone room x a) b := by
  unfold gone
  rw [List.foldl_append]
theorem sign_not {many c : Nat} (h : c ∈ signs many) : c ≠ 45 := by
  have h1 := List.mem_of_mem_take h
  simp at h1
  omega
/-- the steps of a way -/
def wayS (c0 : Nat) (w : Nat × Nat) (l : List Nat) : List Nat :=
  if l.length ≤ w.1 then List.replicate w.2 c0 ++ List.replicate w.2 45 ++ List.replicate w.1 45 ++ l
  else List.replicate w.1 45 ++ l ++ (List.replicate w.2 c0 ++ List.replicate w.2 45)
theorem way_gone {room many c0 g k : Nat} {l x : List Nat} (gk : g + k ≤ room) (kl : k + l.length ≤ room) (hc : c0 ∈ signs many) (hl : ∀ c ∈ l, c ∈ signs many) (hx : x.length ≤ room) :
    gone room x (wayS c0 (g, room - k - max g l.length) l) = tp k (ct g x) ++ l := by
  have hl' : ∀ c ∈ l, c ≠ 45 := fun c h => sign_not (hl c h)
  have hr' : ∀ n, ∀ c ∈ List.replicate n c0, c ≠ 45 := fun n c h => by
    rw [List.eq_of_mem_replicate h]
    exact sign_not hc
  unfold wayS
  by_cases h : l.length ≤ g
  · rw [if_pos h, Nat.max_eq_left h]
    simp only
    rw [gone_app, gone_app, gone_app, gone_signs room _ x (hr' _) hx, gone_pops, gone_pops, ct_ct, ct_tp, ct_app_ge (by rw [List.length_replicate]; omega)]
    rw [List.length_replicate]
    have e1 : room - (room - k - g + g) = k := by omega
    have e2 : room - k - g + g - (room - k - g) = g := by omega
    rw [e1, e2, gone_signs room l _ hl' (by rw [len_tp]; omega), tp_all (by rw [List.length_append, len_tp]; omega)]
  · have h' : g ≤ l.length := by omega
    rw [if_neg h, Nat.max_eq_right h']
    simp only
    rw [gone_app, gone_app, gone_app, gone_pops room g x, gone_signs room l _ hl' (by rw [len_ct]; omega), gone_signs room (List.replicate _ c0) _ (hr' _) (by rw [len_tp]; omega), gone_pops, tp_tp_app, ct_tp, ct_app_ge (by rw [List.length_replicate]; omega)]
    rw [List.length_replicate, Nat.sub_self, ct_zero]
    have e1 : room - (room - k - l.length) = k + l.length := by omega
    rw [e1, tp_app, tp_all (l := l) (by omega)]
    congr 2
    omega
theorem way_in {many c0 : Nat} {w : Nat × Nat} {l : List Nat} (hc : c0 ∈ signs many) (hl : ∀ c ∈ l, c ∈ signs many) : ∀ c ∈ wayS c0 w l, c = 45 ∨ c ∈ signs many := fun c h => by
  have k1 : ∀ n, c ∈ List.replicate n c0 → c = 45 ∨ c ∈ signs many := fun n h => by
    rw [List.eq_of_mem_replicate h]
    exact .inr hc
  have k2 : ∀ n, c ∈ List.replicate n 45 → c = 45 ∨ c ∈ signs many := fun n h => .inl (List.eq_of_mem_replicate h)
  unfold wayS at h
  split at h
  · simp only [List.mem_append] at h
    rcases h with ((h | h) | h) | h
    · exact k1 _ h
    · exact k2 _ h
    · exact k2 _ h
    · exact .inr (hl c h)
  · simp only [List.mem_append] at h
    rcases h with (h | h) | (h | h)
    · exact k2 _ h
    · exact .inr (hl c h)
    · exact k1 _ h
    · exact k2 _ h
theorem sprc_rep (f : Nat → Int) (c : Nat) : ∀ n : Nat, sprc f (List.replicate n c) = (n : Int) * f c
  | 0 => by simp [sprc]
  | n + 1 => by
    have e : sprc f (List.replicate (n + 1) c) = f c + sprc f (List.replicate n c) := by simp [sprc, List.replicate_succ]
    rw [e, sprc_rep f c n, muls]
    omega
theorem way_price {many c0 : Nat} {m q : Int} {f : Nat → Int} (P : Pay many m q f) (hm : f c0 = m) (w : Nat × Nat) (l : List Nat) : sprc f (wayS c0 w l) = wprice m q f l w := by
  unfold wayS wprice
  split
  · simp only [sprc_app, sprc_rep, P.f45, hm, Int.mul_add]
    omega
  · simp only [sprc_app, sprc_rep, P.f45, hm, Int.mul_add]
    omega
theorem way_len {c0 : Nat} (w : Nat × Nat) (l : List Nat) : (wayS c0 w l).length = w.1 + 2 * w.2 + l.length := by
  unfold wayS
  split
  · simp only [List.length_append, List.length_replicate]
    omega
  · simp only [List.length_append, List.length_replicate]
    omega
/-- the steps of each way do what the triple does -/
theorem way_told {room many c0 : Nat} {t : Tr} (hr : 1 ≤ room) (a : TrOk room many t) (hc : c0 ∈ signs many) {w : Nat × Nat} (h : w ∈ ways room t) : ttold room (wayS c0 w t.l) = t := by
  have hin := way_in (w := w) hc a.s
  refine tr_ext (c := 97) (ttold_ok' hr hin) a fun n hn => ?_
  have hx : (List.replicate n 97).length ≤ room := by rw [List.length_replicate]; exact hn
  rw [tby_told hr _ hx]
  unfold ways at h
  by_cases hk : t.k = 0
  · rw [if_pos hk] at h
    have gk := a.gk
    have kl := a.kl
    have hz := a.z hk
    rcases List.mem_cons.mp h with h | h
    · have e := way_gone (c0 := c0) (g := 0) (k := 0) (l := t.l) (x := List.replicate n 97) (by omega) (by omega) hc a.s hx
      rw [Nat.sub_zero, Nat.zero_max] at e
      rw [h, e]
      simp only [tby, hk, hz]
    · have h' : w = (room, 0) := by simpa using h
      have e := way_gone (c0 := c0) (g := room) (k := 0) (l := t.l) (x := List.replicate n 97) (by omega) (by omega) hc a.s hx
      have e2 : room - 0 - max room t.l.length = 0 := by omega
      rw [e2] at e
      rw [h', e]
      simp only [tby, hk, hz, tp_zero]
  · rw [if_neg hk] at h
    have h' : w = (t.g, phi room t) := by simpa using h
    rw [h']
    exact way_gone (c0 := c0) a.gk a.kl hc a.s hx
/-- subadditive -/
theorem LB_has {room many c0 : Nat} {m q : Int} {f : Nat → Int} (P : Pay many m q f) (hr : 1 ≤ room) (hc : c0 ∈ signs many) (hm : f c0 = m) {t : Tr} (a : TrOk room many t) : ∃ s, (∀ c ∈ s, c = 45 ∨ c ∈ signs many) ∧ ttold room s = t ∧ sprc f s = LB room m q f t := by
  by_cases hk : t.k = 0
  · by_cases h : wprice m q f t.l (0, room - t.l.length) ≤ wprice m q f t.l (room, 0)
    · refine ⟨wayS c0 (0, room - t.l.length) t.l, way_in hc a.s, way_told hr a hc (by unfold ways; rw [if_pos hk]; simp), ?_⟩
      rw [way_price P hm]
      unfold LB
      rw [if_pos hk]
      omega
    · refine ⟨wayS c0 (room, 0) t.l, way_in hc a.s, way_told hr a hc (by unfold ways; rw [if_pos hk]; simp), ?_⟩
      rw [way_price P hm]
      unfold LB
      rw [if_pos hk]
      omega
  · refine ⟨wayS c0 (t.g, phi room t) t.l, way_in hc a.s, way_told hr a hc (by unfold ways; rw [if_neg hk]; simp), ?_⟩
    rw [way_price P hm]
    unfold LB
    rw [if_neg hk]
theorem LB_join {room many c0 : Nat} {m q : Int} {f : Nat → Int} (P : Pay many m q f) (hr : 1 ≤ room) (hc : c0 ∈ signs many) (hm : f c0 = m) {t u : Tr} (a : TrOk room many t) (b : TrOk room many u) : LB room m q f (tjoin t u) ≤ LB room m q f t + LB room m q f u := by
  obtain ⟨s, h1, h2, h3⟩ := LB_has P hr hc hm a
  obtain ⟨s', h4, h5, h6⟩ := LB_has P hr hc hm b
  have h7 := LB_told P hr (s := s ++ s') fun c hc => (List.mem_append.mp hc).elim (h1 c) (h4 c)
  rw [ttold_app hr h1 h4, h2, h5, sprc_app, h3, h6] at h7
  exact h7
theorem LB_work {room many : Nat} {m q : Int} {f : Nat → Int} (P : Pay many m q f) (hr : 1 ≤ room) {w : W} (h : w.Can many) : LB room m q f (w.tri room) ≤ w.prc f := by
  rw [W.tri_lng hr w h, W.prc_lng]
  exact LB_told P hr (W.lng_in w h)
end SK
namespace SK
open PySem PySem.Spec PyProof.Rows L2 LamX NdefX
/-! ### a lambda with parameters, called -/
/-- the lambda as a function made in the running frame -/
def lamF (X : Cx) (params : Arguments) (scope : Scope) (c' : Addr) : NF := ⟨"<lambda>", X.env.qual ++ "<lambda>", params, [], scope, cloFrom X.env.cells scope.names [], c'⟩
theorem lam_run {P : Program} {w : World} {K : PySem.W.Frag} {mg : Str → Option Value} {base : Heap} {N ps fr : List Str} {F : NF} {f : Addr} {A : Around} {outer : List Env} {s : Shared} {H : Hp} {us : List Value} {vs : List V} {ws : List (Option V)} {k : Nat} {body : Expr} {pm ctv : Value} {t : TE} {Q : VK}
    (S : NScope N ps fr F.scope) (hr : Room (k + 1) A) (e0 : Env0 P w K mg base A outer s H) (ho : s.heap.get? f = some (PySem.W.kla_obj F.name F.qual F.params body F.scope F.cl pm F.c ctv)) (hc : s.heap.CodeRec (.ref F.c) F.qual)
    (hbind : bindArgs (PySem.W.kla_fn F.name F.qual F.params body F.scope F.cl pm (.ref F.c) ctv) ⟨us, []⟩ = pure (ps.zip us)) (hl : vs.length = ps.length) (r : Vals vs us) (C : CellsAt F.cl fr ws s.heap H)
    (hbody : PE (ncx C8.CX0 P w K mg base N F f A outer s H C8.E0) body t) (ht : t (startF N vs ws) H Q) :
    codeAny (model P w) A (.call (.ref f) ⟨us, []⟩) (CR C8.CX0 outer P w H s Q C8.E0) s := by
  have lim : s.heap.NoLimit := e0.mod.nolimit.keeps fun b o e => (e0.bs b o e).1
  refine PySem.W.kla_callFunE hr.depth ho rfl S.co S.gen rfl hc ?_
  rw [hbind]
  refine wpAny_pure (wpAny_newFunctionEnv S.nocell (fun ⟨n, _⟩ hy => S.par n (List.of_mem_zip hy).1) (fun h₁ hns hsb => ⟨lim.fresh _ hsb, ?_⟩) S.kind)
  show codeAny _ _ (.expr body (envF F f s.heap.objs.size)) _ _
  have kp : ∀ b o, s.heap.get? b = some o → h₁.get? b = some o := fun b o e => hsb.extBut b o (Nat.ne_of_lt (Heap.lt_size e)) (Heap.get?_push_of_some _ e)
  have J : Inv (ncx C8.CX0 P w K mg base N F f A outer s H C8.E0) [] (startF N vs ws) H { s with heap := h₁, toks := s.toks + (ps.zip us).length } := inv_startN S hr.hd e0 hl r C hns kp
  refine PySem.W.kla_codeExpr (wpAny_mono (hbody.run [] _ _ H Q J ht) (fun v s' hq => ?_) fun e s' hq => hq)
  obtain ⟨w', H', J', rv, q⟩ := hq
  exact ⟨w', H', J'.os, J'.bare, J'.base, J'.hok, rv, q⟩
theorem Room.in1 {k : Nat} {A : Around} (r : Room (k + 1) A) : Room k A.in1 := ⟨r.hd, by have := r.dp; show A.depth + 3 * k + 5 < _; omega, by have := r.un; show A.units + 1 + 16 * k + 200 < _; omega⟩
/-! ### min(xs, key=f) of a list -/
section
variable {X : Cx} {pins : List (Addr × Obj)} {σ : L2.St} {H : Hp} {s : Shared}
theorem min_key_list (hcalm : X.calm = true) (I : L2.Inv X pins σ H s) {f : Addr} {fo : Obj} (hf : s.heap.get? f = some fo) (hfc : ∀ v, fo.data ≠ .cell v) (hfn : H f = none) (hfL : f ≠ X.env.locals) (hfr : f ∉ X.fs) {a : Addr} {xs : List V} (ha : H a = some (.lst xs)) (hne : 0 < xs.length) (kf : Nat → Int) {Q : VK}
    (turn : ∀ (od : Obj) (pins' : List (Addr × Obj)) (s' : Shared) (i : Nat) (v : V) (u : Value), Inv X pins' σ (upd H a (.frz od (.lst xs))) s' → s'.heap.get? f = some fo → xs[i]? = some v → RelV v u →
      codeAny (model X.prog X.w) X.A.in1 (.call (.ref f) ⟨[u], []⟩) (CR C8.CX0 X.stack X.prog X.w (upd H a (.frz od (.lst xs))) s' (fun k H' => k = .int (kf i) ∧ H' = upd H a (.frz od (.lst xs))) C8.E0) s')
    (q : ∀ od v, xs[argBest (fun i j => decide (kf i < kf j)) (xs.length - 1)]? = some v → Q v (upd H a (.frz od (.lst xs)))) :
    wpAny (model X.prog X.w) X.A (call (.builtin "min") [.ref a] [(Str.ofString "key", .ref f)]) (EP X pins σ Q) X.xe s := by
  obtain ⟨od, I0⟩ := I.lock ha (by trivial)
  have hfn0 : upd H a (.frz od (.lst xs)) f = none := by
    rw [upd_ne (fun z => by rw [z, ha] at hfn; cases hfn)]
    exact hfn
  have I1 : L2.Inv X (pins ++ [(f, fo)]) σ (upd H a (.frz od (.lst xs))) s := I0.pins_of fun p hp => by
    rcases List.mem_append.mp hp with z | z
    · exact I0.pin p (List.mem_append_right _ z)
    · have e : p = (f, fo) := by simpa using z
      subst e
      exact ⟨hf, hfn0, hfL, hfr, hfc⟩
  have haz : upd H a (.frz od (.lst xs)) a = some (.frz od (.lst xs)) := upd_same
  obtain ⟨e1, hz, its, n, rv, hob⟩ := I1.hok a _ haz
  rw [e1] at hob
  cases hob
  have hlen := rv.length
  have hlt : a < s.heap.objs.size := Heap.lt_size e1
  have dl : ∀ {s' : Shared} {pins' : List (Addr × Obj)}, Inv X pins' σ (upd H a (.frz (seqObj "list" its.toArray n) (.lst xs))) s' → s'.heap.get? a = some (seqObj "list" its.toArray n) := fun J => (J.hok a _ haz).1
  have isl : ∀ {h : Heap}, h.get? a = some (seqObj "list" its.toArray n) → h.IsList a its.toArray := fun e => ⟨_, e, rfl, n, rfl⟩
  have hd : X.A.in1.handled = none := I.ok.hd hcalm
  refine call_min_walkK (wpAny_pyIter_list (isl e1) ?_)
  have W := (Walks.list (prog := X.prog) (w := X.w) (A := X.A.in1) hd s.heap.objs.size a (Nat.ne_of_lt hlt) its.toArray).toS
  have hI : (s.heap.push { cls := .type "list_iterator", data := .fields #[.ref a, .int 0 0] }).objs.size = s.heap.objs.size + 1 := size_push' ..
  have gI : (s.heap.push { cls := .type "list_iterator", data := .fields #[.ref a, .int 0 0] }).get? s.heap.objs.size = some { cls := .type "list_iterator", data := .fields #[.ref a, .int 0 0] } := Heap.get?_push_size _ rfl
  have J0 : L2.Inv X (pins ++ [(f, fo)]) σ (upd H a (.frz (seqObj "list" its.toArray n) (.lst xs))) { s with heap := s.heap.push { cls := .type "list_iterator", data := .fields #[.ref a, .int 0 0] } } := I1.kept (t' := s.toks) fun b o e => Heap.get?_push_of_some _ e
  have fpI : FpOk X (pins ++ [(f, fo)]) (upd H a (.frz (seqObj "list" its.toArray n) (.lst xs))) s.heap.objs.size := I1.fpOk (Nat.le_refl _) (I1.hok.fresh (Nat.le_refl _))
  have fpS : FpOk X (pins ++ [(f, fo)]) (upd H a (.frz (seqObj "list" its.toArray n) (.lst xs))) (s.heap.objs.size + 1) := I1.fpOk (Nat.le_succ _) (I1.hok.fresh (Nat.le_succ _))
  refine ⟨s.heap.objs.size, _, _, _, its.toArray.size, _, _, fun s' => Inv X (pins ++ [(f, fo)]) σ (upd H a (.frz (seqObj "list" its.toArray n) (.lst xs))) s', fun i k _ => ∃ t, k = .int (kf i) t, fun i j => decide (kf i < kf j), rfl, W, ⟨⟨_, gI, rfl, rfl⟩, isl (Heap.get?_push_of_some _ e1)⟩, fun b hb => ?_, ?_, ?_, J0, fun v s' hv hJ => ?_⟩
  · show b < (s.heap.push _).objs.size
    rw [hI]
    have hb' : b = s.heap.objs.size ∨ b = a := by simpa using hb
    rcases hb' with z | z
    · rw [z]
      exact Nat.lt_succ_self _
    · rw [z]
      exact Nat.lt_succ_of_lt hlt
  · rw [List.size_toArray, ← hlen]
    exact hne
  · refine ⟨fun s1 s2 hJ hm => ?_, fun i k s1 s2 hv _ => hv, fun i v s1 o Q1 E1 hi hP hJ hst hS hQ => ?_, fun i j ki kj s1 Q1 E1 hJ hi hj hQ => ?_⟩
    · obtain ⟨m1, m2, m3, m4, m5⟩ := hm
      obtain ⟨hh, g, d, t, os'⟩ := s2
      obtain rfl : g = s1.gens := m2
      obtain rfl : d = s1.drawn := m3
      obtain rfl : os' = s1.os := m4
      refine L2.Inv.turnedL hJ (ch := (s.heap.push { cls := .type "list_iterator", data := .fields #[.ref a, .int 0 0] }).objs.size :: [s.heap.objs.size]) m1 fun b hb => ?_
      rw [hI] at hb
      rcases List.mem_cons.mp hb with z | z
      · rw [z]
        exact fpS
      · have z' : b = s.heap.objs.size := by simpa using z
        rw [z']
        exact fpI
    · have hv : its.toArray[i]? = some v := hP
      have hi' : i < xs.length := by
        rw [List.size_toArray] at hi
        omega
      have hx : xs[i]? = some xs[i] := List.getElem?_eq_getElem hi'
      have rx : RelV xs[i] v := by
        obtain ⟨u, hu, ru⟩ := rv.get hx
        have e : its.toArray[i]? = some u := by simpa using hu
        rw [hv] at e
        cases e
        exact ru
      obtain ⟨⟨oI, hoI, hoc, hod⟩, hls⟩ := hst
      rw [hI] at hS
      have nfr : ∀ b, b ≠ X.env.locals → b ∉ X.fs → b ∉ frs X.stack := fun b h1 h2 z => by
        rcases List.mem_cons.mp (hJ.stkSub b z) with e | e
        · exact h1 e
        · exact h2 e
      have hf1 : s1.heap.get? f = some fo := (hJ.pin (f, fo) (List.mem_append_right _ (List.mem_append_right _ (by simp)))).1
      refine wpAny_call (codeAny_mono (turn _ _ s1 i xs[i] v hJ hf1 hx rx) fun r s2 hq => ?_)
      cases r with
      | error e => exact False.elim hq
      | ok fl =>
        cases fl with
        | next => exact False.elim hq
        | brk => exact False.elim hq
        | cont => exact False.elim hq
        | ret u =>
          obtain ⟨k', H', os, bare, un, hok, ru, rfl, rfl⟩ := hq
          obtain ⟨t, rfl⟩ := ru
          have J2 : L2.Inv X (pins ++ [(f, fo)]) σ (upd H a (.frz (seqObj "list" its.toArray n) (.lst xs))) s2 := hJ.call' os un hok bare (fun b z => absurd z (by simp))
          refine hQ _ s2 J2 ⟨⟨oI, un.keep _ _ hoI fpI.1 (nfr _ fpI.2.1 fpI.2.2.1) (by simp), hoc, hod⟩, isl (dl J2)⟩ ?_ ⟨t, rfl⟩ fun j k' h => h
          rw [hI]
          exact un.keep _ _ hS fpS.1 (nfr _ fpS.2.1 fpS.2.2.1) (by simp)
    · obtain ⟨t1, rfl⟩ := hi
      obtain ⟨t2, rfl⟩ := hj
      exact CmpOf.ints_lt (prog := X.prog) (w := X.w) (A := X.A.in1) (P := fun i v => ∃ t, v = .int (kf i) t) kf (fun i v h => h) i j _ _ _ _ _ ⟨t1, rfl⟩ ⟨t2, rfl⟩ hQ
  · have hv' : its.toArray[argBest (fun i j => decide (kf i < kf j)) (its.toArray.size - 1)]? = some v := hv
    rw [List.size_toArray, ← hlen] at hv'
    have hb : argBest (fun i j => decide (kf i < kf j)) (xs.length - 1) < its.length := by
      obtain ⟨h1, _⟩ := Array.getElem?_eq_some_iff.mp hv'
      simpa using h1
    have hx : xs[argBest (fun i j => decide (kf i < kf j)) (xs.length - 1)]? = some (xs[argBest (fun i j => decide (kf i < kf j)) (xs.length - 1)]'(by omega)) := List.getElem?_eq_getElem (by omega)
    obtain ⟨u, hu, ru⟩ := rv.get hx
    have e : its.toArray[argBest (fun i j => decide (kf i < kf j)) (xs.length - 1)]? = some u := by simpa using hu
    rw [hv'] at e
    cases e
    exact ⟨_, _, hJ.unpinned, ru, q _ _ hx⟩
/-! ### min(e, key=lambda ..) -/
theorem Tabs.upd {T : List (Addr × Str)} {H : Hp} {a : Addr} {xs : List V} {o : HO} (t : Tabs T H) (h : H a = some (.lst xs)) : Tabs T (upd H a o) := fun p hp => by
  obtain ⟨ps, h1, h2, h3⟩ := t p hp
  refine ⟨ps, ?_, h2, fun pos cv hc => ?_⟩
  · rw [upd_ne (ne_of h1 h (by intro z; cases z))]
    exact h1
  · obtain ⟨c, e1, e2⟩ := h3 pos cv hc
    refine ⟨c, e1, ?_⟩
    rw [upd_ne (ne_of e2 h (by intro z; unfold CodeO at z; cases z))]
    exact e2
theorem Tups.ofN {H H' : Hp} (e : ExtN H H') : Tups H H' := ⟨fun b xs h => e b _ h (by intro ps z; cases z), fun b o xs h => e b _ h (by intro ps z; cases z)⟩
def bestN (kf : Nat → Int) (n : Nat) : Nat := argBest (fun i j => decide (kf i < kf j)) (n - 1)
def tMinKey (T : List (Addr × Str)) (ta : TA) (js : List Nat) (N : List Str) (tb : TE) : TE := fun σ H Q => ta σ H fun vs H1 => Tabs T H1 ∧ ∃ (a : Addr) (xs : List V) (kf : Nat → Int), vs = [.ref a] ∧ H1 a = some (.lst xs) ∧ 0 < xs.length ∧
  (∀ (H2 : Hp) (i : Nat) (x : V) (Q' : VK), Tups H1 H2 → xs[i]? = some x → Q' (.int (kf i)) H2 → tb (startF N [x] (js.map (slotAt σ))) H2 Q') ∧
  ∀ (H2 : Hp) (od : Obj) (x : V), ExtN H1 H2 → Tabs T H2 → xs[bestN kf xs.length]? = some x → Q x (L2.upd H2 a (.frz od (.lst xs)))
theorem pe_minkey {T : List (Addr × Str)} {c P : Addr} {p pos kpos lpos : Pos} {e : Expr} {ta : TA} {tb : TE} {params : Arguments} {body : Expr} {scope : Scope} {N ps fr : List Str} {js : List Nat} {k : Nat}
    (hcalm : X.calm = true) (hg : Gl X "min") (hm : X.mg "min" = none) (ha : PA X [e] ta)
    (TB : TabB X.base X.mg c P) (hcode : X.env.code = .ref c) (hmT : (P, X.env.qual ++ "<lambda>") ∈ T) (hu : ∀ p ∈ T, p.1 = P → p.2 = X.env.qual ++ "<lambda>") (hr : Room (k + 2) X.A)
    (S : NScope N ps fr scope) (hps : ps.length = 1) (hfree : ∀ y ∈ scope.names, y.2 = .free → X.env.scope.names.lookup y.1 = some .cell ∨ X.env.scope.names.lookup y.1 = some .free) (hfr : ∀ y ∈ fr, (y, NameKind.free) ∈ scope.names) (hjs : js.map (fun j => X.N[j]?) = fr.map some)
    (hdef : defaultsOf params X.env = ([], [])) (hbind : ∀ (q : Str) (cl : List (Str × Addr)) (pm cv ctv u : Value), bindArgs (PySem.W.kla_fn "<lambda>" q params body scope cl pm cv ctv) ⟨[u], []⟩ = pure (ps.zip [u]))
    (hbody : ∀ (c' f : Addr) (A : Around) (outer : List Env) (s : Shared) (H : Hp), PE (ncx C8.CX0 X.prog X.w X.K X.mg X.base N (lamF X params scope c') f A outer s H C8.E0) body tb)
    (he : backTo pos (starEach [e] X.env) = (false, eval e X.env) :: backTo pos (starEach [] X.env) := by rfl) (hpl : (backTo pos (starEach [e] X.env)).any (·.1) = false := by rfl) :
    PE X (.Call (.Name "min" p) [e] [⟨some "key", .Lambda params body scope lpos, kpos⟩] pos) (tMinKey T ta js N tb) := by
  refine ⟨fun pins s σ H Q I h => ?_⟩
  refine wpAny_Call_Name_kw (ld_blt I hg hm b_min ?_ (by decide) (by decide))
  refine PyProof.Rows.callWith_kw (thn (ha.run pos pins s σ H _ I h) fun us s1 ⟨vs, H1, I1, r1, q1⟩ => ?_) he hpl rfl rfl
  obtain ⟨hT, a, xs, kf, rfl, hax, hne, hb, hq⟩ := q1
  obtain rfl := Vals.ref1 r1
  show wpAny _ _ (evalAll ((do let v ← eval (.Lambda params body scope lpos) X.env; standAt pos; pure v) :: [])) _ _ _
  refine wpAny_evalAll_cons (wpAny_bind (lam_make2 I1 TB hcode hmT hu hT hdef (fun y hy e => (hfree y hy e).elim (fun z => I1.ok.has _ (.inl z)) fun z => I1.ok.has _ (.inr z)) fun f c' pm' ctv H2 s' I2 eN T2 hf hfn hfr' hco => wpAny_bind (wpAny_standAt (wpAny_pure (wpAny_evalAll_nil ?_)))))
  have hax2 : H2 a = some (.lst xs) := eN _ _ hax (by intro ps z; cases z)
  have hfL : f ≠ X.env.locals := fun z => by
    obtain ⟨m, ⟨o, es, ep, ho, hd, _⟩, _⟩ := I2.loc
    rw [z, ho] at hf
    cases hf
    cases hd
  have hfs : f ∉ X.fs := fun z => hfr' (by
    rcases I2.ok.stk with e | ⟨e, hfm⟩
    · rw [e]
      exact z
    · rw [e]
      unfold frs at *
      simp only [List.filterMap_cons]
      split
      · exact z
      · exact List.mem_cons_of_mem _ z)
  show wpAny _ _ (call (.builtin "min") [.ref a] [(Str.ofString "key", .ref f)]) _ _ _
  refine min_key_list hcalm I2 hf (fun v z => by cases z) hfn hfL hfs hax2 hne kf (fun od pins' s3 i v u J hf3 hx rx => ?_) fun od v hv => hq H2 od v eN T2 hv
  have hco' : L2.upd H2 a (.frz od (.lst xs)) c' = some (CodeO c' (X.env.qual ++ "<lambda>")) := by
    rw [upd_ne (ne_of hco hax2 (by intro z; unfold CodeO at z; cases z))]
    exact hco
  refine lam_run (F := lamF X params scope c') (k := k) (ps := ps) S hr.in1 J.env0.in1 hf3 (codeO_at J.hok hco') (hbind _ _ _ _ _ u) (by rw [hps]; rfl) (.cons rx .nil) (cells_of J (Caps.made J.ok hfree hfr hjs)) (hbody _ _ _ _ _ _) ?_
  exact hb _ i v _ ((Tups.ofN eN).trans ⟨fun b ys e => by
    rw [upd_ne (ne_of e hax2 (by intro z; cases z))]
    exact e, fun b o ys e => by
    rw [upd_ne (ne_of e hax2 (by intro z; cases z))]
    exact e⟩) hx ⟨rfl, rfl⟩
end
/-! ### a def whose code object is known -/
structure DnL (K : PySem.W.Frag) (mg : Str → Option Value) (x : Str) (st : Stmt) (ps : List Str) (c : Addr) : Prop where
  ex : ∃ (f : Addr) (oc : Value) (od : Option Addr) (kV doc pm : Value) (an : Option Addr) (ct : Value) (osl : Array (Option Value)),
    K.lookup f = some ⟨oc, od, .func (PySem.W.fnOf x x (defArgs st) (defBody st) (defScope st) .none kV doc pm an (.ref c) ct), osl⟩ ∧ PySem.W.codeIn K (.ref c) x = true ∧ PySem.W.keepIn K (.ref f) = true ∧ mg x = some (.ref f) ∧ Binds K (PySem.W.fnOf x x (defArgs st) (defBody st) (defScope st) .none kV doc pm an (.ref c) ct) ps []
theorem DnL.cal {P : Program} {w : World} {K : PySem.W.Frag} {mg : Str → Option Value} {base : Heap} {x : Str} {st : Stmt} {N ps : List Str} {k : Nat} {sp : Sp} {c : Addr} (D : DnL K mg x st ps c) (S : FnScope N ps (defScope st)) (len : ∀ vs H Q E, sp vs H Q E → vs.length = ps.length)
    (hbody : ∀ (f : Addr) (A : Around) (outer : List Env) (s : Shared) (H : Hp) (vs : List V) (Q : VK) (E : XK), Room k (A.deeper (envOfC x (defScope st) s.heap.objs.size f (.ref c))) → sp vs H Q E →
      ∃ t, PSs (cxOf CX0 P w K mg base N x (defScope st) f (.ref c) A outer s H E).nox (defBody st) t ∧ t { nx := fun _ H' => Q .non H', rt := Q } (start N vs) H) : C8.Cal P w K mg base (k + 1) x sp [] := by
  obtain ⟨f, oc, od, kV, doc, pm, an, ct, osl, lk, hcd, hk, hm, hb⟩ := D.ex
  exact ⟨f, _, ps, [], fn_of lk hcd S len fun A outer s H vs Q E hr hsp => by
    obtain ⟨t, h, q⟩ := hbody f A outer s H vs Q E hr hsp
    exact ⟨t, h.nox, q⟩, hm, hk, hb, .nil⟩
theorem dnL_mk {K : PySem.W.Frag} {mg : Str → Option Value} {x : Str} {st : Stmt} {ps : List Str} {h : Heap} {f c : Addr} {oc : Value} {od an : Option Addr} {osl : Array (Option Value)} {kV doc pm ct : Value} (X : K.In h) (G : h.Ns mainGlobals mg)
    (a : PySem.W.nsIn K mainGlobals x = some (some (.ref f))) (l : K.lookup f = some ⟨oc, od, .func (PySem.W.fnOf x x (defArgs st) (defBody st) (defScope st) .none kV doc pm an (.ref c) ct), osl⟩)
    (hc : PySem.W.codeIn K (.ref c) x = true) (k : PySem.W.keepIn K (.ref f) = true)
    (hb : ∀ (kV doc pm : Value) (an : Option Addr) (cdv ct : Value) (us : List Value), us.length = ps.length → bindArgs (PySem.W.fnOf x x (defArgs st) (defBody st) (defScope st) .none kV doc pm an cdv ct) ⟨us, []⟩ = pure (ps.zip us)) : DnL K mg x st ps c :=
  ⟨f, oc, od, kV, doc, pm, an, ct, osl, l, hc, k, PySem.W.mg_of X G a, .all (hb kV doc pm an (.ref c) ct)⟩
def lamQ : Str := (("cheapest_way" : Str) ++ ".<locals>.") ++ "<lambda>"
end SK
namespace SK
open PySem PySem.Spec PyProof.Rows L2 LamX NdefX
section
variable {X : Cx}
/-- min(t) of a tuple of ints -/
def rMinT (K : PySem.W.Frag) : List V → Hp → VK → Prop := fun vs H Q => ∃ (a : Addr) (ns : List Int), vs = [V.ref a] ∧ SqT K H a (ns.map V.int) ∧ 0 < ns.length ∧ ∀ m, m ∈ ns → (∀ y, y ∈ ns → m ≤ y) → Q (.int m) H
theorem cr_minT (hc : X.calm = true) : CallR X (.builtin "min") (rMinT X.K) := by
  intro pins s σ H vs us Q I r h
  obtain ⟨a, ns, rfl, hs, hne, q⟩ := h
  obtain ⟨its, rv, hl, _⟩ := I.tuple hs
  rw [Vals.ref1 r]
  have hi := rv.ints
  obtain ⟨xs, e⟩ := hi.allInts.items
  have hn : numsOf (intItems xs).toList = ns := by rw [← e]; exact hi.numsOf
  rw [nums_intItems] at hn
  subst hn
  rw [e] at hl
  have hsz : 0 < xs.size := by simpa using hne
  obtain ⟨ob, hob, hcl, n, hd⟩ := id hl
  have hlt : a < s.heap.objs.size := Heap.lt_size hob
  have hT : s.heap.IsTuple a (intItems xs) := hl
  refine call_min_walk (wpAny_pyIter_tuple hT ?_)
  refine ⟨_, _, _, _, _, _, _, rfl, Walks.tuple (A := X.A.in1) (I.ok.hd hc) _ a (Nat.ne_of_lt hlt) (intItems xs), ⟨⟨_, Heap.get?_push_size _ rfl, rfl, rfl⟩, hT.push _⟩, fun b hb => ?_, by simpa [intItems] using hsz, CmpOf.ints_lt (numAt xs) (fun _ _ => intItems_at), fun v h' tk hP hk => ?_⟩
  · show b < (s.heap.push _).objs.size
    rw [Heap.size_push]
    rcases List.mem_cons.mp hb with rfl | hb
    · exact Nat.lt_succ_self _
    · rcases List.mem_cons.mp hb with rfl | hb
      · exact Nat.lt_succ_of_lt hlt
      · cases hb
  · have hv : (intItems xs)[argBest (fun i j => decide (numAt xs i < numAt xs j)) (xs.size - 1)]? = some v := by simpa [intItems] using hP
    obtain ⟨t, rfl⟩ := intItems_at hv
    obtain ⟨h1, h2⟩ := argBest_lt (numAt xs) (xs.size - 1)
    have hk' : ∀ b o, s.heap.get? b = some o → h'.get? b = some o := fun b o e => by
      refine hk b o (fun hm => ?_) (Heap.get?_push_of_some _ e)
      rcases List.mem_cons.mp hm with e1 | hm
      · exact absurd (e1 ▸ Heap.lt_size e) (Nat.lt_irrefl _)
      · cases hm
    refine ⟨.int _, H, I.kept hk', ⟨_, rfl⟩, q _ ?_ fun y ha => ?_⟩
    · rw [numAt_eq]; exact PySem.getD_mem (by rw [List.length_map, Array.length_toList]; omega)
    · obtain ⟨j, hj, rfl⟩ := mem_getD ha
      rw [List.length_map, Array.length_toList] at hj
      rw [← numAt_eq]; exact h2 j (by omega)
/-- t.index(i), the first place, of ints -/
def rTIdx (K : PySem.W.Frag) : V → List V → Hp → VK → Prop := fun x xs H Q => ∃ p, ∃ ys : List Int, ∃ z j, x = .ref p ∧ xs = [.int z] ∧ SqT K H p (ys.map V.int) ∧ ys[j]? = some z ∧ (∀ m, m < j → ys[m]? ≠ some z) ∧ Q (.int (j : Nat)) H
theorem flat_ints (ys : List Int) : (ys.map V.int).all flatV = true := by
  rw [List.all_map]
  exact List.all_eq_true.mpr fun _ _ => rfl
theorem mt_tup_indexI : MtR X "tuple.index" (rTIdx X.K) := by
  intro pins s σ H x xs v us Q I rx rs h
  obtain ⟨p, ys, z, j, rfl, rfl, hq, hy, hno, q⟩ := h
  cases rx
  obtain ⟨u, rfl, t, rfl⟩ := vals1 rs
  obtain ⟨its, r, pl, hz⟩ := I.tuple hq
  obtain ⟨⟨cls, dd, dt, sl⟩, ho, hc, n, hd⟩ := pl
  simp only at hc hd
  subst hc
  subst hd
  have hl : its.toArray.size = ys.length := by rw [List.size_toArray, ← r.length, List.length_map]
  have hj : j < its.toArray.size := by rw [hl]; exact (List.getElem?_eq_some_iff.mp hy).1
  have at' : ∀ (m : Nat) (hm : m < its.toArray.size), ∃ y t', ys[m]? = some y ∧ its.toArray[m] = Value.int y t' := fun m hm => by
    have hm' : m < ys.length := by rw [← hl]; exact hm
    obtain ⟨w, hw, t', hw'⟩ := r.get (i := m) (x := .int ys[m]) (by simp [hm'])
    refine ⟨ys[m], t', List.getElem?_eq_getElem hm', ?_⟩
    have e := (List.getElem?_eq_some_iff.mp hw).2
    rw [← hw', ← e]
    simp
  have mt : ∀ (m : Nat) (hm : m < its.toArray.size), ∀ y, ys[m]? = some y → eqU (.int z) its.toArray[m] = eqV (.int y) (.int z) := fun m hm y h1 => by
    obtain ⟨y', t', h2, h3⟩ := at' m hm
    rw [h1] at h2
    cases h2
    rw [h3]
    exact eqU_of (show RelV (.int y) (Value.int y t') from ⟨t', rfl⟩) rfl
  refine call_meets PySem.F.slot_tuple_index ⟨_, ho, rfl⟩ PySem.F.entry_tuple_index (PySem.F.args_tuple_index_2 _ _) (TI.tuple_indexAt p its.toArray n dd sl (.int z t) (eqU (.int z)) j hj ?_ ?_)
    ⟨ho, fun w hw => mem_eqAt (x := .int z) ⟨t, rfl⟩ rfl r (flat_ints ys) w (by simpa using hw), ⟨.int (j : Nat), H, I.tok _, ⟨_, rfl⟩, q⟩⟩
  · rw [mt j hj z hy]
    show (z == z) = true
    exact beq_self_eq_true z
  · intro m hm hmj
    obtain ⟨y, t', h1, h2⟩ := at' m hm
    rw [mt m hm y h1]
    show (y == z) = false
    exact beq_eq_false_iff_ne.mpr fun e => hno m hmj (e ▸ h1)
end
theorem b_abs : bootBuiltins "abs" = some (.builtin "abs") := by decide +kernel
end SK
namespace SK
open PySem PySem.Spec PyProof.Rows L2 LamX
/-! ### the least price, the cheapest sign, the cheapest way -/
def mnI : List Int → Int
  | [] => 0
  | [x] => x
  | x :: y :: r => min x (mnI (y :: r))
theorem mnI_le : ∀ (l : List Int), ∀ y ∈ l, mnI l ≤ y
  | [], y, h => by cases h
  | [x], y, h => by
    have e : y = x := by simpa using h
    rw [e]
    exact Int.le_refl _
  | x :: z :: r, y, h => by
    have ih := mnI_le (z :: r)
    show min x (mnI (z :: r)) ≤ y
    rcases List.mem_cons.mp h with e | e
    · omega
    · have := ih y e
      omega
theorem mnI_mem : ∀ (l : List Int), l ≠ [] → mnI l ∈ l
  | [], h => absurd rfl h
  | [x], _ => by simp [mnI]
  | x :: z :: r, _ => by
    have ih := mnI_mem (z :: r) (by simp)
    show min x (mnI (z :: r)) ∈ x :: z :: r
    by_cases h : x ≤ mnI (z :: r)
    · rw [Int.min_eq_left h]
      exact List.mem_cons_self ..
    · rw [Int.min_eq_right (by omega)]
      exact List.mem_cons_of_mem _ ih
theorem mnI_of {l : List Int} {m : Int} (h1 : m ∈ l) (h2 : ∀ y ∈ l, m ≤ y) : m = mnI l := by
  have a := h2 _ (mnI_mem l (by intro z; rw [z] at h1; cases h1))
  have b := mnI_le l m h1
  omega
def csg (p : Pl) : Nat := 97 + p.pr.idxOf (mnI p.pr)
theorem signs_mem {many c : Nat} (hm : many ≤ 4) : c ∈ signs many ↔ 97 ≤ c ∧ c < 97 + many := by
  have h : many = 0 ∨ many = 1 ∨ many = 2 ∨ many = 3 ∨ many = 4 := by omega
  rcases h with h | h | h | h | h <;> subst h <;> simp [signs] <;> omega
theorem Pl.Ok.ne {p : Pl} (ok : p.Ok) : p.pr ≠ [] := fun z => by
  have h1 := ok.pl
  have h2 := ok.m1
  rw [z] at h1
  simp at h1
  omega
theorem csg_lt {p : Pl} (ok : p.Ok) : p.pr.idxOf (mnI p.pr) < p.many := by
  rw [← ok.pl]
  exact List.idxOf_lt_length_iff.mpr (mnI_mem _ ok.ne)
theorem csg_in {p : Pl} (ok : p.Ok) : csg p ∈ signs p.many := by
  have := csg_lt ok
  exact (signs_mem ok.m4).mpr ⟨by unfold csg; omega, by unfold csg; omega⟩
theorem cst_csg {p : Pl} (ok : p.Ok) : cst p (csg p) = mnI p.pr := by
  have h := csg_lt ok
  have h2 : p.pr.idxOf (mnI p.pr) < p.pr.length := by rw [ok.pl]; exact h
  unfold cst csg
  rw [if_neg (by omega), Nat.add_sub_cancel_left]
  simp [List.getD, List.getElem?_eq_getElem h2, List.getElem_idxOf h2]
theorem mn_in {p : Pl} (ok : p.Ok) : 1 ≤ mnI p.pr ∧ mnI p.pr ≤ 99 := ok.pr _ (mnI_mem _ ok.ne)
theorem cst_sign {p : Pl} (ok : p.Ok) {c : Nat} (h : c ∈ signs p.many) : cst p c ∈ p.pr := by
  have h' := (signs_mem ok.m4).mp h
  unfold cst
  rw [if_neg (by omega)]
  have h2 : c - 97 < p.pr.length := by rw [ok.pl]; omega
  simp [List.getD, List.getElem?_eq_getElem h2]
theorem cst_in {p : Pl} (ok : p.Ok) {c : Nat} (h : c = 45 ∨ c ∈ signs p.many) : 1 ≤ cst p c ∧ cst p c ≤ 99 := by
  by_cases e : c = 45
  · unfold cst
    rw [if_pos e]
    exact ⟨ok.q1, ok.q9⟩
  · exact ok.pr _ (cst_sign ok (h.resolve_left e))
theorem pay_p {p : Pl} (ok : p.Ok) : Pay p.many (mnI p.pr) p.pop (cst p) := by
  have := mn_in ok
  have := ok.q1
  exact ⟨by unfold cst; rw [if_pos rfl], fun c hc => mnI_le _ _ (cst_sign ok hc), by omega, by omega⟩
theorem pay_1 (many : Nat) : Pay many 1 1 (fun _ => 1) := ⟨rfl, fun _ _ => Int.le_refl _, by decide, by decide⟩
def wkey (p : Pl) (w : Nat × Nat) : Int := (w.1 : Int) * p.pop + (w.2 : Int) * (mnI p.pr + p.pop)
def chW (p : Pl) (t : Tr) : Nat × Nat := (ways p.room t).getD (bestN (fun i => wkey p ((ways p.room t).getD i (0, 0))) (ways p.room t).length) (0, 0)
theorem chW_k {p : Pl} {t : Tr} (h : t.k ≠ 0) : chW p t = (t.g, phi p.room t) := by
  unfold chW ways
  rw [if_neg h]
  rfl
theorem chW_0 {p : Pl} {t : Tr} (h : t.k = 0) : chW p t = if wkey p (p.room, 0) < wkey p (0, p.room - t.l.length) then (p.room, 0) else (0, p.room - t.l.length) := by
  unfold chW ways
  rw [if_pos h]
  show [(0, p.room - t.l.length), (p.room, 0)].getD (if decide (wkey p (p.room, 0) < wkey p (0, p.room - t.l.length)) = true then 1 else 0) (0, 0) = _
  by_cases c : wkey p (p.room, 0) < wkey p (0, p.room - t.l.length)
  · rw [decide_eq_true c, if_pos rfl, if_pos c]
    rfl
  · rw [decide_eq_false c, if_neg (by decide), if_neg c]
    rfl
theorem chW_mem (p : Pl) (t : Tr) : chW p t ∈ ways p.room t := by
  by_cases h : t.k = 0
  · rw [chW_0 h]
    unfold ways
    rw [if_pos h]
    split <;> simp
  · rw [chW_k h]
    unfold ways
    rw [if_neg h]
    simp
theorem wprice_key (p : Pl) (t : Tr) (w : Nat × Nat) : wprice (mnI p.pr) p.pop (cst p) t.l w = wkey p w + sprc (cst p) t.l := by
  unfold wprice wkey
  omega
theorem chW_LB (p : Pl) (t : Tr) : wprice (mnI p.pr) p.pop (cst p) t.l (chW p t) = LB p.room (mnI p.pr) p.pop (cst p) t := by
  unfold LB
  by_cases h : t.k = 0
  · rw [if_pos h, chW_0 h]
    simp only [wprice_key]
    split <;> omega
  · rw [if_neg h, chW_k h]
theorem ways_le {p : Pl} (ok : p.Ok) {t : Tr} (a : TrOk p.room p.many t) {w : Nat × Nat} (h : w ∈ ways p.room t) : w.1 ≤ 9 ∧ w.2 ≤ 9 := by
  have := ok.r9
  have := a.gk
  unfold ways at h
  split at h
  · rcases List.mem_cons.mp h with e | e
    · rw [e]
      exact ⟨by omega, by show p.room - _ ≤ 9; omega⟩
    · have e' : w = (p.room, 0) := by simpa using e
      rw [e']
      exact ⟨by show p.room ≤ 9; omega, by show 0 ≤ 9; omega⟩
  · have e' : w = (t.g, phi p.room t) := by simpa using h
    rw [e']
    exact ⟨by show t.g ≤ 9; omega, by show phi p.room t ≤ 9; unfold phi; omega⟩
/-- the cheapest steps -/
def chS (p : Pl) (t : Tr) : List Nat := wayS (csg p) (chW p t) t.l
theorem chS_in {p : Pl} (ok : p.Ok) {t : Tr} (a : TrOk p.room p.many t) : ∀ c ∈ chS p t, c = 45 ∨ c ∈ signs p.many := way_in (csg_in ok) a.s
theorem chS_told {p : Pl} (ok : p.Ok) {t : Tr} (a : TrOk p.room p.many t) : ttold p.room (chS p t) = t := way_told ok.r1 a (csg_in ok) (chW_mem p t)
theorem chS_price {p : Pl} (ok : p.Ok) (t : Tr) : sprc (cst p) (chS p t) = LB p.room (mnI p.pr) p.pop (cst p) t := by
  unfold chS
  rw [way_price (pay_p ok) (cst_csg ok), chW_LB]
theorem chS_len {p : Pl} (ok : p.Ok) {t : Tr} (a : TrOk p.room p.many t) : (chS p t).length ≤ 40 := by
  have h := ways_le ok a (chW_mem p t)
  have := ok.r9
  have := a.kl
  unfold chS
  rw [way_len]
  omega
def few (p : Pl) (t : Tr) : Int := LB p.room 1 1 (fun _ => 1) t
theorem sprc_1 (l : List Nat) : sprc (fun _ => 1) l = (l.length : Int) := by
  induction l with
  | nil => rfl
  | cons c r ih =>
    have e : sprc (fun _ => 1) (c :: r) = 1 + sprc (fun _ => 1) r := by simp [sprc]
    rw [e, ih]
    simp
    omega
/-! ### pairs of ints in the heap -/
def PairsAt (H : Hp) : List (Nat × Nat) → List V → Prop
  | [], vs => vs = []
  | w :: r, vs => ∃ a s, vs = .ref a :: s ∧ H a = some (.tup [.int (w.1 : Int), .int (w.2 : Int)]) ∧ PairsAt H r s
theorem PairsAt.tups {H H' : Hp} (e : Tups H H') : ∀ {ws : List (Nat × Nat)} {vs : List V}, PairsAt H ws vs → PairsAt H' ws vs
  | [], _, h => h
  | _ :: _, _, ⟨a, s, h1, h2, h3⟩ => ⟨a, s, h1, e _ _ h2, h3.tups e⟩
theorem PairsAt.len {H : Hp} : ∀ {ws : List (Nat × Nat)} {vs : List V}, PairsAt H ws vs → vs.length = ws.length
  | [], _, h => by cases h; rfl
  | _ :: r, _, ⟨a, s, h1, h2, h3⟩ => by
    subst h1
    show s.length + 1 = r.length + 1
    rw [h3.len]
theorem PairsAt.get {H : Hp} : ∀ {ws : List (Nat × Nat)} {vs : List V}, PairsAt H ws vs → ∀ {i : Nat} {x : V}, vs[i]? = some x → ∃ w a, ws[i]? = some w ∧ x = .ref a ∧ H a = some (.tup [.int (w.1 : Int), .int (w.2 : Int)])
  | [], vs, h, i, x, e => by
    cases h
    cases e
  | w :: r, vs, ⟨a, s, h1, h2, h3⟩, i, x, e => by
    subst h1
    cases i with
    | zero =>
      cases e
      exact ⟨w, a, rfl, rfl, h2⟩
    | succ i => exact h3.get (i := i) e
/-! ### all but the tables stands -/
def givN (T : List (Addr × Str)) (v : V) (H : Hp) (Q : VK) : Prop := ∀ H', ExtN H H' → Tabs T H' → Q v H'
theorem ExtN.ofS {H H' : Hp} (s : Same H H') : ExtN H H' := fun b o h _ => s b o h
theorem Tabs.same {T : List (Addr × Str)} {H H' : Hp} (t : Tabs T H) (s : Same H H') : Tabs T H' := t.ext s
theorem PlanAt.ext {H H' : Hp} {v : V} {p : Pl} (h : PlanAt H v p) (e : ExtN H H') : PlanAt H' v p := h.tups (Tups.ofN e)
theorem TripAt.ext {H H' : Hp} {v : V} {t : Tr} (h : TripAt H v t) (e : ExtN H H') : TripAt H' v t := h.tups (Tups.ofN e)
theorem BoxAt.ext {H H' : Hp} {p q : Addr} {ns : List Int} {z : Int} (h : BoxAt H p q ns z) (e : ExtN H H') : BoxAt H' p q ns z := ⟨e _ _ h.b (by intro ps z; cases z), e _ _ h.l (by intro ps z; cases z), h.ne⟩
theorem Tabs.keep {T : List (Addr × Str)} {H H' : Hp} {p q : Addr} {ns : List Int} {z : Int} (t : Tabs T H) (b : BoxAt H p q ns z) (k : Keep p q H H') : Tabs T H' := fun x hx => by
  obtain ⟨ps, h1, h2, h3⟩ := t x hx
  refine ⟨ps, ?_, h2, fun pos cv hc => ?_⟩
  · exact k _ _ h1 (ne_of h1 b.b (by intro z; cases z)) (ne_of h1 b.l (by intro z; cases z))
  · obtain ⟨c, e1, e2⟩ := h3 pos cv hc
    exact ⟨c, e1, k _ _ e2 (ne_of e2 b.b (by intro z; unfold CodeO at z; cases z)) (ne_of e2 b.l (by intro z; unfold CodeO at z; cases z))⟩
/-! ### promises -/
def spPSteps : Sp := fun vs H Q _ => ∃ v p l, vs = [v, .str (tx l)] ∧ PlanAt H v p ∧ p.Ok ∧ l.length ≤ 10000 ∧ (∀ c ∈ l, c = 45 ∨ c ∈ signs p.many) ∧ giv (.int (sprc (cst p) l)) H Q
def spWays : Sp := fun vs H Q _ => ∃ v p u t, vs = [v, u] ∧ PlanAt H v p ∧ p.Ok ∧ TripAt H u t ∧ TrOk p.room p.many t ∧ ∀ (D : Addr) (H' : Hp) (xs : List V), Same H H' → H D = none → H' D = some (.lst xs) → PairsAt H' (ways p.room t) xs → Q (.ref D) H'
def spCSign : Sp := fun vs H Q _ => ∃ v p, vs = [v] ∧ PlanAt H v p ∧ p.Ok ∧ giv (.str (tx [csg p])) H Q
def spStepsW : Sp := fun vs H Q _ => ∃ v p a w l, vs = [v, .ref a, .str (tx l)] ∧ PlanAt H v p ∧ p.Ok ∧ H a = some (.tup [.int ((w : Nat × Nat).1 : Int), .int (w.2 : Int)]) ∧ w.1 ≤ 9 ∧ w.2 ≤ 9 ∧ l.length ≤ 9 ∧ giv (.str (tx (wayS (csg p) w l))) H Q
def spChWay (T : List (Addr × Str)) : Sp := fun vs H Q _ => ∃ v p u t, vs = [v, u] ∧ PlanAt H v p ∧ p.Ok ∧ TripAt H u t ∧ TrOk p.room p.many t ∧ Tabs T H ∧ ∀ (a : Addr) (H' : Hp), ExtN H H' → Tabs T H' → H' a = some (.tup [.int ((chW p t).1 : Int), .int ((chW p t).2 : Int)]) → Q (.ref a) H'
def spCheap (T : List (Addr × Str)) : Sp := fun vs H Q _ => ∃ v p u t, vs = [v, u] ∧ PlanAt H v p ∧ p.Ok ∧ TripAt H u t ∧ TrOk p.room p.many t ∧ Tabs T H ∧ ∀ (a : Addr) (H' : Hp), ExtN H H' → Tabs T H' → H' a = some (.tup [.int (LB p.room (mnI p.pr) p.pop (cst p) t), .str (tx (chS p t))]) → Q (.ref a) H'
def spFill (T : List (Addr × Str)) : Sp := fun vs H Q _ => ∃ v p u t, vs = [v, u] ∧ PlanAt H v p ∧ p.Ok ∧ TripAt H u t ∧ TrOk p.room p.many t ∧ Tabs T H ∧ givN T (.int ((chW p t).2 : Int)) H Q
def spFew : Sp := fun vs H Q _ => ∃ v p u t, vs = [v, u] ∧ PlanAt H v p ∧ p.Ok ∧ TripAt H u t ∧ TrOk p.room p.many t ∧ giv (.int (few p t)) H Q
def spJudged : Sp := fun vs H Q _ => ∃ v p u t l, vs = [v, u, .str (tx l)] ∧ PlanAt H v p ∧ p.Ok ∧ TripAt H u t ∧ TrOk p.room p.many t ∧ l.length ≤ 10000 ∧ (∀ c ∈ l, c = 45 ∨ c ∈ signs p.many) ∧ ttold p.room l = t ∧ giv (.int (sprc (cst p) l)) H Q
def spLawT (K : PySem.W.Frag) (T : List (Addr × Str)) : Sp := fun vs H Q _ => ∃ (a : Addr) (ns : List Int), vs = [.ref a] ∧ SqL K H a (ns.map V.int) ∧ ns.length ≤ 63 ∧ Tabs T H ∧ ∀ H', Q (.bl true) H'
end SK
/-! what comes ahead of a stack: the mathematics of row 7 -/
namespace SK
/-! ### all texts of one size, in turn -/
theorem lay_add (many a : Nat) : ∀ b, lay many (a + b) = (lay many a).flatMap fun x => (lay many b).map fun y => x ++ y
  | 0 => by
    show lay many a = (lay many a).flatMap fun x => [x ++ []]
    have e : (fun x : List Nat => [x ++ []]) = fun x => [x] := funext fun x => by rw [List.append_nil]
    rw [e]
    induction lay many a with
    | nil => rfl
    | cons x r ih => rw [List.flatMap_cons, ← ih]; rfl
  | b + 1 => by
    show (lay many (a + b)).flatMap (fun l => (signs many).map fun c => l ++ [c]) = _
    rw [lay_add many a b, List.flatMap_assoc]
    refine congrArg (fun f => (lay many a).flatMap f) (funext fun x => ?_)
    show _ = (((lay many b).flatMap fun l => (signs many).map fun c => l ++ [c])).map fun y => x ++ y
    rw [List.map_flatMap, List.flatMap_map]
    refine congrArg (fun f => (lay many b).flatMap f) (funext fun y => ?_)
    rw [List.map_map]
    refine congrArg (fun f => (signs many).map f) (funext fun c => ?_)
    show x ++ y ++ [c] = x ++ (y ++ [c])
    rw [List.append_assoc]
theorem lex_snoc {x y : List Nat} (h : x < y) (hl : x.length = y.length) (c d : Nat) : x ++ [c] < y ++ [d] := by
  induction x generalizing y with
  | nil =>
    cases y with
    | nil => exact absurd h (List.lt_irrefl _)
    | cons b y => cases hl
  | cons a x ih =>
    cases y with
    | nil => cases hl
    | cons b y =>
      rcases List.cons_lt_cons_iff.mp h with h1 | ⟨h1, h2⟩
      · exact List.cons_lt_cons_iff.mpr (.inl h1)
      · exact List.cons_lt_cons_iff.mpr (.inr ⟨h1, ih h2 (Nat.succ.inj hl)⟩)
theorem lex_last {x : List Nat} {c d : Nat} (h : c < d) : x ++ [c] < x ++ [d] := by
  induction x with
  | nil => exact List.cons_lt_cons_iff.mpr (.inl h)
  | cons a x ih => exact List.cons_lt_cons_iff.mpr (.inr ⟨rfl, ih⟩)
theorem signs_up (many : Nat) : (signs many).Pairwise (· < ·) := by
  unfold signs
  exact List.Pairwise.sublist (List.take_sublist _ _) (by decide)
theorem lay_up (many : Nat) : ∀ n, (lay many n).Pairwise (· < ·)
  | 0 => List.pairwise_singleton _ _
  | n + 1 => by
    show ((lay many n).flatMap fun l => (signs many).map fun c => l ++ [c]).Pairwise _
    rw [List.pairwise_flatMap]
    refine ⟨fun l _ => ?_, ?_⟩
    · rw [List.pairwise_map]
      exact (signs_up many).imp fun h => lex_last h
    · refine (List.Pairwise.and_mem.mp (lay_up many n)).imp fun {x y} h => ?_
      intro u hu v hv
      obtain ⟨c, _, rfl⟩ := List.mem_map.mp hu
      obtain ⟨d, _, rfl⟩ := List.mem_map.mp hv
      exact lex_snoc h.2.2 ((lay_mem h.1).1.trans (lay_mem h.2.1).1.symm) c d
theorem mem_lay {many : Nat} : ∀ {n : Nat} {l : List Nat}, l.length = n → (∀ c ∈ l, c ∈ signs many) → l ∈ lay many n
  | 0, l, h, _ => by
    have e := List.length_eq_zero_iff.mp h
    subst e
    exact List.mem_singleton.mpr rfl
  | n + 1, l, h, hs => by
    have hne : l ≠ [] := fun z => by
      subst z
      cases h
    show l ∈ (lay many n).flatMap fun l => (signs many).map fun c => l ++ [c]
    refine List.mem_flatMap.mpr ⟨l.dropLast, mem_lay (by rw [List.length_dropLast, h]; rfl) (fun c hc => hs c (List.dropLast_subset l hc)), ?_⟩
    refine List.mem_map.mpr ⟨l.getLast hne, hs _ (List.getLast_mem hne), List.dropLast_concat_getLast hne⟩
theorem mem_stk {many : Nat} : ∀ {n : Nat} {l : List Nat}, l.length ≤ n → (∀ c ∈ l, c ∈ signs many) → l ∈ stk many n
  | 0, l, h, hs => mem_lay (Nat.le_zero.mp h) hs
  | n + 1, l, h, hs => by
    show l ∈ stk many n ++ lay many (n + 1)
    by_cases h1 : l.length = n + 1
    · exact List.mem_append_right _ (mem_lay h1 hs)
    · exact List.mem_append_left _ (mem_stk (by omega) hs)
/-- by size, then as texts rise -/
def Bef (x y : List Nat) : Prop := x.length < y.length ∨ (x.length = y.length ∧ x < y)
theorem stk_up (many : Nat) : ∀ n, (stk many n).Pairwise Bef
  | 0 => List.pairwise_singleton _ _
  | n + 1 => by
    show (stk many n ++ lay many (n + 1)).Pairwise _
    rw [List.pairwise_append]
    refine ⟨stk_up many n, ?_, fun x hx y hy => .inl ?_⟩
    · exact (List.Pairwise.and_mem.mp (lay_up many (n + 1))).imp fun {x y} h => .inr ⟨(lay_mem h.1).1.trans (lay_mem h.2.1).1.symm, h.2.2⟩
    · have := (stk_mem hx).1
      have := (lay_mem hy).1
      omega
theorem filter_one {α : Type} {R : α → α → Prop} (irr : ∀ x, ¬ R x x) (p : α → Bool) {u : α} (hp : ∀ x, p x = true ↔ x = u) : ∀ {l : List α}, l.Pairwise R → u ∈ l → l.filter p = [u]
  | [], _, h => by cases h
  | x :: r, hw, h => by
    obtain ⟨h1, h2⟩ := List.pairwise_cons.mp hw
    by_cases hx : x = u
    · subst hx
      rw [List.filter_cons_of_pos ((hp x).mpr rfl)]
      have e : r.filter p = [] := List.filter_eq_nil_iff.mpr fun y hy hpy => by
        have := (hp y).mp hpy
        subst this
        exact irr _ (h1 _ hy)
      rw [e]
    · rw [List.filter_cons_of_neg (fun z => hx ((hp x).mp z))]
      rcases List.mem_cons.mp h with h | h
      · exact absurd h.symm hx
      · exact filter_one irr p hp h2 h
theorem lay_first (many : Nat) (h : 1 ≤ many) : ∀ n, (lay many n).head? = some (List.replicate n 97)
  | 0 => rfl
  | n + 1 => by
    have ih := lay_first many h n
    show ((lay many n).flatMap fun l => (signs many).map fun c => l ++ [c]).head? = _
    cases e : lay many n with
    | nil =>
      rw [e] at ih
      cases ih
    | cons x r =>
      rw [e] at ih
      have ex : x = List.replicate n 97 := Option.some.inj ih
      subst ex
      have es : ∃ r2, signs many = 97 :: r2 := by
        obtain ⟨m, rfl⟩ : ∃ m, many = m + 1 := ⟨many - 1, by omega⟩
        exact ⟨_, rfl⟩
      obtain ⟨r2, es⟩ := es
      rw [List.flatMap_cons, es, List.map_cons, List.cons_append, List.head?_cons, ← List.replicate_succ']
/-! ### how many -/
def tupto (many : Nat) : Nat → Nat
  | 0 => 1
  | n + 1 => tupto many n + many ^ (n + 1)
theorem signs_l {many : Nat} (h : many ≤ 4) : (signs many).length = many := by
  unfold signs
  rw [List.length_take]
  exact Nat.min_eq_left h
theorem lay_l {many : Nat} (h : many ≤ 4) (n : Nat) : (lay many n).length = many ^ n := by rw [lay_len, signs_l h]
theorem stk_l {many : Nat} (h : many ≤ 4) : ∀ n, (stk many n).length = tupto many n
  | 0 => rfl
  | n + 1 => by
    show (stk many n ++ lay many (n + 1)).length = _
    rw [List.length_append, stk_l h n, lay_l h]
    rfl
/-- the stacks that become this one -/
def bef (room many : Nat) (t : Tr) (s : List Nat) : List (List Nat) := (stk many room).filter fun x => decide (tby t x = s)
def bleft (room many g k u : Nat) : Nat := if k = 0 then tupto many room else if u = 0 then tupto many g else if u < k then many ^ g else many ^ g * tupto many (room - k - g)
def bfirst (g : Nat) (u : List Nat) : List Nat := if u = [] then [] else u ++ List.replicate g 97
theorem tby_iff {t : Tr} {u x : List Nat} : tby t x = u ++ t.l ↔ tp t.k (ct t.g x) = u := by
  unfold tby
  exact List.append_left_inj _
/-- parts of the stacks, size by size -/
theorem stk_filter_const {many : Nat} (p : List Nat → Bool) {c : Nat} {F : List (List Nat)} (h : ∀ m, m ≠ c → (lay many m).filter p = []) (hc : (lay many c).filter p = F) : ∀ n, (stk many n).filter p = if c ≤ n then F else []
  | 0 => by
    show (lay many 0).filter p = _
    by_cases h0 : c = 0
    · subst h0
      rw [if_pos (Nat.le_refl _)]
      exact hc
    · rw [if_neg (by omega)]
      exact h 0 (by omega)
  | n + 1 => by
    show (stk many n ++ lay many (n + 1)).filter p = _
    rw [List.filter_append, stk_filter_const p h hc n]
    by_cases h1 : c = n + 1
    · subst h1
      rw [if_neg (by omega), if_pos (Nat.le_refl _), List.nil_append, hc]
    · rw [h _ (fun z => h1 z.symm), List.append_nil]
      by_cases h2 : c ≤ n
      · rw [if_pos h2, if_pos (by omega)]
      · rw [if_neg h2, if_neg (by omega)]
theorem lay_filter_app {many : Nat} (p : List Nat → Bool) (a b : Nat) : (lay many (a + b)).filter p = (lay many a).flatMap fun x => ((lay many b).map fun y => x ++ y).filter p := by
  rw [lay_add, List.filter_flatMap]
theorem tp_nil_iff {k : Nat} (h : 0 < k) {x : List Nat} : tp k x = [] ↔ x = [] := by
  constructor
  · intro e
    have := congrArg List.length e
    rw [len_tp, List.length_nil] at this
    exact List.length_eq_zero_iff.mp (by omega)
  · intro e
    subst e
    exact tp_all (Nat.zero_le _)
theorem ct_nil_iff {g : Nat} {x : List Nat} : ct g x = [] ↔ x.length ≤ g := by
  constructor
  · intro e
    have := congrArg List.length e
    rw [len_ct] at this
    simp at this
    omega
  · exact ct_all
theorem ct_app_eq {g : Nat} {x y : List Nat} (h : y.length = g) : ct g (x ++ y) = x := by
  rw [ct_app_ge (by omega), h, Nat.sub_self, ct_zero]
theorem filter_all {α : Type} (p : α → Bool) (l : List α) (h : ∀ x ∈ l, p x = true) : l.filter p = l := List.filter_eq_self.mpr h
theorem filter_none {α : Type} (p : α → Bool) (l : List α) (h : ∀ x ∈ l, ¬ p x = true) : l.filter p = [] := List.filter_eq_nil_iff.mpr h
theorem flatMap_pick {α β : Type} (f : α → List β) (g : α → List β) : ∀ (l : List α), (∀ x ∈ l, f x = g x) → l.flatMap f = l.flatMap g
  | [], _ => rfl
  | x :: r, h => by
    rw [List.flatMap_cons, List.flatMap_cons, h x (List.mem_cons_self ..), flatMap_pick f g r fun y hy => h y (List.mem_cons_of_mem _ hy)]
theorem flatMap_if {α β : Type} (p : α → Bool) (g : α → List β) : ∀ (l : List α), (l.flatMap fun x => if p x = true then g x else []) = (l.filter p).flatMap g
  | [] => rfl
  | x :: r => by
    rw [List.flatMap_cons, flatMap_if p g r]
    by_cases h : p x = true
    · rw [if_pos h, List.filter_cons_of_pos h, List.flatMap_cons]
    · rw [if_neg h, List.filter_cons_of_neg h, List.nil_append]
theorem stk_filter_le {many : Nat} (g : Nat) (p : List Nat → Bool) (hp : ∀ x, p x = true ↔ x.length ≤ g) : ∀ n, (stk many n).filter p = stk many (min n g)
  | 0 => by
    show (lay many 0).filter p = _
    rw [Nat.zero_min]
    exact filter_all p _ fun x hx => (hp x).mpr (by have := (lay_mem hx).1; omega)
  | n + 1 => by
    show (stk many n ++ lay many (n + 1)).filter p = _
    rw [List.filter_append, stk_filter_le g p hp n]
    by_cases h : n + 1 ≤ g
    · rw [filter_all p (lay many (n + 1)) fun x hx => (hp x).mpr (by have := (lay_mem hx).1; omega), Nat.min_eq_left h, Nat.min_eq_left (by omega)]
      rfl
    · rw [filter_none p (lay many (n + 1)) fun x hx z => h (by have := (hp x).mp z; have := (lay_mem hx).1; omega), List.append_nil]
      congr 1
      omega
theorem stk_first (many : Nat) : ∀ n, (stk many n).head? = some []
  | 0 => rfl
  | n + 1 => by
    show (stk many n ++ lay many (n + 1)).head? = _
    rw [List.head?_append, stk_first many n]
    rfl
/-- where as many stay as can -/
theorem stk_filter_deep {many g : Nat} (hm : many ≤ 4) (h1 : 1 ≤ many) {u : List Nat} (u0 : u.length ≠ 0) (p : List Nat → Bool) (hu : ∀ c ∈ u, c ∈ signs many) (hp : ∀ x, p x = true ↔ tp u.length (ct g x) = u) : ∀ n,
    ((stk many n).filter p).length = (if n < u.length + g then 0 else many ^ g * tupto many (n - (u.length + g))) ∧ ((stk many n).filter p).head? = if n < u.length + g then none else some (u ++ List.replicate g 97) := by
  have hlow : ∀ m, m < u.length + g → (lay many m).filter p = [] := fun m hm => filter_none _ _ fun x hx z => by
    have e := congrArg List.length ((hp x).mp z)
    rw [len_tp, len_ct] at e
    have := (lay_mem hx).1
    omega
  have hat : ∀ j, (lay many (j + u.length + g)).filter p = (lay many j).flatMap fun w => (lay many g).map fun v => w ++ u ++ v := fun j => by
    rw [lay_filter_app]
    have e1 : ((lay many (j + u.length)).flatMap fun x => ((lay many g).map fun y => x ++ y).filter p) = (lay many (j + u.length)).flatMap fun x => if decide (tp u.length x = u) = true then (lay many g).map fun y => x ++ y else [] :=
      flatMap_pick _ _ _ fun x hx => by
        by_cases h : tp u.length x = u
        · rw [if_pos (decide_eq_true h)]
          refine filter_all _ _ fun z hz => ?_
          obtain ⟨y, hy, rfl⟩ := List.mem_map.mp hz
          exact (hp _).mpr (by rw [ct_app_eq (lay_mem hy).1]; exact h)
        · rw [if_neg (fun z => h (of_decide_eq_true z))]
          refine filter_none _ _ fun z hz hz2 => ?_
          obtain ⟨y, hy, rfl⟩ := List.mem_map.mp hz
          have := (hp _).mp hz2
          rw [ct_app_eq (lay_mem hy).1] at this
          exact h this
    rw [e1, flatMap_if (fun x => decide (tp u.length x = u)), lay_filter_app]
    have e2 : ((lay many j).flatMap fun x => ((lay many u.length).map fun y => x ++ y).filter fun x => decide (tp u.length x = u)) = (lay many j).flatMap fun x => [x ++ u] :=
      flatMap_pick _ _ _ fun x hx => by
        rw [List.filter_map]
        have e3 : (lay many u.length).filter ((fun x => decide (tp u.length x = u)) ∘ fun y => x ++ y) = (lay many u.length).filter fun y => decide (y = u) := List.filter_congr fun y hy => by
          have hy2 := (lay_mem hy).1
          show decide (tp u.length (x ++ y) = u) = decide (y = u)
          have e4 : tp u.length (x ++ y) = y := by
            rw [tp_app, hy2, Nat.sub_self, tp_zero, List.nil_append]
            exact tp_all (Nat.le_of_eq hy2)
          rw [e4]
        rw [e3, filter_one (R := (· < ·)) (fun x => List.lt_irrefl x) (fun y => decide (y = u)) (u := u) (fun x => decide_eq_true_iff) (lay_up many _) (mem_lay rfl hu)]
        rfl
    rw [e2, List.flatMap_assoc]
    exact flatMap_pick _ _ _ fun x hx => by simp
  have hlen : ∀ j, ((lay many (j + u.length + g)).filter p).length = many ^ j * many ^ g := fun j => by
    rw [hat]
    have : ∀ l : List (List Nat), (l.flatMap fun w => (lay many g).map fun v => w ++ u ++ v).length = l.length * many ^ g := fun l => by
      induction l with
      | nil => simp
      | cons w r ih => rw [List.flatMap_cons, List.length_append, ih, List.length_map, lay_l hm, List.length_cons, Nat.succ_mul, Nat.add_comm]
    rw [this, lay_l hm]
  intro n
  induction n with
  | zero =>
    show ((lay many 0).filter p).length = _ ∧ ((lay many 0).filter p).head? = _
    by_cases h : 0 < u.length + g
    · rw [hlow 0 h, if_pos h, if_pos h]
      exact ⟨rfl, rfl⟩
    · have e : u = [] := List.length_eq_zero_iff.mp (by omega)
      have e2 : g = 0 := by omega
      subst e e2
      rw [if_neg (by simp), if_neg (by simp)]
      have := hat 0
      simp only [List.length_nil, Nat.add_zero] at this
      rw [this]
      simp [lay, tupto]
  | succ n ih =>
    have e : (stk many (n + 1)).filter p = (stk many n).filter p ++ (lay many (n + 1)).filter p := by
      show (stk many n ++ lay many (n + 1)).filter p = _
      rw [List.filter_append]
    rw [e, List.length_append, List.head?_append, ih.1, ih.2]
    by_cases h : n + 1 < u.length + g
    · rw [if_pos h, if_pos h, if_pos (by omega), if_pos (by omega), hlow _ h]
      exact ⟨rfl, rfl⟩
    · rw [if_neg h, if_neg h]
      by_cases h2 : n < u.length + g
      · rw [if_pos h2, if_pos h2]
        have h3 : n + 1 = 0 + u.length + g := by omega
        rw [h3, hlen, hat]
        have e5 : 0 + u.length + g - (u.length + g) = 0 := by omega
        rw [e5]
        refine ⟨by simp [tupto], ?_⟩
        show (((lay many 0).flatMap fun w => (lay many g).map fun v => w ++ u ++ v)).head? = _
        show ((((lay many g).map fun v => [] ++ u ++ v)) ++ []).head? = _
        rw [List.append_nil, List.head?_map, lay_first many h1]
        simp
      · rw [if_neg h2, if_neg h2]
        have h3 : n + 1 = (n + 1 - (u.length + g)) + u.length + g := by omega
        have h4 : n + 1 - (u.length + g) = (n - (u.length + g)) + 1 := by omega
        have hl := hlen (n + 1 - (u.length + g))
        rw [← h3] at hl
        rw [hl, h4]
        refine ⟨?_, by simp⟩
        show _ = many ^ g * (tupto many (n - (u.length + g)) + many ^ (n - (u.length + g) + 1))
        rw [Nat.mul_add, Nat.mul_comm (many ^ (n - (u.length + g) + 1))]
theorem bef_is {room many : Nat} {t : Tr} (ok : TrOk room many t) (h1 : 1 ≤ many) (h4 : many ≤ 4) {u : List Nat} (hu : u.length ≤ t.k) (hs : ∀ c ∈ u, c ∈ signs many) :
    (bef room many t (u ++ t.l)).length = bleft room many t.g t.k u.length ∧ (bef room many t (u ++ t.l)).head? = some (bfirst t.g u) := by
  have gk := ok.gk
  have hz := ok.z
  unfold bef bleft
  have e0 : (stk many room).filter (fun x => decide (tby t x = u ++ t.l)) = (stk many room).filter (fun x => decide (tp t.k (ct t.g x) = u)) := List.filter_congr fun x _ => decide_eq_decide.mpr tby_iff
  rw [e0]
  by_cases k0 : t.k = 0
  · have eu : u = [] := List.length_eq_zero_iff.mp (by omega)
    subst eu
    rw [if_pos k0, filter_all _ _ fun x _ => decide_eq_true (by rw [k0, tp_zero]), stk_l h4, stk_first]
    exact ⟨rfl, rfl⟩
  · rw [if_neg k0]
    by_cases u0 : u.length = 0
    · have eu : u = [] := List.length_eq_zero_iff.mp u0
      subst eu
      rw [if_pos u0, stk_filter_le t.g _ (fun x => by rw [decide_eq_true_iff, tp_nil_iff (by omega), ct_nil_iff]), Nat.min_eq_right (by omega), stk_l h4, stk_first]
      exact ⟨rfl, rfl⟩
    · have une : u ≠ [] := fun z => u0 (by rw [z]; rfl)
      have ef : bfirst t.g u = u ++ List.replicate t.g 97 := by
        unfold bfirst
        rw [if_neg une]
      rw [if_neg u0, ef]
      by_cases uk : u.length < t.k
      · rw [if_pos uk]
        have hp : ∀ x : List Nat, tp t.k (ct t.g x) = u ↔ ct t.g x = u := fun x => by
          constructor
          · intro e
            have e2 := congrArg List.length e
            rw [len_tp] at e2
            rw [tp_all (by omega)] at e
            exact e
          · intro e
            rw [e]
            exact tp_all (by omega)
        have hF : ∀ m, m ≠ u.length + t.g → (lay many m).filter (fun x => decide (tp t.k (ct t.g x) = u)) = [] := fun m hm => filter_none _ _ fun x hx z => by
          have e := congrArg List.length ((hp x).mp (of_decide_eq_true z))
          rw [len_ct, (lay_mem hx).1] at e
          omega
        have hc : (lay many (u.length + t.g)).filter (fun x => decide (tp t.k (ct t.g x) = u)) = (lay many t.g).map fun v => u ++ v := by
          rw [lay_filter_app]
          have e1 : ((lay many u.length).flatMap fun x => ((lay many t.g).map fun y => x ++ y).filter fun x => decide (tp t.k (ct t.g x) = u)) = (lay many u.length).flatMap fun x => if decide (x = u) = true then (lay many t.g).map fun y => x ++ y else [] :=
            flatMap_pick _ _ _ fun x hx => by
              by_cases h : x = u
              · rw [if_pos (decide_eq_true h)]
                refine filter_all _ _ fun z hz => ?_
                obtain ⟨y, hy, rfl⟩ := List.mem_map.mp hz
                exact decide_eq_true ((hp _).mpr (by rw [ct_app_eq (lay_mem hy).1]; exact h))
              · rw [if_neg (fun z => h (of_decide_eq_true z))]
                refine filter_none _ _ fun z hz hz2 => ?_
                obtain ⟨y, hy, rfl⟩ := List.mem_map.mp hz
                have := (hp _).mp (of_decide_eq_true hz2)
                rw [ct_app_eq (lay_mem hy).1] at this
                exact h this
          rw [e1, flatMap_if (fun x => decide (x = u)), filter_one (R := (· < ·)) (fun x => List.lt_irrefl x) (fun y => decide (y = u)) (u := u) (fun x => decide_eq_true_iff) (lay_up many _) (mem_lay rfl hs)]
          simp
        rw [stk_filter_const _ hF hc room, if_pos (by omega), List.length_map, lay_l h4, List.head?_map, lay_first many h1]
        exact ⟨rfl, rfl⟩
      · have ek : t.k = u.length := by omega
        rw [if_neg uk]
        have d := stk_filter_deep (many := many) (g := t.g) h4 h1 u0 (fun x => decide (tp t.k (ct t.g x) = u)) hs (fun x => by rw [decide_eq_true_iff, ek]) room
        rw [if_neg (by omega), if_neg (by omega)] at d
        have e6 : room - (u.length + t.g) = room - t.k - t.g := by omega
        rw [e6] at d
        exact d
theorem bef_no {room many : Nat} {t : Tr} {s : List Nat} (h : ¬ ∃ u : List Nat, u.length ≤ t.k ∧ s = u ++ t.l) : bef room many t s = [] :=
  filter_none _ _ fun x _ z => h ⟨tp t.k (ct t.g x), by rw [len_tp]; exact Nat.min_le_left .., (of_decide_eq_true z).symm⟩
end SK
namespace SK
open PySem PySem.Spec PyProof.Rows L2
/-! ### (int, text) > (int, text) -/
theorem RcOp_gt_str {A : Around} {s : Shared} (a b : Str) (t u : Tok) : Ob.RcOp .Gt A s (.str a t) (.str b u) (decide (b.cps.toList < a.cps.toList)) := fun _ _ _ _ h => PySem.P.gt_str h
def rGtIS (K : PySem.W.Frag) : R2 := fun x y H Q => ∃ (a b : Addr) (i j : Int) (l m : List Nat), x = .ref a ∧ y = .ref b ∧ SqT K H a [.int i, .str (tx l)] ∧ SqT K H b [.int j, .str (tx m)] ∧
  Q (.bl (if i = j then (if l = m then false else decide (m < l)) else decide (j < i))) H
theorem op_gtIS {X : Cx} (hu : X.A.units < cLine) : OpR X (compareOp .Gt) (rGtIS X.K) := by
  intro pins s σ H x y v u Q I rx ry h
  obtain ⟨a, b, i, j, l, m, rfl, rfl, ha, hb, q⟩ := h
  cases rx
  cases ry
  obtain ⟨its, r1, p1, _⟩ := I.tuple ha
  obtain ⟨its2, r2, p2, _⟩ := I.tuple hb
  cases r1 with
  | cons x1 y1 =>
  cases y1 with
  | cons x2 y2 =>
  cases y2
  cases r2 with
  | cons w1 z1 =>
  cases z1 with
  | cons w2 z2 =>
  cases z2
  obtain ⟨t1, rfl⟩ := x1
  obtain ⟨t2, rfl⟩ := x2
  obtain ⟨t3, rfl⟩ := w1
  obtain ⟨t4, rfl⟩ := w2
  have R := Ob.RcOp.tuples_gt (A := X.A) (s := s) (e := fun n => if n = 0 then decide (i = j) else decide (l = m)) (r := fun n => if n = 0 then decide (j < i) else decide (m < l)) p1 p2 hu (fun n h1 h2 => by
    match n, h1, h2 with
    | 0, _, _ =>
      show SeqAt.EqAt _ _ (Value.int i t1) (.int j t3) (decide (i = j))
      have z : (i == j) = decide (i = j) := rfl
      rw [← z]
      exact SeqAt.EqAt.int_int _ _ _ _
    | 1, _, _ =>
      show SeqAt.EqAt _ _ (Value.str (tx l) t2) (.str (tx m) t4) (decide (l = m))
      have z : (tx l == tx m) = decide (l = m) := by
        by_cases e : l = m
        · subst e
          simp
        · rw [decide_eq_false e]
          exact beq_eq_false_iff_ne.mpr fun z => e (str_inj.mp z)
      rw [← z]
      exact SeqAt.EqAt.str_str _ _ _ _
    | n + 2, h1, _ => exact absurd h1 (by simp)) (fun n h1 h2 _ => by
    match n, h1, h2 with
    | 0, _, _ => exact Ob.RcOp.gt_int _ _ _ _
    | 1, _, _ => exact RcOp_gt_str _ _ _ _
    | n + 2, h1, _ => exact absurd h1 (by simp))
  refine R X.prog X.w _ _ ?_
  refine fin_bl I q ?_
  show _ = _
  simp [Ob.lexAt]
/-! ### what comes ahead -/
abbrev fz (l : List Nat) : V := V.str (tx l)
def hdV : Option (List Nat) → V
  | none => .non
  | some l => fz l
def BefAt (H : Hp) (v : V) (n : Nat) (o : Option (List Nat)) : Prop := ∃ a, v = .ref a ∧ H a = some (.tup [.int (n : Int), hdV o])
def spSize : Sp := fun vs H Q _ => ∃ many n : Nat, vs = [.int (many : Int), .int (n : Int)] ∧ many ≤ 4 ∧ n ≤ 9 ∧ giv (.int ((many ^ n : Nat) : Int)) H Q
def spUpto : Sp := fun vs H Q _ => ∃ many n : Nat, vs = [.int (many : Int), .int (n : Int)] ∧ many ≤ 4 ∧ n ≤ 9 ∧ giv (.int ((tupto many n : Nat) : Int)) H Q
def spLeft : Sp := fun vs H Q _ => ∃ (v : V) (p : Pl) (g k u : Nat), vs = [v, .int (g : Int), .int (k : Int), .int (u : Int)] ∧ PlanAt H v p ∧ p.Ok ∧ g + k ≤ p.room ∧ giv (.int ((bleft p.room p.many g k u : Nat) : Int)) H Q
def spBefores : Sp := fun vs H Q _ => ∃ v p u t l, vs = [v, u, .str (tx l)] ∧ PlanAt H v p ∧ p.Ok ∧ TripAt H u t ∧ TrOk p.room p.many t ∧ l.length ≤ p.room ∧ (∀ c ∈ l, c ∈ signs p.many) ∧
  ∀ (H' : Hp) (w : V), Same H H' → BefAt H' w (bef p.room p.many t l).length (bef p.room p.many t l).head? → Q w H'
theorem alk_bef {H : Hp} {k : Nat} {v w : V} {n : Nat} {o : Option (List Nat)} (hv : BefAt H v n o) (hw : BefAt H w n o) : Alk H (k + 2) v w := by
  obtain ⟨a, rfl, ha⟩ := hv
  obtain ⟨b, rfl, hb⟩ := hw
  refine .inr ⟨a, b, _, _, rfl, rfl, .inl ⟨ha, hb⟩, rfl, by show 2 ≤ 10000; decide, fun i x y e1 e2 => ?_⟩
  have e : x = y := Option.some.inj (e1.symm.trans e2)
  subst e
  refine .inl ⟨rfl, ?_⟩
  match i, e1 with
  | 0, e1 => cases e1; trivial
  | 1, e1 =>
    cases e1
    cases o with
    | none => trivial
    | some l => trivial
theorem mulZ {a b : Nat} (h : a ≤ 1000000000) : (-(2 ^ 64) < (a : Int) ∧ (a : Int) < 2 ^ 64) := by
  constructor <;> omega
theorem pow_le9 {many n : Nat} (h : many ≤ 4) (h9 : n ≤ 9) : many ^ n ≤ 262144 := by
  calc many ^ n ≤ 4 ^ n := Nat.pow_le_pow_left h n
    _ ≤ 4 ^ 9 := Nat.pow_le_pow_right (by decide) h9
    _ = 262144 := by decide
theorem tupto_sum (many : Nat) : ∀ n, ((List.range (n + 1)).map fun i => many ^ i).sum = tupto many n
  | 0 => by simp [tupto]
  | n + 1 => by
    rw [List.range_succ, List.map_append, List.sum_append, tupto_sum many n]
    simp [tupto]
theorem ends_app {a b : List Nat} : Txt.endswith (tx a) (tx b) = decide (b <:+ a) := by
  unfold Txt.endswith Builtin.Str.subAt
  rw [tx_len, tx_len, Nat.zero_add]
  by_cases h : b.length ≤ a.length
  · rw [decide_eq_true h, Bool.true_and]
    have e : (tx a).cps.extract (a.length - b.length) (a.length - b.length + b.length) = (a.drop (a.length - b.length)).toArray := by
      show a.toArray.extract _ _ = _
      have e1 : a.length - b.length + b.length = a.length := by omega
      rw [e1]
      simp
      rw [List.take_of_length_le (by rw [List.length_drop]; omega)]
    rw [e]
    show ((a.drop (a.length - b.length)).toArray == b.toArray) = _
    by_cases e2 : a.drop (a.length - b.length) = b
    · have hs : b <:+ a := ⟨a.take (a.length - b.length), by
        conv => rhs; rw [← List.take_append_drop (a.length - b.length) a, e2]⟩
      rw [e2, decide_eq_true hs]
      simp
    · have hs : ¬ b <:+ a := by
        rintro ⟨u, rfl⟩
        refine e2 ?_
        rw [List.length_append, Nat.add_sub_cancel, List.drop_left]
      rw [decide_eq_false hs]
      exact beq_eq_false_iff_ne.mpr fun z => e2 (by simpa using z)
  · have hs : ¬ b <:+ a := by
      rintro ⟨u, rfl⟩
      exact h (by rw [List.length_append]; omega)
    rw [decide_eq_false h, Bool.false_and, decide_eq_false hs]
theorem tby_in {room many : Nat} {t : Tr} (ok : TrOk room many t) {x : List Nat} (h : ∀ c ∈ x, c ∈ signs many) : ∀ c ∈ tby t x, c ∈ signs many := fun c hc => by
  rcases List.mem_append.mp (show c ∈ tp t.k (ct t.g x) ++ t.l from hc) with h1 | h1
  · exact h c (mem_ct (mem_tp h1))
  · exact ok.s c h1
theorem bef_mem {room many : Nat} {t : Tr} {s x : List Nat} : x ∈ bef room many t s ↔ x ∈ stk many room ∧ tby t x = s := by
  unfold bef
  rw [List.mem_filter, decide_eq_true_iff]
theorem head_le {α : Type} {R : α → α → Prop} {l : List α} {x y : α} (h : l.Pairwise R) (hx : l.head? = some x) (hy : y ∈ l) : y = x ∨ R x y := by
  cases l with
  | nil => cases hx
  | cons z r =>
    cases hx
    rcases List.mem_cons.mp hy with e | e
    · exact .inl e
    · exact .inr ((List.pairwise_cons.mp h).1 y e)
/-- the first of those is not behind any of them -/
theorem bef_least {room many : Nat} {t : Tr} {s x f : List Nat} (hf : (bef room many t s).head? = some f) (hx : x ∈ bef room many t s) : (if (f.length : Int) = (x.length : Int) then (if f = x then false else decide (x < f)) else decide ((x.length : Int) < (f.length : Int))) = false := by
  have hp : (bef room many t s).Pairwise Bef := (stk_up many room).filter _
  rcases head_le hp hf hx with e | e
  · subst e
    simp
  · rcases e with e | ⟨e1, e2⟩
    · rw [if_neg (by omega)]
      exact decide_eq_false (by omega)
    · rw [if_pos (by omega)]
      by_cases h : f = x
      · rw [if_pos h]
      · rw [if_neg h]
        exact decide_eq_false fun z => List.lt_irrefl _ (List.lt_trans e2 z)
end SK
namespace SK
open PySem PySem.Spec PyProof.Rows L2
theorem szl2 {n : Nat} (h : n ≤ 3000000) : n < sizeLine := Nat.lt_of_lt_of_le (show n < 16777216 by omega) (by decide)
end SK
namespace SK
open PySem PySem.Spec PyProof.Rows L2
/-- len of a list or a tuple, its frame named -/
def rLenS (K : PySem.W.Frag) : List V → Hp → VK → Prop := fun xs H Q => ∃ p ys, xs = [.ref p] ∧ (SqL K H p ys ∨ SqT K H p ys) ∧ Q (.int (ys.length : Int)) H
theorem call_lenS {X : Cx} : CallR X (.builtin "len") (rLenS X.K) := call_len_seq
end SK
namespace SK
open PySem PySem.Spec PyProof.Rows L2
/-! ### an attribute as a target -/
def gFld (K : PySem.W.Frag) (ta : TE) (f : Str) : TG := fun v σ H Q => ta σ H fun x H1 => ∃ a C dx fs, x = .ref a ∧ H1 a = some (.ins C dx fs) ∧ Cls K C ∧ NoAttr K C f ∧ fs.length < 1000 ∧ Q σ (upd H1 a (.ins C dx (putF f v fs)))
theorem pg_fld {X : Cx} {o : Expr} {ta : TE} {f : Str} {pos : Pos} (ho : PE X o ta) : PG X (.Attribute o f pos) (gFld X.K ta f) := by
  refine ⟨fun pins s σ H v u Q I r h => ?_⟩
  refine PySem.W.kas_attr (thn (ho.run pins s σ H _ I h) fun ov s1 ⟨x, H1, I1, rx, a, C, dx, fs, ex, ea, c, n, l, q⟩ => ?_)
  subst ex
  obtain rfl : ov = Value.ref a := rx
  exact setattr_ok I1 ea c n l r fun s2 I2 => ⟨σ, _, I2, q⟩
/-! ### methods by their class -/
structure Dm (K : PySem.W.Frag) (C : Addr) (m q : Str) (st : Stmt) (ps : List Str) : Prop where
  ex : ∃ (f : Addr) (fd : FuncData), L2.Fun K m q st f fd ∧ Meth K C m f ∧ Binds K fd ps []
structure Di (K : PySem.W.Frag) (mg : Str → Option Value) (C : Addr) (x q : Str) (st : Stmt) (ps : List Str) : Prop where
  ex : ∃ (f : Addr) (fd : FuncData), L2.Fun K "__init__" q st f fd ∧ Mk K C f ∧ mg x = some (.ref C) ∧ Binds K fd ps []
section
variable {P : Program} {w : World} {K : PySem.W.Frag} {mg : Str → Option Value} {base : Heap} {C : Addr}
theorem Dm.met {m q : Str} {st : Stmt} {N ps : List Str} {k : Nat} {sp : Sp} (D : Dm K C m q st ps) (c : Cls K C) (S : FnScope N ps (defScope st)) (len : ∀ vs H Q E, sp vs H Q E → vs.length = ps.length)
    (hbody : ∀ (f : Addr) (cdv : Value) (A : Around) (outer : List Env) (s : Shared) (H : Hp) (vs : List V) (Q : VK) (E : XK), Room k (A.deeper (envOfC q (defScope st) s.heap.objs.size f cdv)) → sp vs H Q E →
      ∃ t, PSs (cxOf CX0 P w K mg base N q (defScope st) f cdv A outer s H E).nox (defBody st) t ∧ t { nx := fun _ H' => Q .non H', rt := Q } (start N vs) H) : C8.Met P w K mg base (k + 1) C m sp [] := by
  obtain ⟨f, fd, F, hm, b⟩ := D.ex
  exact ⟨f, fd, ps, [], c, hm, F.ok S len (fun cdv A outer s H vs Q E => hbody f cdv A outer s H vs Q E), b, .nil⟩
theorem Di.mak {x q : Str} {st : Stmt} {N ps : List Str} {k : Nat} {sp : Sp} (D : Di K mg C x q st ps) (S : FnScope N ps (defScope st)) (len : ∀ vs H Q E, sp vs H Q E → vs.length = ps.length)
    (hbody : ∀ (f : Addr) (cdv : Value) (A : Around) (outer : List Env) (s : Shared) (H : Hp) (vs : List V) (Q : VK) (E : XK), Room k (A.deeper (envOfC q (defScope st) s.heap.objs.size f cdv)) → sp vs H Q E →
      ∃ t, PSs (cxOf CX0 P w K mg base N q (defScope st) f cdv A outer s H E).nox (defBody st) t ∧ t { nx := fun _ H' => Q .non H', rt := Q } (start N vs) H) : C8.Mak P w K mg base (k + 1) x C sp [] := by
  obtain ⟨f, fd, F, M, hm, b⟩ := D.ex
  exact ⟨f, fd, ps, [], M, F.ok S len (fun cdv A outer s H vs Q E => hbody f cdv A outer s H vs Q E), hm, b, .nil⟩
theorem dm_mk {m q : Str} {st : Stmt} {ps : List Str} {f : Addr} {oc : Value} {od an : Option Addr} {osl : Array (Option Value)} {kV doc pm cd ct : Value}
    (a : PySem.W.findIn K (.ref C) m = some (some (.ref f))) (i : PySem.W.isFn K (.ref f) = true) (l : K.lookup f = some ⟨oc, od, .func (PySem.W.fnOf m q (defArgs st) (defBody st) (defScope st) .none kV doc pm an cd ct), osl⟩)
    (c : PySem.W.codeIn K cd q = true) (k : PySem.W.keepIn K (.ref f) = true)
    (hb : ∀ (kV doc pm : Value) (an : Option Addr) (cdv ct : Value) (us : List Value), us.length = ps.length → bindArgs (PySem.W.fnOf m q (defArgs st) (defBody st) (defScope st) .none kV doc pm an cdv ct) ⟨us, []⟩ = pure (ps.zip us)) : Dm K C m q st ps := by
  have F := fun_mk (st := st) l c k
  exact ⟨f, _, F, ⟨a, i, k⟩, F.binds hb⟩
theorem di_mk {x q : Str} {st : Stmt} {ps : List Str} {h : Heap} {f : Addr} {oc : Value} {od an : Option Addr} {osl : Array (Option Value)} {kV doc pm cd ct : Value} (X : K.In h) (G : h.Ns mainGlobals mg)
    (aC : PySem.W.nsIn K mainGlobals x = some (some (.ref C))) (mk : PySem.W.makesIn K C = true) (kc : PySem.W.keepIn K (.ref C) = true)
    (a : PySem.W.findIn K (.ref C) "__init__" = some (some (.ref f))) (i : PySem.W.isFn K (.ref f) = true) (l : K.lookup f = some ⟨oc, od, .func (PySem.W.fnOf "__init__" q (defArgs st) (defBody st) (defScope st) .none kV doc pm an cd ct), osl⟩)
    (c : PySem.W.codeIn K cd q = true) (k : PySem.W.keepIn K (.ref f) = true)
    (hb : ∀ (kV doc pm : Value) (an : Option Addr) (cdv ct : Value) (us : List Value), us.length = ps.length → bindArgs (PySem.W.fnOf "__init__" q (defArgs st) (defBody st) (defScope st) .none kV doc pm an cdv ct) ⟨us, []⟩ = pure (ps.zip us)) : Di K mg C x q st ps := by
  have F := fun_mk (st := st) l c k
  exact ⟨f, _, F, ⟨mk, a, i, kc⟩, PySem.W.mg_of X G aC, F.binds hb⟩
end
/-- the machine's class as the top has made it -/
structure MT (K : PySem.W.Frag) (C : Addr) : Prop where
  cl : Cls K C
  nPlan : NoAttr K C "_plan"
  nStack : NoAttr K C "_stack"
  nSpent : NoAttr K C "_spent"
  nTriple : NoAttr K C "_triple"
  nPast : NoAttr K C "_past"
/-! ### a machine as it stands in the heap -/
structure MS where
  p : Pl
  l : List Nat
  z : Int
  t : Tr
  past : List (List Nat × Int × Tr)
structure MS.Ok (m : MS) : Prop where
  p : m.p.Ok
  l : m.l.length ≤ m.p.room
  s : ∀ c ∈ m.l, c ∈ signs m.p.many
  t : TrOk m.p.room m.p.many m.t
  past : ∀ x ∈ m.past, x.1.length ≤ m.p.room ∧ (∀ c ∈ x.1, c ∈ signs m.p.many) ∧ TrOk m.p.room m.p.many x.2.2
def mf (pv : V) (l : List Nat) (z : Int) (tv : V) (pa : Addr) : List (Str × V) := [("_plan", pv), ("_stack", .str (tx l)), ("_spent", .int z), ("_triple", tv), ("_past", .ref pa)]
theorem n_st_pl : ¬ (("_stack" : Str) = "_plan") := by decide +kernel
theorem n_sp_pl : ¬ (("_spent" : Str) = "_plan") := by decide +kernel
theorem n_sp_st : ¬ (("_spent" : Str) = "_stack") := by decide +kernel
theorem n_tr_pl : ¬ (("_triple" : Str) = "_plan") := by decide +kernel
theorem n_tr_st : ¬ (("_triple" : Str) = "_stack") := by decide +kernel
theorem n_tr_sp : ¬ (("_triple" : Str) = "_spent") := by decide +kernel
theorem n_pa_pl : ¬ (("_past" : Str) = "_plan") := by decide +kernel
theorem n_pa_st : ¬ (("_past" : Str) = "_stack") := by decide +kernel
theorem n_pa_sp : ¬ (("_past" : Str) = "_spent") := by decide +kernel
theorem n_pa_tr : ¬ (("_past" : Str) = "_triple") := by decide +kernel
theorem bne_of {a b : Str} (h : ¬ a = b) : (a == b) = false := beq_eq_false_iff_ne.mpr h
section
variable {pv tv : V} {l : List Nat} {z : Int} {pa : Addr}
theorem mf_plan : (mf pv l z tv pa).lookup ("_plan" : Str) = some pv := by simp [mf]
theorem mf_stack : (mf pv l z tv pa).lookup ("_stack" : Str) = some (.str (tx l)) := by simp [mf, List.lookup, bne_of n_st_pl]
theorem mf_spent : (mf pv l z tv pa).lookup ("_spent" : Str) = some (.int z) := by simp [mf, List.lookup, bne_of n_sp_pl, bne_of n_sp_st]
theorem mf_triple : (mf pv l z tv pa).lookup ("_triple" : Str) = some tv := by simp [mf, List.lookup, bne_of n_tr_pl, bne_of n_tr_st, bne_of n_tr_sp]
theorem mf_past : (mf pv l z tv pa).lookup ("_past" : Str) = some (.ref pa) := by simp [mf, List.lookup, bne_of n_pa_pl, bne_of n_pa_st, bne_of n_pa_sp, bne_of n_pa_tr]
end
end SK
namespace SK
open PySem PySem.Spec PyProof.Rows L2
section
variable {pv tv : V} {l : List Nat} {z : Int} {pa : Addr}
theorem sy {a b : Str} (h : ¬ a = b) : ¬ b = a := fun e => h e.symm
theorem put_stack (y : List Nat) : putF "_stack" (.str (tx y)) (mf pv l z tv pa) = mf pv y z tv pa := by
  unfold mf
  simp [putF, sy n_st_pl]
theorem put_spent (y : Int) : putF "_spent" (.int y) (mf pv l z tv pa) = mf pv l y tv pa := by
  unfold mf
  simp [putF, sy n_sp_pl, sy n_sp_st]
theorem put_triple (y : V) : putF "_triple" y (mf pv l z tv pa) = mf pv l z y pa := by
  unfold mf
  simp [putF, sy n_tr_pl, sy n_tr_st, sy n_tr_sp]
theorem mf_new (y : V) : putF "_past" (.ref pa) (putF "_triple" tv (putF "_spent" (.int z) (putF "_stack" (.str (tx l)) (putF "_plan" pv [])))) = mf pv l z tv pa := by
  unfold mf
  simp [putF, sy n_st_pl, sy n_sp_pl, sy n_sp_st, sy n_tr_pl, sy n_tr_st, sy n_tr_sp, sy n_pa_pl, sy n_pa_st, sy n_pa_sp, sy n_pa_tr]
theorem mf_no {m : Str} (h1 : ¬ m = "_plan") (h2 : ¬ m = "_stack") (h3 : ¬ m = "_spent") (h4 : ¬ m = "_triple") (h5 : ¬ m = "_past") : (mf pv l z tv pa).lookup m = none := by
  unfold mf
  simp [List.lookup, bne_of h1, bne_of h2, bne_of h3, bne_of h4, bne_of h5]
end
def PastAt (H : Hp) : List (List Nat × Int × Tr) → List V → Prop
  | [], vs => vs = []
  | x :: r, vs => ∃ a tv s, vs = .ref a :: s ∧ H a = some (.tup [.str (tx x.1), .int x.2.1, tv]) ∧ TripAt H tv x.2.2 ∧ PastAt H r s
theorem PastAt.tups {H H' : Hp} (e : Tups H H') : ∀ {ps : List (List Nat × Int × Tr)} {vs : List V}, PastAt H ps vs → PastAt H' ps vs
  | [], _, h => h
  | _ :: _, _, ⟨a, tv, s, h1, h2, h3, h4⟩ => ⟨a, tv, s, h1, e _ _ h2, h3.tups e, h4.tups e⟩
theorem PastAt.len {H : Hp} : ∀ {ps : List (List Nat × Int × Tr)} {vs : List V}, PastAt H ps vs → vs.length = ps.length
  | [], _, h => by cases h; rfl
  | _ :: r, _, ⟨a, tv, s, h1, h2, h3, h4⟩ => by
    subst h1
    show s.length + 1 = r.length + 1
    rw [h4.len]
theorem PastAt.snoc {H : Hp} {x : List Nat × Int × Tr} {a : Addr} {tv : V} (ha : H a = some (.tup [.str (tx x.1), .int x.2.1, tv])) (ht : TripAt H tv x.2.2) : ∀ {ps : List (List Nat × Int × Tr)} {vs : List V}, PastAt H ps vs → PastAt H (ps ++ [x]) (vs ++ [.ref a])
  | [], _, h => by
    cases h
    exact ⟨a, tv, [], rfl, ha, ht, rfl⟩
  | _ :: _, _, ⟨b, tv', s, h1, h2, h3, h4⟩ => by
    subst h1
    exact ⟨b, tv', s ++ [.ref a], rfl, h2, h3, h4.snoc ha ht⟩
/-- the last one -/
theorem PastAt.last {H : Hp} {x : List Nat × Int × Tr} : ∀ {ps : List (List Nat × Int × Tr)} {vs : List V}, PastAt H (ps ++ [x]) vs → ∃ a tv us, vs = us ++ [.ref a] ∧ H a = some (.tup [.str (tx x.1), .int x.2.1, tv]) ∧ TripAt H tv x.2.2 ∧ PastAt H ps us
  | [], _, ⟨a, tv, s, h1, h2, h3, h4⟩ => by
    have h4' : s = [] := h4
    subst h4' h1
    exact ⟨a, tv, [], rfl, h2, h3, rfl⟩
  | _ :: r, _, ⟨b, tv', s, h1, h2, h3, h4⟩ => by
    obtain ⟨a, tv, us, e1, e2, e3, e4⟩ := PastAt.last (ps := r) h4
    subst h1 e1
    exact ⟨a, tv, .ref b :: us, rfl, e2, e3, b, tv', us, rfl, h2, h3, e4⟩
structure MAt (C : Addr) (H : Hp) (x pa : Addr) (m : MS) : Prop where
  ob : ∃ dx pv tv, H x = some (.ins C dx (mf pv m.l m.z tv pa)) ∧ PlanAt H pv m.p ∧ TripAt H tv m.t
  pl : ∃ xs, H pa = some (.lst xs) ∧ PastAt H m.past xs
theorem MAt.ne {C : Addr} {H : Hp} {x pa : Addr} {m : MS} (M : MAt C H x pa m) : x ≠ pa := by
  obtain ⟨dx, pv, tv, h, _⟩ := M.ob
  obtain ⟨xs, h2, _⟩ := M.pl
  exact ne_of h h2 (by intro z; cases z)
theorem Keep.tupsM {C : Addr} {H H' : Hp} {x pa : Addr} {m : MS} (k : Keep x pa H H') (M : MAt C H x pa m) : Tups H H' := by
  obtain ⟨dx, pv, tv, h, _⟩ := M.ob
  obtain ⟨xs, h2, _⟩ := M.pl
  exact ⟨fun b ys e => k b _ e (ne_of e h (by intro z; cases z)) (ne_of e h2 (by intro z; cases z)), fun b o ys e => k b _ e (ne_of e h (by intro z; cases z)) (ne_of e h2 (by intro z; cases z))⟩
theorem MAt.mono {C : Addr} {H H' : Hp} {x pa : Addr} {m : MS} (M : MAt C H x pa m) (s : Same H H') : MAt C H' x pa m := by
  obtain ⟨⟨dx, pv, tv, h1, h2, h3⟩, xs, h4, h5⟩ := M
  exact ⟨⟨dx, pv, tv, s _ _ h1, h2.mono s, h3.mono s⟩, xs, s _ _ h4, h5.tups (Tups.of s)⟩
def MS.deed (m : MS) (t : Tr) (z : Int) : MS := ⟨m.p, tby t m.l, m.z + z, tjoin m.t t, m.past ++ [(m.l, m.z, m.t)]⟩
theorem MS.Ok.deed {m : MS} (ok : m.Ok) {t : Tr} (tok : TrOk m.p.room m.p.many t) (z : Int) : (m.deed t z).Ok := by
  refine ⟨ok.p, tby_len tok m.l, fun c hc => ?_, tjoin_ok ok.t tok, fun x hx => ?_⟩
  · rcases List.mem_append.mp (show c ∈ tp t.k (ct t.g m.l) ++ t.l from hc) with h1 | h1
    · exact ok.s c (mem_ct (mem_tp h1))
    · exact tok.s c h1
  · rcases List.mem_append.mp hx with h | h
    · exact ok.past x h
    · have e : x = (m.l, m.z, m.t) := by simpa using h
      subst e
      exact ⟨ok.l, ok.s, ok.t⟩
theorem Keep.two {p q : Addr} {H H' : Hp} (k : Keep p q H H') (o : HO) : Keep p q H (upd H' q o) := fun b u e h1 h2 => by
  rw [upd_ne h2]
  exact k b u e h1 h2
/-! ### promises -/
def spMInit (C : Addr) : Sp := fun vs H Q _ => ∃ (x dx : Addr) (v : V) (p : Pl) (l : List Nat), vs = [.ref x, v, .str (tx l)] ∧ H x = some (.ins C dx []) ∧ PlanAt H v p ∧ p.Ok ∧ l.length ≤ p.room ∧ (∀ c ∈ l, c ∈ signs p.many) ∧
  ∀ (H' : Hp) (pa : Addr), (∀ b o, H b = some o → b ≠ x → H' b = some o) → H pa = none → MAt C H' x pa ⟨p, l, 0, tunt p.room, []⟩ → Q .non H'
def spMDeed (C : Addr) : Sp := fun vs H Q _ => ∃ (x pa : Addr) (m : MS) (u : V) (t : Tr) (z : Int), vs = [.ref x, u, .int z] ∧ MAt C H x pa m ∧ m.Ok ∧ m.past.length ≤ 1000 ∧ TripAt H u t ∧ TrOk m.p.room m.p.many t ∧ ∀ H', Keep x pa H H' → MAt C H' x pa (m.deed t z) → Q .non H'
def spMStep (C : Addr) : Sp := fun vs H Q _ => ∃ (x pa : Addr) (m : MS) (c : Nat), vs = [.ref x, .str (tx [c])] ∧ MAt C H x pa m ∧ m.Ok ∧ m.past.length ≤ 1000 ∧ (c = 45 ∨ c ∈ signs m.p.many) ∧ ∀ H', Keep x pa H H' → MAt C H' x pa (m.deed (tstep m.p.room c) (cst m.p c)) → Q .non H'
def spMDo (C : Addr) : Sp := fun vs H Q _ => ∃ (x pa : Addr) (m : MS) (u : V) (w : W), vs = [.ref x, u] ∧ MAt C H x pa m ∧ m.Ok ∧ m.past.length ≤ 1000 ∧ WAt H w u ∧ WOk m.p.many w ∧ ∀ H', Keep x pa H H' → MAt C H' x pa (m.deed (w.tri m.p.room) (w.prc (cst m.p))) → Q (.str (tx (tby (w.tri m.p.room) m.l))) H'
/-- what falls out, what was on top -/
def fallV (room : Nat) (l : List Nat) : V := match l with
  | [] => .non
  | c :: _ => if l.length = room then .str (tx [c]) else .non
def topV (l : List Nat) : V := match l.getLast? with
  | none => .non
  | some c => .str (tx [c])
def spMPush (C : Addr) : Sp := fun vs H Q _ => ∃ (x pa : Addr) (m : MS) (c : Nat), vs = [.ref x, .str (tx [c])] ∧ MAt C H x pa m ∧ m.Ok ∧ m.past.length ≤ 1000 ∧ c ∈ signs m.p.many ∧ ∀ H', Keep x pa H H' → MAt C H' x pa (m.deed (tstep m.p.room c) (cst m.p c)) → Q (fallV m.p.room m.l) H'
def spMPop (C : Addr) : Sp := fun vs H Q _ => ∃ (x pa : Addr) (m : MS), vs = [.ref x] ∧ MAt C H x pa m ∧ m.Ok ∧ m.past.length ≤ 1000 ∧ ∀ H', Keep x pa H H' → MAt C H' x pa (m.deed (tstep m.p.room 45) (cst m.p 45)) → Q (topV m.l) H'
def spMBack (C : Addr) : Sp := fun vs H Q _ => ∃ (x pa : Addr) (m : MS), vs = [.ref x] ∧ MAt C H x pa m ∧ (m.past = [] → giv (.bl false) H Q) ∧
  (∀ (ps : List (List Nat × Int × Tr)) (y : List Nat × Int × Tr), m.past = ps ++ [y] → ∀ H', Keep x pa H H' → MAt C H' x pa ⟨m.p, y.1, y.2.1, y.2.2, ps⟩ → Q (.bl true) H')
def spMStack (C : Addr) : Sp := fun vs H Q _ => ∃ (x pa : Addr) (m : MS), vs = [.ref x] ∧ MAt C H x pa m ∧ giv (.str (tx m.l)) H Q
def spMSpent (C : Addr) : Sp := fun vs H Q _ => ∃ (x pa : Addr) (m : MS), vs = [.ref x] ∧ MAt C H x pa m ∧ giv (.int m.z) H Q
def spMTriple (C : Addr) : Sp := fun vs H Q _ => ∃ (x pa : Addr) (m : MS), vs = [.ref x] ∧ MAt C H x pa m ∧ ∀ v, TripAt H v m.t → Q v H
def spMDeeds (C : Addr) : Sp := fun vs H Q _ => ∃ (x pa : Addr) (m : MS), vs = [.ref x] ∧ MAt C H x pa m ∧ giv (.int (m.past.length : Int)) H Q
def spChSign : Sp := fun vs H Q _ => ∃ v p c, vs = [v, .str (tx [c])] ∧ PlanAt H v p ∧ p.Ok ∧ c ∈ signs p.many ∧ giv .non H Q
end SK
namespace SK
open PySem PySem.Spec PyProof.Rows L2
/-! ### a machine made, asked -/
def noField (k : Str) : Prop := ¬ k = "_plan" ∧ ¬ k = "_stack" ∧ ¬ k = "_spent" ∧ ¬ k = "_triple" ∧ ¬ k = "_past"
theorem nf_do : noField "do" := by unfold noField; decide +kernel
theorem nf_push : noField "push" := by unfold noField; decide +kernel
theorem nf_pop : noField "pop" := by unfold noField; decide +kernel
theorem nf_back : noField "back" := by unfold noField; decide +kernel
theorem nf_stack : noField "stack" := by unfold noField; decide +kernel
theorem nf_spent : noField "spent" := by unfold noField; decide +kernel
theorem nf_triple : noField "triple" := by unfold noField; decide +kernel
theorem nf_deeds : noField "deeds" := by unfold noField; decide +kernel
theorem MAt.at {C : Addr} {H : Hp} {x pa : Addr} {m : MS} (M : MAt C H x pa m) : ∃ dx fs, H x = some (.ins C dx fs) ∧ ∀ k : Str, noField k → fs.lookup k = none := by
  obtain ⟨⟨dx, pv, tv, h, _⟩, _⟩ := M
  exact ⟨dx, _, h, fun k n => mf_no n.1 n.2.1 n.2.2.1 n.2.2.2.1 n.2.2.2.2⟩
theorem made_same {C : Addr} {H Hm : Hp} {x dx : Addr} (hx : H x = none) (hd : H dx = none) (hne : dx ≠ x) (k : ∀ b o, upd (upd H dx (.own x)) x (.ins C dx []) b = some o → b ≠ x → Hm b = some o) : Same H Hm := fun b o e => by
  refine k b o ?_ (ne_of_none e hx)
  rw [upd_ne (ne_of_none e hx), upd_ne (ne_of_none e hd)]
  exact e
theorem made_same0 {C : Addr} {H : Hp} {x dx : Addr} (hx : H x = none) (hd : H dx = none) : Same H (upd (upd H dx (.own x)) x (.ins C dx [])) := fun b o e => by
  rw [upd_ne (ne_of_none e hx), upd_ne (ne_of_none e hd)]
  exact e
theorem made_none {C : Addr} {H : Hp} {x dx pa : Addr} (hx : H x = none) (hd : H dx = none) (h : upd (upd H dx (.own x)) x (.ins C dx []) pa = none) : H pa = none := by
  cases e : H pa with
  | none => rfl
  | some o =>
    have := made_same0 (C := C) hx hd _ _ e
    rw [h] at this
    cases this
/-- a list of another's grows -/
theorem MAt.updL {C : Addr} {H : Hp} {x pa D : Addr} {m : MS} {ys zs : List V} (M : MAt C H x pa m) (h : H D = some (.lst ys)) (hne : D ≠ pa) : MAt C (upd H D (.lst zs)) x pa m := by
  obtain ⟨⟨dx, pv, tv, h1, h2, h3⟩, xs, h4, h5⟩ := M
  have t := Tups.lst (ys := zs) h
  exact ⟨⟨dx, pv, tv, by rw [upd_ne (ne_of h1 h (by intro z; cases z))]; exact h1, h2.tups t, h3.tups t⟩, xs, by rw [upd_ne hne.symm]; exact h4, h5.tups t⟩
end SK
namespace SK
open PySem PySem.Spec PyProof.Rows L2
/-! ### steps in a walk -/
theorem s_a1 : ("a" : Str) = tx [97] := by decide +kernel
theorem s_b1 : ("b" : Str) = tx [98] := by decide +kernel
theorem s_c1 : ("c" : Str) = tx [99] := by decide +kernel
abbrev lowN (r n : Nat) : Nat := min r n
theorem Same.ofG {H H1 : Hp} {p : Addr} {o : HO} (hp : H p = none) (hG : upd H p o = H1) : Same H H1 ∧ H1 p = some o := by
  subst hG
  exact ⟨Same.new hp o, upd_same⟩
theorem Same.keepN {H H1 H2 : Hp} {x pa : Addr} (s : Same H H1) (k : Keep x pa H1 H2) (hx : H x = none) (hp : H pa = none) : Same H H2 := fun b o e => k b o (s b o e) (ne_of_none e hx) (ne_of_none e hp)
theorem TupF.mono {H H' : Hp} {a : Addr} {xs : List V} (h : TupF H a xs) (s : Same H H') : TupF H' a xs := by
  obtain ⟨ob, h1, h2⟩ := h
  exact ⟨ob, h1, s _ _ h2⟩
theorem PlanAt.mk {H : Hp} {a b : Addr} {p : Pl} (h : TupF H b (p.pr.map V.int)) (ha : H a = some (.tup [.int p.room, .int p.many, .ref b, .int p.pop])) : PlanAt H (.ref a) p := ⟨a, b, rfl, ha, h⟩
theorem wat_push {H : Hp} {a : Addr} (h : H a = some (.tup [.str "push", .str "a"])) : WAt H (.push 97) (.ref a) := ⟨a, rfl, h.trans (congrArg (fun z => some (HO.tup [.str "push", .str z])) s_a1)⟩
theorem wat_pushb {H : Hp} {a : Addr} (h : H a = some (.tup [.str "push", .str "b"])) : WAt H (.push 98) (.ref a) := ⟨a, rfl, h.trans (congrArg (fun z => some (HO.tup [.str "push", .str z])) s_b1)⟩
theorem wat_pop {H : Hp} {a : Addr} (h : H a = some (.tup [.str "pop"])) : WAt H .pop (.ref a) := ⟨a, rfl, h⟩
theorem wat_times {H : Hp} {a : Addr} {n : Nat} {w : W} {u : V} (h : H a = some (.tup [.str "times", .int (n : Int), u])) (hu : WAt H w u) : WAt H (.times n w) (.ref a) := ⟨a, u, rfl, h, hu⟩
theorem wat_row3 {H : Hp} {a b : Addr} {w1 w2 w3 : W} {u1 u2 u3 : V} (h : H a = some (.tup [.str "row", .ref b])) (hb : H b = some (.tup [u1, u2, u3])) (h1 : WAt H w1 u1) (h2 : WAt H w2 u2) (h3 : WAt H w3 u3) : WAt H (.row (.cons w1 (.cons w2 (.cons w3 .nil)))) (.ref a) := ⟨a, b, _, rfl, h, hb, u1, _, rfl, h1, u2, _, rfl, h2, u3, _, rfl, h3, rfl⟩
theorem wat_row2 {H : Hp} {a b : Addr} {w1 w2 : W} {u1 u2 : V} (h : H a = some (.tup [.str "row", .ref b])) (hb : H b = some (.tup [u1, u2])) (h1 : WAt H w1 u1) (h2 : WAt H w2 u2) : WAt H (.row (.cons w1 (.cons w2 .nil))) (.ref a) := ⟨a, b, _, rfl, h, hb, u1, _, rfl, h1, u2, _, rfl, h2, rfl⟩
theorem trip_mk {H : Hp} {a : Addr} {g k : Nat} {l : List Nat} {x y : Int} {z : Str} (h : H a = some (.tup [.int x, .int y, .str z])) (hx : x = (g : Int)) (hy : y = (k : Int)) (hz : z = tx l) : TripAt H (.ref a) ⟨g, k, l⟩ := by
  subst hx hy hz
  exact ⟨a, rfl, h⟩
end SK
namespace SK
open PySem PySem.Spec PyProof.Rows L2
/-! ### list.count, flat items -/
theorem countP_vals {y : V} : ∀ {ys : List V} {us : List Value}, Vals ys us → ys.all flatV = true → us.countP (L2.eqU y) = ys.countP fun z => L2.eqV z y
  | _, _, .nil, _ => rfl
  | z :: ys, u :: us, .cons r t, f => by
    rw [List.all_cons, Bool.and_eq_true] at f
    rw [List.countP_cons, List.countP_cons, countP_vals t f.2, L2.eqU_of r f.1]
section
variable {X : Cx}
def rCount (K : PySem.W.Frag) : V → List V → Hp → VK → Prop := fun x xs H Q => ∃ (a : Addr) (ys : List V) (y : V), x = V.ref a ∧ xs = [y] ∧ SqL K H a ys ∧ flatV y = true ∧ ys.all flatV = true ∧ Q (.int ((ys.countP fun z => L2.eqV z y : Nat) : Int)) H
theorem mt_count : MtR X "list.count" (rCount X.K) := by
  intro pins s σ H x xs v us Q I rx rxs h
  obtain ⟨a, ys, y, rfl, rfl, hs, fy, fys, q⟩ := h
  cases rx
  cases rxs with
  | cons ry rt =>
    rename_i uy ut
    cases rt
    obtain ⟨its, rv, ⟨⟨cls, dd, data, sl⟩, n, ho, hc, hdn, hd⟩, hlen⟩ := I.list hs
    simp only at hc hd
    subst hc hd
    refine call_meets PySem.F.slot_list_count ⟨_, ho, rfl⟩ PySem.F.entry_list_count (PySem.F.args_list_count_2 _ _) (SeqAt.list_countAt a its.toArray n dd sl uy (L2.eqU y)) ⟨ho, fun u' hu' => L2.mem_eqAt ry fy rv fys u' (by simpa using hu'), ?_⟩
    have e : its.toArray.toList.countP (L2.eqU y) = ys.countP fun z => L2.eqV z y := countP_vals rv fys
    refine ⟨.int ((ys.countP fun z => L2.eqV z y : Nat) : Int), H, I.tok _, ⟨s.toks, ?_⟩, q⟩
    show Value.int ((its.toArray.toList.countP (L2.eqU y) : Nat) : Int) s.toks = Value.int ((ys.countP fun z => L2.eqV z y : Nat) : Int) s.toks
    rw [e]
end
/-! ### what is never reached -/
def tFalse : TS := fun _ _ _ => False
def eFalse : TE := fun _ _ _ => False
theorem psF {X : Cx} {b : List Stmt} : PSs X b tFalse := ⟨fun _ _ _ _ _ _ h => h.elim⟩
theorem ps1F {X : Cx} {b : Stmt} : PS X b tFalse := ⟨fun _ _ _ _ _ _ h => h.elim⟩
theorem peF {X : Cx} {e : Expr} : PE X e eFalse := ⟨fun _ _ _ _ _ _ h => h.elim⟩
/-! ### defs that raise -/
structure CalX (P : Program) (w : World) (K : PySem.W.Frag) (mg : Str → Option Value) (base : Heap) (k : Nat) (x : Str) (sp : Sp) : Prop where
  ex : ∃ (f : Addr) (fd : FuncData) (ps : List Str), FnOk P w K mg base (L2.CX P w) k f fd ps sp ∧ mg x = some (.ref f) ∧ PySem.W.keepIn K (.ref f) = true ∧ Binds K fd ps []
structure MetX (P : Program) (w : World) (K : PySem.W.Frag) (mg : Str → Option Value) (base : Heap) (k : Nat) (C : Addr) (m : Str) (sp : Sp) : Prop where
  ex : ∃ (f : Addr) (fd : FuncData) (ps : List Str), Cls K C ∧ Meth K C m f ∧ FnOk P w K mg base (L2.CX P w) k f fd ps sp ∧ Binds K fd ps []
section
variable {P : Program} {w : World} {K : PySem.W.Frag} {mg : Str → Option Value} {base : Heap} {C : Addr}
theorem Dn.calX {x : Str} {st : Stmt} {N ps : List Str} {k : Nat} {sp : Sp} (D : Dn K mg x st ps) (S : FnScope N ps (defScope st)) (len : ∀ vs H Q E, sp vs H Q E → vs.length = ps.length)
    (hbody : ∀ (f : Addr) (cdv : Value) (A : Around) (outer : List Env) (s : Shared) (H : Hp) (vs : List V) (Q : VK) (E : XK), Room k (A.deeper (envOfC x (defScope st) s.heap.objs.size f cdv)) → sp vs H Q E →
      ∃ t, PSs (cxOf (L2.CX P w) P w K mg base N x (defScope st) f cdv A outer s H E) (defBody st) t ∧ t { nx := fun _ H' => Q .non H', rt := Q } (start N vs) H) : CalX P w K mg base (k + 1) x sp := by
  obtain ⟨f, fd, F, hm, b⟩ := D.ex
  exact ⟨f, fd, ps, F.okX S len (fun cdv A outer s H vs Q E => hbody f cdv A outer s H vs Q E), hm, F.kp, b⟩
theorem Dm.metX {m q : Str} {st : Stmt} {N ps : List Str} {k : Nat} {sp : Sp} (D : Dm K C m q st ps) (c : Cls K C) (S : FnScope N ps (defScope st)) (len : ∀ vs H Q E, sp vs H Q E → vs.length = ps.length)
    (hbody : ∀ (f : Addr) (cdv : Value) (A : Around) (outer : List Env) (s : Shared) (H : Hp) (vs : List V) (Q : VK) (E : XK), Room k (A.deeper (envOfC q (defScope st) s.heap.objs.size f cdv)) → sp vs H Q E →
      ∃ t, PSs (cxOf (L2.CX P w) P w K mg base N q (defScope st) f cdv A outer s H E) (defBody st) t ∧ t { nx := fun _ H' => Q .non H', rt := Q } (start N vs) H) : MetX P w K mg base (k + 1) C m sp := by
  obtain ⟨f, fd, F, hm, b⟩ := D.ex
  exact ⟨f, fd, ps, c, hm, F.okX S len (fun cdv A outer s H vs Q E => hbody f cdv A outer s H vs Q E), b⟩
end
section
variable {X : Cx} {C : Addr} {k j : Nat} {sp : Sp} {E : XK} {x m : Str} {p pos apos : Pos} {e o : Expr} {es : List Expr} {ta : TE} {t : TA}
theorem pe_cX (c : CalX X.prog X.w X.K X.mg X.base k x sp) (hr : Room j X.A) (hk : k ≤ j) (hg : Gl X x) (hx : Passes (L2.CX X.prog X.w) X E) (ha : PA X (e :: es) t)
    (hdb : (x == ("__debug__" : Str)) = false := by decide) (he : starEach (e :: es) X.env = (false, eval e X.env) :: starEach es X.env := by rfl) (hpl : (backTo pos (starEach es X.env)).any (·.1) = false := by rfl) :
    PE X (.Call (.Name x p) (e :: es) [] pos) (tCall sp [] E t) := by
  obtain ⟨f, fd, ps, F, hm, kp, b⟩ := c.ex
  exact pe_call F (hr.mono hk) hg hm kp b .nil hx ha hdb he hpl
theorem pe_mtX {pl : Sem Bool} (c : MetX X.prog X.w X.K X.mg X.base k C m sp) (hr : Room j X.A) (hk : k ≤ j) (he : PE X o ta) (hx : Passes (L2.CX X.prog X.w) X E) (ha : PA X (e :: es) t)
    (hst : starEach (e :: es) X.env = (false, eval e X.env) :: starEach es X.env := by rfl) (hpl : (backTo pos (starEach es X.env)).any (·.1) = false := by rfl)
    (ht : eval (.Call (.Attribute o m apos) (e :: es) [] pos) X.env = (do
      let ov ← eval o X.env
      standAt apos.atName
      let (f, first) ← holding [ov] (getMethod ov m pl)
      callWith pos f first (backTo pos (starEach (e :: es) X.env)) (backToKw pos (keywordEach [] X.env))) := by rfl) :
    PE X (.Call (.Attribute o m apos) (e :: es) [] pos) (tMeth C m sp [] E ta t) := by
  obtain ⟨f, fd, ps, c1, hm, F, b⟩ := c.ex
  exact pe_meth he c1 hm F (hr.mono hk) b .nil hx ha hst hpl ht
end
/-- what a def's own context lets out -/
theorem outX {P : Program} {w : World} {K : PySem.W.Frag} {mg : Str → Option Value} {base : Heap} {N : List Str} {q : Str} {sc : Scope} {f : Addr} {cd : Value} {A : Around} {outer : List Env} {s : Shared} {H : Hp} {E : XK} :
    Takes (cxOf (L2.CX P w) P w K mg base N q sc f cd A outer s H E) (fun cls d _ H => E cls d H) := takes_of rfl rfl rfl rfl
theorem passX {P : Program} {w : World} {K : PySem.W.Frag} {mg : Str → Option Value} {base : Heap} {N : List Str} {q : Str} {sc : Scope} {f : Addr} {cd : Value} {A : Around} {outer : List Env} {s : Shared} {H : Hp} {E : XK} :
    Passes (L2.CX P w) (cxOf (L2.CX P w) P w K mg base N q sc f cd A outer s H E) E := passes_call outX (fun _ _ _ _ h => h)
/-- .. a lambda's -/
theorem outL {X : Cx} {A : Around} {outer : List Env} {s : Shared} {H : Hp} {E : XK} {sc : Scope} {f c' : Addr} : Takes (LamX.lamCx X A outer s H E sc f c') (fun cls d _ H => E cls d H) := takes_of rfl rfl rfl rfl
theorem passL {X : Cx} {A : Around} {outer : List Env} {s : Shared} {H : Hp} {E : XK} {sc : Scope} {f c' : Addr} : Passes (L2.CX X.prog X.w) (LamX.lamCx X A outer s H E sc f c') E := passes_call outL (fun _ _ _ _ h => h)
section
variable {X : Cx} {C : Addr} {k j : Nat} {sp : Sp} {x m : Str} {p pos apos : Pos} {e o : Expr} {es : List Expr} {ta : TE} {t : TA} {A : Around} {outer : List Env} {s : Shared} {H : Hp} {E : XK} {sc : Scope} {lf c' : Addr}
/-- such a call in a lambda -/
theorem pe_cL (c : CalX X.prog X.w X.K X.mg X.base k x sp) (hr : Room j (A.deeper (LamX.lamEnv X sc s.heap.objs.size lf c'))) (hk : k ≤ j) (hg : Gl (LamX.lamCx X A outer s H E sc lf c') x) (ha : PA (LamX.lamCx X A outer s H E sc lf c') (e :: es) t)
    (hdb : (x == ("__debug__" : Str)) = false := by decide) (he : starEach (e :: es) (LamX.lamCx X A outer s H E sc lf c').env = (false, eval e (LamX.lamCx X A outer s H E sc lf c').env) :: starEach es (LamX.lamCx X A outer s H E sc lf c').env := by rfl) (hpl : (backTo pos (starEach es (LamX.lamCx X A outer s H E sc lf c').env)).any (·.1) = false := by rfl) :
    PE (LamX.lamCx X A outer s H E sc lf c') (.Call (.Name x p) (e :: es) [] pos) (tCall sp [] E t) := pe_cX (X := LamX.lamCx X A outer s H E sc lf c') c hr hk hg (passL (X := X) (A := A) (outer := outer) (s := s) (H := H) (E := E) (sc := sc) (f := lf) (c' := c')) ha hdb he hpl
theorem pe_mtL {pl : Sem Bool} (c : MetX X.prog X.w X.K X.mg X.base k C m sp) (hr : Room j (A.deeper (LamX.lamEnv X sc s.heap.objs.size lf c'))) (hk : k ≤ j) (he : PE (LamX.lamCx X A outer s H E sc lf c') o ta) (ha : PA (LamX.lamCx X A outer s H E sc lf c') (e :: es) t)
    (hst : starEach (e :: es) (LamX.lamCx X A outer s H E sc lf c').env = (false, eval e (LamX.lamCx X A outer s H E sc lf c').env) :: starEach es (LamX.lamCx X A outer s H E sc lf c').env := by rfl) (hpl : (backTo pos (starEach es (LamX.lamCx X A outer s H E sc lf c').env)).any (·.1) = false := by rfl)
    (ht : eval (.Call (.Attribute o m apos) (e :: es) [] pos) (LamX.lamCx X A outer s H E sc lf c').env = (do
      let ov ← eval o (LamX.lamCx X A outer s H E sc lf c').env
      standAt apos.atName
      let (f, first) ← holding [ov] (getMethod ov m pl)
      callWith pos f first (backTo pos (starEach (e :: es) (LamX.lamCx X A outer s H E sc lf c').env)) (backToKw pos (keywordEach [] (LamX.lamCx X A outer s H E sc lf c').env))) := by rfl) :
    PE (LamX.lamCx X A outer s H E sc lf c') (.Call (.Attribute o m apos) (e :: es) [] pos) (tMeth C m sp [] E ta t) := pe_mtX (X := LamX.lamCx X A outer s H E sc lf c') c hr hk he (passL (X := X) (A := A) (outer := outer) (s := s) (H := H) (E := E) (sc := sc) (f := lf) (c' := c')) ha hst hpl ht
end
/-! ### an error of an own class that has no __init__ -/
structure ErrC (K : PySem.W.Frag) (mg : Str → Option Value) (x : Str) (D : Addr) : Prop where
  g : mg x = some (.ref D)
  ex : ∃ bmB B newId initId, ExcBaseFacts B newId initId bmB ∧ PySem.W.excIn K D bmB newId = true
  kp : PySem.W.keepIn K (.ref D) = true
  sub : PySem.W.subIn K (.ref D) (.type "BaseException") = some true
  ty : PySem.W.typeIn K (.ref D) = some (.type "type")
theorem ps_raiseN {X : Cx} {W : WX} {x m : Str} {D : Addr} {j : Nat} {p p2 pos rpos : Pos} (hc : X.calm = true) (tk : Takes X W) (e : ErrC X.K X.mg x D) (hg : Gl X x) (hdb : (x == ("__debug__" : Str)) = false := by decide) :
    PS X (.Raise (some (.Call (.Name x p) [.Constant (.str m) j p2] [] pos)) none rpos) (fun _ σ H => W (.ref D) none σ H) := by
  obtain ⟨bmB, B, newId, initId, F, q⟩ := e.ex
  exact ps_raise hc tk (pmk_own F q e.g e.kp (raises_own e.sub e.ty) hg hdb)
/-! ### which of the nine -/
structure Nine where
  c0 : Addr
  c1 : Addr
  c2 : Addr
  c3 : Addr
  c4 : Addr
  c5 : Addr
  c6 : Addr
  c7 : Addr
  c8 : Addr
structure NineG (mg : Str → Option Value) (n : Nine) (CS : Addr) : Prop where
  BadCount : ∃ u, mg "BadCount" = some u ∧ RelV (.ref n.c0) u
  BadPair : ∃ u, mg "BadPair" = some u ∧ RelV (.ref n.c1) u
  BadPlan : ∃ u, mg "BadPlan" = some u ∧ RelV (.ref n.c2) u
  BadSign : ∃ u, mg "BadSign" = some u ∧ RelV (.ref n.c3) u
  BadStack : ∃ u, mg "BadStack" = some u ∧ RelV (.ref n.c4) u
  BadSteps : ∃ u, mg "BadSteps" = some u ∧ RelV (.ref n.c5) u
  BadText : ∃ u, mg "BadText" = some u ∧ RelV (.ref n.c6) u
  BadTriple : ∃ u, mg "BadTriple" = some u ∧ RelV (.ref n.c7) u
  BadWork : ∃ u, mg "BadWork" = some u ∧ RelV (.ref n.c8) u
  sink : mg "SinkError" = some (.ref CS)
structure TOne (K : PySem.W.Frag) (n : Nine) (CS D : Addr) (i : Nat) : Prop where
  ex : ExcC K D
  sink : PySem.W.exmOne K (.ref D) (.ref CS) = some true
  k0 : PySem.W.kitOne K (.ref D) (.ref n.c0) = some (decide (i = 0))
  k1 : PySem.W.kitOne K (.ref D) (.ref n.c1) = some (decide (i = 1))
  k2 : PySem.W.kitOne K (.ref D) (.ref n.c2) = some (decide (i = 2))
  k3 : PySem.W.kitOne K (.ref D) (.ref n.c3) = some (decide (i = 3))
  k4 : PySem.W.kitOne K (.ref D) (.ref n.c4) = some (decide (i = 4))
  k5 : PySem.W.kitOne K (.ref D) (.ref n.c5) = some (decide (i = 5))
  k6 : PySem.W.kitOne K (.ref D) (.ref n.c6) = some (decide (i = 6))
  k7 : PySem.W.kitOne K (.ref D) (.ref n.c7) = some (decide (i = 7))
  k8 : PySem.W.kitOne K (.ref D) (.ref n.c8) = some (decide (i = 8))
  ve : PySem.W.kitOne K (.ref D) (.type "ValueError") = some true
def nineB (i : Nat) : List Bool := [decide (i = 0), decide (i = 1), decide (i = 2), decide (i = 3), decide (i = 4), decide (i = 5), decide (i = 6), decide (i = 7), decide (i = 8)]
def nineN : List Str := ["BadCount", "BadPair", "BadPlan", "BadSign", "BadStack", "BadSteps", "BadText", "BadTriple", "BadWork"]
theorem nine_count : ∀ i < 9, ((nineB i).map V.bl).countP (fun z => L2.eqV z (.bl true)) = 1 := by decide +kernel
theorem nine_at : ∀ i < 9, (nineB i)[i]? = some true := by decide +kernel
theorem nine_no : ∀ i < 9, ∀ m < i, (nineB i)[m]? = some false := by decide +kernel
/-- a plain error of the class D, its word w -/
def TT1 (D : Addr) (w : Str) : (XK → Hp → VK → Prop) → Hp → VK → Prop := fun tl H Q =>
  tl (fun cls d H' => cls = .ref D ∧ d = none ∧ ∀ (H2 : Hp) (p : Addr), Same H' H2 → H2 p = some (.tup [.str w, .int 0]) → Q (.ref p) H2) H Q
theorem b_VE : bootBuiltins "ValueError" = some (.type "ValueError") := by decide +kernel
def suiteOf : List Stmt → List Stmt
  | .Try _ (.ExceptHandler _ _ b _ :: _) _ _ _ :: _ => b
  | _ => []
end SK
namespace SK
open PySem PySem.Spec PyProof.Rows L2
/-! ### a machine and all that was done to it -/
abbrev fz' (l : List Nat) : V := V.str (tx l)
structure Deeds (pl : Pl) (first : List Nat) (past : List (List Nat)) (m : MS) : Prop where
  p : m.p = pl
  ok : m.Ok
  f1 : first.length ≤ pl.room
  l : m.l = gone pl.room first past.flatten
  z : m.z = sprc (cst pl) past.flatten
  t : m.t = ttold pl.room past.flatten
  pa : m.past = (List.range past.length).map fun i => (gone pl.room first (past.take i).flatten, sprc (cst pl) (past.take i).flatten, ttold pl.room (past.take i).flatten)
  sg : ∀ s ∈ past, ∀ c ∈ s, c = 45 ∨ c ∈ signs pl.many
  n : past.length ≤ 40
  ln : ∀ s ∈ past, s.length ≤ 256
theorem Deeds.len {pl : Pl} {first : List Nat} {past : List (List Nat)} {m : MS} (d : Deeds pl first past m) : m.past.length = past.length := by
  rw [d.pa, List.length_map, List.length_range]
theorem Deeds.flat {pl : Pl} {first : List Nat} {past : List (List Nat)} {m : MS} (d : Deeds pl first past m) : ∀ c ∈ past.flatten, c = 45 ∨ c ∈ signs pl.many := fun c hc => by
  obtain ⟨s, hs, h⟩ := List.mem_flatten.mp hc
  exact d.sg s hs c h
theorem flat_len : ∀ {past : List (List Nat)}, (∀ s ∈ past, s.length ≤ 256) → past.flatten.length ≤ 256 * past.length
  | [], _ => Nat.zero_le _
  | s :: r, h => by
    rw [List.flatten_cons, List.length_append, List.length_cons]
    have h1 := h s (List.mem_cons_self ..)
    have h2 := flat_len (past := r) fun x hx => h x (List.mem_cons_of_mem _ hx)
    omega
theorem Deeds.flen {pl : Pl} {first : List Nat} {past : List (List Nat)} {m : MS} (d : Deeds pl first past m) : past.flatten.length ≤ 10240 := by
  have := flat_len d.ln
  have := d.n
  omega
theorem Deeds.add {pl : Pl} {first s : List Nat} {past : List (List Nat)} {m : MS} {t : Tr} {z : Int} (d : Deeds pl first past m) (ht : t = ttold pl.room s) (hz : z = sprc (cst pl) s) (hs : ∀ c ∈ s, c = 45 ∨ c ∈ signs pl.many) (hl : s.length ≤ 256) (hn : past.length < 40) : Deeds pl first (past ++ [s]) (m.deed t z) := by
  have r1 : 1 ≤ pl.room := by rw [← d.p]; exact d.ok.p.r1
  have tok : TrOk m.p.room m.p.many t := by
    rw [ht, d.p]
    exact ttold_ok' r1 hs
  have ef : (past ++ [s]).flatten = past.flatten ++ s := by simp
  refine ⟨d.p, d.ok.deed tok z, d.f1, ?_, ?_, ?_, ?_, fun x hx => ?_, ?_, fun x hx => ?_⟩
  · show tby t m.l = _
    rw [d.l, ht, tby_told r1 s (gone_len _ _ d.f1), ef, gone_app]
  · show m.z + z = _
    rw [d.z, hz, ef, sprc_app]
  · show tjoin m.t t = _
    rw [d.t, ht, ef, ttold_app (many := pl.many) r1 d.flat hs]
  · show m.past ++ [(m.l, m.z, m.t)] = _
    rw [List.length_append, List.length_cons, List.length_nil, List.range_succ, List.map_append, d.pa, d.l, d.z, d.t]
    congr 1
    · refine List.map_congr_left fun i hi => ?_
      have hi' : i ≤ past.length := Nat.le_of_lt (List.mem_range.mp hi)
      rw [List.take_append_of_le_length hi']
    · rw [List.map_cons, List.map_nil, List.take_append_of_le_length (Nat.le_refl _), List.take_length]
  · rcases List.mem_append.mp hx with h | h
    · exact d.sg x h
    · have e : x = s := by simpa using h
      subst e
      exact hs
  · rw [List.length_append]
    show past.length + 1 ≤ 40
    omega
  · rcases List.mem_append.mp hx with h | h
    · exact d.ln x h
    · have e : x = s := by simpa using h
      subst e
      exact hl
theorem Deeds.back {pl : Pl} {first s : List Nat} {past : List (List Nat)} {m : MS} (d : Deeds pl first (past ++ [s]) m) {ps : List (List Nat × Int × Tr)} {y : List Nat × Int × Tr} (h : m.past = ps ++ [y]) : Deeds pl first past ⟨m.p, y.1, y.2.1, y.2.2, ps⟩ := by
  have e := d.pa
  rw [h, List.length_append, List.length_cons, List.length_nil, List.range_succ, List.map_append, List.map_cons, List.map_nil] at e
  obtain ⟨e1, e2⟩ := List.append_inj' e rfl
  replace e2 := List.head_eq_of_cons_eq e2
  rw [List.take_append_of_le_length (Nat.le_refl _), List.take_length] at e2
  have e1' : ps = (List.range past.length).map fun i => (gone pl.room first (past.take i).flatten, sprc (cst pl) (past.take i).flatten, ttold pl.room (past.take i).flatten) := by
    rw [e1]
    refine List.map_congr_left fun i hi => ?_
    rw [List.take_append_of_le_length (Nat.le_of_lt (List.mem_range.mp hi))]
  have hy : y ∈ m.past := by rw [h]; exact List.mem_append_right _ (List.mem_singleton.mpr rfl)
  have hps : ∀ x ∈ ps, x ∈ m.past := fun x hx => by rw [h]; exact List.mem_append_left _ hx
  obtain ⟨o1, o2, o3⟩ := d.ok.past y hy
  refine ⟨d.p, ⟨d.ok.p, o1, o2, o3, fun x hx => d.ok.past x (hps x hx)⟩, d.f1, by rw [e2], by rw [e2], by rw [e2], e1', fun x hx => d.sg x (List.mem_append_left _ hx), ?_, fun x hx => d.ln x (List.mem_append_left _ hx)⟩
  have := d.n
  rw [List.length_append] at this
  omega
theorem Deeds.zero {pl : Pl} {first : List Nat} (ok : pl.Ok) (h1 : first.length ≤ pl.room) (h2 : ∀ c ∈ first, c ∈ signs pl.many) : Deeds pl first [] ⟨pl, first, 0, tunt pl.room, []⟩ :=
  ⟨rfl, ⟨ok, h1, h2, tunt_ok, fun x hx => by simp at hx⟩, h1, rfl, rfl, rfl, rfl, fun s hs => by simp at hs, Nat.zero_le _, fun s hs => by simp at hs⟩
theorem W.Tm_le {a b : Nat} (h : a ≤ b) : ∀ w : W, w.Tm a → w.Tm b := by
  intro w
  refine W.rec (motive_1 := fun w => w.Tm a → w.Tm b) (motive_2 := fun ws => ws.Tm a → ws.Tm b) ?_ ?_ ?_ ?_ ?_ ?_ w
  · intro c _; trivial
  · intro _; trivial
  · intro ws ih x; exact ⟨x.1, ih x.2⟩
  · intro n w ih x; exact ⟨Nat.le_trans x.1 h, ih x.2⟩
  · intro _; trivial
  · intro w r i1 i2 x; exact ⟨i1 x.1, i2 x.2⟩
end SK
namespace SK
open PySem PySem.Spec PyProof.Rows L2
/-! ### the machine's law as it stands in the heap -/

def md0 (v : V) (first : List Nat) (ql : Addr) : List (Key × V) := [(.inr "plan", v), (.inr "first", .str (tx first)), (.inr "past", .ref ql)]
structure D10 (C : Addr) (H : Hp) (p q md ql x pm : Addr) (ns : List Int) (z : Int) (v : V) (pl : Pl) (first : List Nat) (past : List (List Nat)) (m : MS) : Prop where
  B : BoxAt H p q ns z
  P : PlanAt H v pl
  D : H md = some (.dK (md0 v first ql))
  L : H ql = some (.lst (past.map fz'))
  M : MAt C H x pm m
  n1 : ql ≠ p
  n2 : ql ≠ q
  n3 : ql ≠ pm
  n4 : pm ≠ p
  n5 : pm ≠ q
section
variable {C : Addr} {H H' : Hp} {p q md ql x pm : Addr} {ns ns' : List Int} {z z' : Int} {v : V} {pl : Pl} {first : List Nat} {past past' : List (List Nat)} {m m' : MS}
theorem MAt.tupsL (M : MAt C H x pm m) (t : Tups H H') (hx : ∀ o, H x = some o → H' x = some o) (hp : ∀ o, H pm = some o → H' pm = some o) : MAt C H' x pm m := by
  obtain ⟨⟨dx, pv, tv, h1, h2, h3⟩, xs, h4, h5⟩ := M
  exact ⟨⟨dx, pv, tv, hx _ h1, h2.tups t, h3.tups t⟩, xs, hp _ h4, h5.tups t⟩
theorem D10.same (d : D10 C H p q md ql x pm ns z v pl first past m) (s : Same H H') : D10 C H' p q md ql x pm ns z v pl first past m :=
  ⟨d.B.mono s, d.P.mono s, s _ _ d.D, s _ _ d.L, d.M.mono s, d.n1, d.n2, d.n3, d.n4, d.n5⟩
theorem D10.xp (d : D10 C H p q md ql x pm ns z v pl first past m) : x ≠ p ∧ x ≠ q ∧ x ≠ ql ∧ x ≠ pm ∧ md ≠ p ∧ md ≠ q ∧ md ≠ ql ∧ md ≠ pm ∧ md ≠ x := by
  obtain ⟨dx, fs, ho, _⟩ := d.M.at
  obtain ⟨xs, hl, _⟩ := d.M.pl
  exact ⟨ne_of ho d.B.b (by intro z; cases z), ne_of ho d.B.l (by intro z; cases z), ne_of ho d.L (by intro z; cases z), d.M.ne, ne_of d.D d.B.b (by intro z; cases z), ne_of d.D d.B.l (by intro z; cases z), ne_of d.D d.L (by intro z; cases z), ne_of d.D hl (by intro z; cases z), ne_of d.D ho (by intro z; cases z)⟩
theorem D10.box (d : D10 C H p q md ql x pm ns z v pl first past m) (B' : BoxAt H' p q ns' z') (k : Keep p q H H') : D10 C H' p q md ql x pm ns' z' v pl first past m := by
  obtain ⟨e1, e2, e3, e4, e5, e6, e7, e8, e9⟩ := d.xp
  have t := k.tups d.B
  exact ⟨B', d.P.tups t, k _ _ d.D e5 e6, k _ _ d.L d.n1 d.n2, d.M.tupsL t (fun o e => k _ _ e e1 e2) (fun o e => k _ _ e d.n4 d.n5), d.n1, d.n2, d.n3, d.n4, d.n5⟩
theorem D10.mach (d : D10 C H p q md ql x pm ns z v pl first past m) (M' : MAt C H' x pm m') (k : Keep x pm H H') : D10 C H' p q md ql x pm ns z v pl first past m' := by
  obtain ⟨e1, e2, e3, e4, e5, e6, e7, e8, e9⟩ := d.xp
  have t := k.tupsM d.M
  exact ⟨⟨k _ _ d.B.b e1.symm d.n4.symm, k _ _ d.B.l e2.symm d.n5.symm, d.B.ne⟩, d.P.tups t, k _ _ d.D e9 e8, k _ _ d.L e3.symm d.n3, M', d.n1, d.n2, d.n3, d.n4, d.n5⟩
theorem D10.list (d : D10 C H p q md ql x pm ns z v pl first past m) : D10 C (upd H ql (.lst (past'.map fz'))) p q md ql x pm ns z v pl first past' m := by
  obtain ⟨e1, e2, e3, e4, e5, e6, e7, e8, e9⟩ := d.xp
  have t := Tups.lst (ys := past'.map fz') d.L
  exact ⟨⟨by rw [upd_ne d.n1.symm]; exact d.B.b, by rw [upd_ne d.n2.symm]; exact d.B.l, d.B.ne⟩, d.P.tups t, by rw [upd_ne e7]; exact d.D, upd_same, d.M.updL d.L d.n3, d.n1, d.n2, d.n3, d.n4, d.n5⟩
theorem D10.ext (d : D10 C H p q md ql x pm ns z v pl first past m) (e : LamX.ExtN H H') : D10 C H' p q md ql x pm ns z v pl first past m := by
  have t : Tups H H' := ⟨fun b xs h => e b _ h (by intro ps z; cases z), fun b o xs h => e b _ h (by intro ps z; cases z)⟩
  obtain ⟨dx, fs, ho, _⟩ := d.M.at
  obtain ⟨xs, hl, _⟩ := d.M.pl
  exact ⟨⟨e _ _ d.B.b (by intro ps z; cases z), e _ _ d.B.l (by intro ps z; cases z), d.B.ne⟩, d.P.tups t, e _ _ d.D (by intro ps z; cases z), e _ _ d.L (by intro ps z; cases z), d.M.tupsL t (fun o h => by
    have : o = _ := Option.some.inj (h.symm.trans ho)
    subst this
    exact e _ _ h (by intro ps z; cases z)) (fun o h => by
    have : o = _ := Option.some.inj (h.symm.trans hl)
    subst this
    exact e _ _ h (by intro ps z; cases z)), d.n1, d.n2, d.n3, d.n4, d.n5⟩
end
section
variable {C : Addr} {H H' : Hp} {p q md ql x pm : Addr} {ns ns' : List Int} {z z' : Int} {v : V} {pl : Pl} {first : List Nat} {past past' : List (List Nat)} {m m' : MS}
theorem D10.gPlan (d : D10 C H p q md ql x pm ns z v pl first past m) : DGet H md (.str "plan") (some v) := .inl ⟨_, .inr "plan", .inl d.D, rfl, rfl⟩
theorem D10.gFirst (d : D10 C H p q md ql x pm ns z v pl first past m) : DGet H md (.str "first") (some (.str (tx first))) := .inl ⟨_, .inr "first", .inl d.D, rfl, rfl⟩
theorem D10.gPast (d : D10 C H p q md ql x pm ns z v pl first past m) : DGet H md (.str "past") (some (.ref ql)) := .inl ⟨_, .inr "past", .inl d.D, rfl, rfl⟩
end
theorem join_past (past : List (List Nat)) : Txt.join ("" : Str) (past.map tx) = tx past.flatten := by
  rw [s_empty]
  exact join_tx past
theorem len_past : ∀ past : List (List Nat), ((past.map tx).map (·.length)).sum = past.flatten.length
  | [] => rfl
  | s :: r => by
    rw [List.map_cons, List.map_cons, List.sum_cons, len_past r, List.flatten_cons, List.length_append, tx_len]
theorem Deeds.join {pl : Pl} {first : List Nat} {past : List (List Nat)} {m : MS} (d : Deeds pl first past m) : ((past.map tx).map (·.length)).sum + (past.map tx).length * ("" : Str).length ≤ 16777216 := by
  rw [len_past, s_empty, List.length_map]
  have := d.flen
  show past.flatten.length + past.length * 0 ≤ _
  omega
theorem Deeds.lt {pl : Pl} {first : List Nat} {past : List (List Nat)} {m : MS} (d : Deeds pl first past m) : ∀ l ∈ past, ∀ c ∈ l, c < 1114112 := fun l hl c hc => by
  rcases d.sg l hl c hc with e | e
  · omega
  · exact signs_lt e
theorem sign_ix {M c : Nat} (hM : c ∈ signs M) : c - 97 < M ∧ ∃ r, Builtin.Str.occurrences ("abcd" : Str) (tx [c]) 0 ("abcd" : Str).length 1 = (c - 97) :: r := by
  have h4 : c = 97 ∨ c = 98 ∨ c = 99 ∨ c = 100 := by
    have := List.mem_of_mem_take (show c ∈ List.take M [97, 98, 99, 100] from hM)
    simpa using this
  have hj : c - 97 < M := by
    match M, hM with
    | 0, hM => simp [signs] at hM
    | 1, hM => simp [signs] at hM; omega
    | 2, hM => simp [signs] at hM; omega
    | 3, hM => simp [signs] at hM; omega
    | M + 4, _ => omega
  refine ⟨hj, ?_⟩
  rw [s_abcd]
  rcases h4 with rfl | rfl | rfl | rfl
  · exact ⟨[], by decide +kernel⟩
  · exact ⟨[], by decide +kernel⟩
  · exact ⟨[], by decide +kernel⟩
  · exact ⟨[], by decide +kernel⟩
theorem hu1 {k : Nat} {A : Around} (r : Room k A) : A.units + 1 < cLine := by have := r.un; omega
theorem hu0 {k : Nat} {A : Around} (r : Room k A) : A.units < cLine := by have := r.un; omega
open LamX in
theorem Tabs.keepM {T : List (Addr × Str)} {C : Addr} {H H' : Hp} {x pa : Addr} {m : MS} (t : Tabs T H) (M : MAt C H x pa m) (k : Keep x pa H H') : Tabs T H' := fun y hy => by
  obtain ⟨ps, h1, h2, h3⟩ := t y hy
  obtain ⟨dx, fs, ho, _⟩ := M.at
  obtain ⟨xs, hl, _⟩ := M.pl
  refine ⟨ps, ?_, h2, fun pos cv hc => ?_⟩
  · exact k _ _ h1 (ne_of h1 ho (by intro z; cases z)) (ne_of h1 hl (by intro z; cases z))
  · obtain ⟨c, e1, e2⟩ := h3 pos cv hc
    exact ⟨c, e1, k _ _ e2 (ne_of e2 ho (by intro z; unfold CodeO at z; cases z)) (ne_of e2 hl (by intro z; unfold CodeO at z; cases z))⟩
/-- no sign of the plan -/
def BadSg (many : Nat) (b : V) : Prop := flatV b = true ∧ L2.inV b ((signs many).map fun c => V.str (tx [c])) = false
theorem bad10a : ∀ many < 5, L2.inV V.non ((signs many).map fun c => V.str (tx [c])) = false := by decide +kernel
theorem bad10b : ∀ many < 5, L2.inV (V.str "") ((signs many).map fun c => V.str (tx [c])) = false := by decide +kernel
theorem bad10c : ∀ many < 5, L2.inV (V.str "ab") ((signs many).map fun c => V.str (tx [c])) = false := by decide +kernel
theorem bad10d : ∀ many < 5, L2.inV (V.str "e") ((signs many).map fun c => V.str (tx [c])) = false := by decide +kernel
theorem bad10e : ∀ many < 5, L2.inV (V.str "-") ((signs many).map fun c => V.str (tx [c])) = false := by decide +kernel
theorem bad10f : ∀ many < 5, L2.inV (V.int 0) ((signs many).map fun c => V.str (tx [c])) = false := by decide +kernel
theorem bad10g : ∀ many < 5, L2.inV (V.str "aa") ((signs many).map fun c => V.str (tx [c])) = false := by decide +kernel
theorem bad10 {many : Nat} (h : many ≤ 4) {r : Int} (r0 : 0 ≤ r) (r1 : r < 7) : ∃ b, atI [V.non, .str "", .str "ab", .str "e", .str "-", .int 0, .str "aa"] r = some b ∧ BadSg many b := by
  have h5 : many < 5 := by omega
  have hr : r = 0 ∨ r = 1 ∨ r = 2 ∨ r = 3 ∨ r = 4 ∨ r = 5 ∨ r = 6 := by omega
  rcases hr with rfl | rfl | rfl | rfl | rfl | rfl | rfl
  · exact ⟨_, rfl, rfl, bad10a _ h5⟩
  · exact ⟨_, rfl, rfl, bad10b _ h5⟩
  · exact ⟨_, rfl, rfl, bad10c _ h5⟩
  · exact ⟨_, rfl, rfl, bad10d _ h5⟩
  · exact ⟨_, rfl, rfl, bad10e _ h5⟩
  · exact ⟨_, rfl, rfl, bad10f _ h5⟩
  · exact ⟨_, rfl, rfl, bad10g _ h5⟩
theorem eq_si {K : PySem.W.Frag} {H : Hp} {Q : VK} {a b : Addr} {w : Str} {i : Int} (hw : PyData.strOk w = true) (ha : H a = some (.tup [.str w, .int i])) (hb : H b = some (.tup [.str w, .int i])) (q : Q (.bl true) H) : rEqD K (.ref a) (.ref b) H Q := by
  have cl : PyData.canLay0 (.tuple [.str w, .int i]) = true := by
    show (PyData.strOk w && (true && true)) = true
    rw [hw]
    rfl
  have sh : SeqAt.shaped (.tuple [.str w, .int i]) = true := by
    show (PyData.canLay0 (.tuple [.str w, .int i]) && decide (PyData.depth (.tuple [.str w, .int i]) ≤ 64)) = true
    rw [cl]
    rfl
  refine ⟨_, _, .tup (SqT.of ha) (.cons (.str _) (.cons (.int _) .nil)), .tup (SqT.of hb) (.cons (.str _) (.cons (.int _) .nil)), sh, sh, ?_⟩
  rw [SeqAt.eqv_refl _ cl]
  exact q
theorem fallV_ne {room : Nat} {L : List Nat} (h : ¬ L.length = room) : fallV room L = .non := by
  unfold fallV
  cases L with
  | nil => rfl
  | cons c r => exact if_neg h
theorem fallV_eq {room c : Nat} {r : List Nat} (h : (c :: r).length = room) : fallV room (c :: r) = .str (tx [c]) := if_pos h
open LamX in
theorem tabs_updK {T : List (Addr × Str)} {H : Hp} {a : Addr} {kvs : List (Key × V)} {o : HO} (t : Tabs T H) (h : H a = some (.dK kvs)) : Tabs T (upd H a o) := fun p hp => by
  obtain ⟨ps, h1, h2, h3⟩ := t p hp
  refine ⟨ps, ?_, h2, fun pos cv hc => ?_⟩
  · rw [upd_ne (ne_of h1 h (by intro z; cases z))]
    exact h1
  · obtain ⟨c, e1, e2⟩ := h3 pos cv hc
    exact ⟨c, e1, by rw [upd_ne (ne_of e2 h (by intro z; unfold CodeO at z; cases z))]; exact e2⟩
theorem Tups.dK {H : Hp} {a : Addr} {kvs : List (Key × V)} {o : HO} (h : H a = some (.dK kvs)) : Tups H (upd H a o) := ⟨fun b zs e => by
  rw [upd_ne (ne_of e h (by intro z; cases z))]
  exact e, fun b ob zs e => by
  rw [upd_ne (ne_of e h (by intro z; cases z))]
  exact e⟩
/-! ### promises -/
def spLPrice : Sp := fun vs H Q _ => ∃ (v : V) (p : Pl) (l : List Nat), vs = [v, .str (tx l)] ∧ PlanAt H v p ∧ p.Ok ∧ l.length ≤ 20000 ∧ (∀ c ∈ l, c = 45 ∨ c ∈ signs p.many) ∧ giv (.int (sprc (cst p) l)) H Q
open LamX in
def spLDeed (C : Addr) (T : List (Addr × Str)) : Sp := fun vs H Q _ => ∃ (p q md ql x pm : Addr) (ns : List Int) (z : Int) (v : V) (pl : Pl) (first : List Nat) (past : List (List Nat)) (m : MS),
  vs = [.ref p, .ref md, .ref x] ∧ D10 C H p q md ql x pm ns z v pl first past m ∧ Deeds pl first past m ∧ past.length ≤ 35 ∧ (∀ c ∈ first, c ∈ signs pl.many) ∧ Tabs T H ∧
  ∀ (ns' : List Int) (z' : Int) (past' : List (List Nat)) (m' : MS) (H' : Hp), D10 C H' p q md ql x pm ns' z' v pl first past' m' → Deeds pl first past' m' → past'.length ≤ past.length + 1 → Tabs T H' → Q (.bl true) H'
end SK
namespace SK
open PySem PySem.Spec PyProof.Rows L2
def top (i : Nat) : Stmt := PySem.Challenge.pw_sinkstack_k10_machines_step_by_step.main.body.getD i (.Pass ⟨0, 0, 0, 0⟩)
abbrev s_signs_of : Stmt := top 19
abbrev N_signs_of : List Str := ["plan"]
abbrev P_signs_of : List Str := ["plan"]
theorem sc_signs_of : FnScope N_signs_of P_signs_of (defScope s_signs_of) := ⟨rfl, rfl, rfl, by decide +kernel, rfl, by decide +kernel, by decide +kernel⟩
abbrev s_is_number : Stmt := top 20
abbrev N_is_number : List Str := ["value", "low", "high"]
abbrev P_is_number : List Str := ["value", "low", "high"]
theorem sc_is_number : FnScope N_is_number P_is_number (defScope s_is_number) := ⟨rfl, rfl, rfl, by decide +kernel, rfl, by decide +kernel, by decide +kernel⟩
abbrev s_is_text_of : Stmt := top 21
abbrev N_is_text_of : List Str := ["value", "signs", "sign"]
abbrev P_is_text_of : List Str := ["value", "signs"]
theorem sc_is_text_of : FnScope N_is_text_of P_is_text_of (defScope s_is_text_of) := ⟨rfl, rfl, rfl, by decide +kernel, rfl, by decide +kernel, by decide +kernel⟩
abbrev s_check_plan : Stmt := top 22
abbrev N_check_plan : List Str := ["plan", "room", "many", "prices", "pop_price"]
abbrev P_check_plan : List Str := ["plan"]
theorem sc_check_plan : FnScope N_check_plan P_check_plan (defScope s_check_plan) := ⟨rfl, rfl, rfl, by decide +kernel, rfl, by decide +kernel, by decide +kernel⟩
abbrev s_are_prices : Stmt := top 23
abbrev N_are_prices : List Str := ["prices", "many", "price"]
abbrev P_are_prices : List Str := ["prices", "many"]
theorem sc_are_prices : FnScope N_are_prices P_are_prices (defScope s_are_prices) := ⟨rfl, rfl, rfl, by decide +kernel, rfl, by decide +kernel, by decide +kernel⟩
abbrev s_check_stack : Stmt := top 24
abbrev N_check_stack : List Str := ["plan", "stack"]
abbrev P_check_stack : List Str := ["plan", "stack"]
theorem sc_check_stack : FnScope N_check_stack P_check_stack (defScope s_check_stack) := ⟨rfl, rfl, rfl, by decide +kernel, rfl, by decide +kernel, by decide +kernel⟩
abbrev s_is_stack : Stmt := top 25
abbrev N_is_stack : List Str := ["plan", "stack"]
abbrev P_is_stack : List Str := ["plan", "stack"]
theorem sc_is_stack : FnScope N_is_stack P_is_stack (defScope s_is_stack) := ⟨rfl, rfl, rfl, by decide +kernel, rfl, by decide +kernel, by decide +kernel⟩
abbrev s_check_sign : Stmt := top 26
abbrev N_check_sign : List Str := ["plan", "sign"]
abbrev P_check_sign : List Str := ["plan", "sign"]
theorem sc_check_sign : FnScope N_check_sign P_check_sign (defScope s_check_sign) := ⟨rfl, rfl, rfl, by decide +kernel, rfl, by decide +kernel, by decide +kernel⟩
abbrev s_check_work : Stmt := top 27
abbrev N_check_work : List Str := ["plan", "work", "signs", "waiting", "number", "found", "deep", "inner"]
abbrev P_check_work : List Str := ["plan", "work"]
theorem sc_check_work : FnScope N_check_work P_check_work (defScope s_check_work) := ⟨rfl, rfl, rfl, by decide +kernel, rfl, by decide +kernel, by decide +kernel⟩
abbrev s_is_work_alone : Stmt := top 28
abbrev N_is_work_alone : List Str := ["work", "signs"]
abbrev P_is_work_alone : List Str := ["work", "signs"]
theorem sc_is_work_alone : FnScope N_is_work_alone P_is_work_alone (defScope s_is_work_alone) := ⟨rfl, rfl, rfl, by decide +kernel, rfl, by decide +kernel, by decide +kernel⟩
abbrev s_works_within : Stmt := top 29
abbrev N_works_within : List Str := ["work"]
abbrev P_works_within : List Str := ["work"]
theorem sc_works_within : FnScope N_works_within P_works_within (defScope s_works_within) := ⟨rfl, rfl, rfl, by decide +kernel, rfl, by decide +kernel, by decide +kernel⟩
abbrev s_triple_of_work : Stmt := top 31
abbrev N_triple_of_work : List Str := ["plan", "work", "whole", "inner"]
abbrev P_triple_of_work : List Str := ["plan", "work"]
theorem sc_triple_of_work : FnScope N_triple_of_work P_triple_of_work (defScope s_triple_of_work) := ⟨rfl, rfl, rfl, by decide +kernel, rfl, by decide +kernel, by decide +kernel⟩
abbrev s_triple_of_step : Stmt := top 32
abbrev N_triple_of_step : List Str := ["plan", "step"]
abbrev P_triple_of_step : List Str := ["plan", "step"]
theorem sc_triple_of_step : FnScope N_triple_of_step P_triple_of_step (defScope s_triple_of_step) := ⟨rfl, rfl, rfl, by decide +kernel, rfl, by decide +kernel, by decide +kernel⟩
abbrev s_untouched : Stmt := top 33
abbrev N_untouched : List Str := ["plan"]
abbrev P_untouched : List Str := ["plan"]
theorem sc_untouched : FnScope N_untouched P_untouched (defScope s_untouched) := ⟨rfl, rfl, rfl, by decide +kernel, rfl, by decide +kernel, by decide +kernel⟩
abbrev s_tidied : Stmt := top 34
abbrev N_tidied : List Str := ["gone", "kept", "laid"]
abbrev P_tidied : List Str := ["gone", "kept", "laid"]
theorem sc_tidied : FnScope N_tidied P_tidied (defScope s_tidied) := ⟨rfl, rfl, rfl, by decide +kernel, rfl, by decide +kernel, by decide +kernel⟩
abbrev s_join_triples : Stmt := top 35
abbrev N_join_triples : List Str := ["one", "other", "gone", "kept", "laid", "next_gone", "next_kept", "next_laid", "deeper", "left", "still_kept"]
abbrev P_join_triples : List Str := ["one", "other"]
theorem sc_join_triples : FnScope N_join_triples P_join_triples (defScope s_join_triples) := ⟨rfl, rfl, rfl, by decide +kernel, rfl, by decide +kernel, by decide +kernel⟩
abbrev s_power_triple : Stmt := top 36
abbrev N_power_triple : List Str := ["plan", "triple", "many", "whole", "doubled", "left"]
abbrev P_power_triple : List Str := ["plan", "triple", "many"]
theorem sc_power_triple : FnScope N_power_triple P_power_triple (defScope s_power_triple) := ⟨rfl, rfl, rfl, by decide +kernel, rfl, by decide +kernel, by decide +kernel⟩
abbrev s_stack_behind : Stmt := top 37
abbrev N_stack_behind : List Str := ["triple", "stack", "gone", "kept", "laid"]
abbrev P_stack_behind : List Str := ["triple", "stack"]
theorem sc_stack_behind : FnScope N_stack_behind P_stack_behind (defScope s_stack_behind) := ⟨rfl, rfl, rfl, by decide +kernel, rfl, by decide +kernel, by decide +kernel⟩
abbrev s_without_top : Stmt := top 38
abbrev N_without_top : List Str := ["stack", "many"]
abbrev P_without_top : List Str := ["stack", "many"]
theorem sc_without_top : FnScope N_without_top P_without_top (defScope s_without_top) := ⟨rfl, rfl, rfl, by decide +kernel, rfl, by decide +kernel, by decide +kernel⟩
abbrev s_top_of : Stmt := top 39
abbrev N_top_of : List Str := ["stack", "many"]
abbrev P_top_of : List Str := ["stack", "many"]
theorem sc_top_of : FnScope N_top_of P_top_of (defScope s_top_of) := ⟨rfl, rfl, rfl, by decide +kernel, rfl, by decide +kernel, by decide +kernel⟩
abbrev s_price_of_work : Stmt := top 41
abbrev N_price_of_work : List Str := ["plan", "work", "inner"]
abbrev P_price_of_work : List Str := ["plan", "work"]
theorem sc_price_of_work : FnScope N_price_of_work P_price_of_work (defScope s_price_of_work) := ⟨rfl, rfl, rfl, by decide +kernel, rfl, by decide +kernel, by decide +kernel⟩
abbrev s_price_of_step : Stmt := top 42
abbrev N_price_of_step : List Str := ["plan", "step"]
abbrev P_price_of_step : List Str := ["plan", "step"]
theorem sc_price_of_step : FnScope N_price_of_step P_price_of_step (defScope s_price_of_step) := ⟨rfl, rfl, rfl, by decide +kernel, rfl, by decide +kernel, by decide +kernel⟩
abbrev s_M_init : Stmt := inClass (top 44) 0
abbrev N_M_init : List Str := ["self", "plan", "stack"]
abbrev P_M_init : List Str := ["self", "plan", "stack"]
theorem sc_M_init : FnScope N_M_init P_M_init (defScope s_M_init) := ⟨rfl, rfl, rfl, by decide +kernel, rfl, by decide +kernel, by decide +kernel⟩
abbrev s_M_do : Stmt := inClass (top 44) 1
abbrev N_M_do : List Str := ["self", "work"]
abbrev P_M_do : List Str := ["self", "work"]
theorem sc_M_do : FnScope N_M_do P_M_do (defScope s_M_do) := ⟨rfl, rfl, rfl, by decide +kernel, rfl, by decide +kernel, by decide +kernel⟩
abbrev s_M_push : Stmt := inClass (top 44) 2
abbrev N_M_push : List Str := ["self", "sign", "before"]
abbrev P_M_push : List Str := ["self", "sign"]
theorem sc_M_push : FnScope N_M_push P_M_push (defScope s_M_push) := ⟨rfl, rfl, rfl, by decide +kernel, rfl, by decide +kernel, by decide +kernel⟩
abbrev s_M_pop : Stmt := inClass (top 44) 3
abbrev N_M_pop : List Str := ["self", "before"]
abbrev P_M_pop : List Str := ["self"]
theorem sc_M_pop : FnScope N_M_pop P_M_pop (defScope s_M_pop) := ⟨rfl, rfl, rfl, by decide +kernel, rfl, by decide +kernel, by decide +kernel⟩
abbrev s_M_back : Stmt := inClass (top 44) 4
abbrev N_M_back : List Str := ["self"]
abbrev P_M_back : List Str := ["self"]
theorem sc_M_back : FnScope N_M_back P_M_back (defScope s_M_back) := ⟨rfl, rfl, rfl, by decide +kernel, rfl, by decide +kernel, by decide +kernel⟩
abbrev s_M_stack : Stmt := inClass (top 44) 5
abbrev N_M_stack : List Str := ["self"]
abbrev P_M_stack : List Str := ["self"]
theorem sc_M_stack : FnScope N_M_stack P_M_stack (defScope s_M_stack) := ⟨rfl, rfl, rfl, by decide +kernel, rfl, by decide +kernel, by decide +kernel⟩
abbrev s_M_spent : Stmt := inClass (top 44) 6
abbrev N_M_spent : List Str := ["self"]
abbrev P_M_spent : List Str := ["self"]
theorem sc_M_spent : FnScope N_M_spent P_M_spent (defScope s_M_spent) := ⟨rfl, rfl, rfl, by decide +kernel, rfl, by decide +kernel, by decide +kernel⟩
abbrev s_M_triple : Stmt := inClass (top 44) 7
abbrev N_M_triple : List Str := ["self"]
abbrev P_M_triple : List Str := ["self"]
theorem sc_M_triple : FnScope N_M_triple P_M_triple (defScope s_M_triple) := ⟨rfl, rfl, rfl, by decide +kernel, rfl, by decide +kernel, by decide +kernel⟩
abbrev s_M_deeds : Stmt := inClass (top 44) 8
abbrev N_M_deeds : List Str := ["self"]
abbrev P_M_deeds : List Str := ["self"]
theorem sc_M_deeds : FnScope N_M_deeds P_M_deeds (defScope s_M_deeds) := ⟨rfl, rfl, rfl, by decide +kernel, rfl, by decide +kernel, by decide +kernel⟩
abbrev s_M_add_step : Stmt := inClass (top 44) 9
abbrev N_M_add_step : List Str := ["self", "step"]
abbrev P_M_add_step : List Str := ["self", "step"]
theorem sc_M_add_step : FnScope N_M_add_step P_M_add_step (defScope s_M_add_step) := ⟨rfl, rfl, rfl, by decide +kernel, rfl, by decide +kernel, by decide +kernel⟩
abbrev s_M_add_deed : Stmt := inClass (top 44) 10
abbrev N_M_add_deed : List Str := ["self", "triple", "price"]
abbrev P_M_add_deed : List Str := ["self", "triple", "price"]
theorem sc_M_add_deed : FnScope N_M_add_deed P_M_add_deed (defScope s_M_add_deed) := ⟨rfl, rfl, rfl, by decide +kernel, rfl, by decide +kernel, by decide +kernel⟩
abbrev s_law_begun : Stmt := top 46
abbrev N_law_begun : List Str := ["_law_script", "_law_stirred", "_law_cell"]
abbrev P_law_begun : List Str := ["_law_script"]
theorem sc_law_begun : FnScope N_law_begun P_law_begun (defScope s_law_begun) := ⟨rfl, rfl, rfl, by decide +kernel, rfl, by decide +kernel, by decide +kernel⟩
abbrev s_law_take : Stmt := top 47
abbrev N_law_take : List Str := ["_law_box", "_law_size", "_law_figure"]
abbrev P_law_take : List Str := ["_law_box", "_law_size"]
theorem sc_law_take : FnScope N_law_take P_law_take (defScope s_law_take) := ⟨rfl, rfl, rfl, by decide +kernel, rfl, by decide +kernel, by decide +kernel⟩
abbrev s_law_alike : Stmt := top 48
abbrev N_law_alike : List Str := ["_law_found", "_law_due", "_law_k"]
abbrev P_law_alike : List Str := ["_law_found", "_law_due"]
theorem sc_law_alike : FnScope N_law_alike P_law_alike (defScope s_law_alike) := ⟨rfl, rfl, rfl, by decide +kernel, rfl, by decide +kernel, by decide +kernel⟩
abbrev s_law_told : Stmt := top 49
abbrev N_law_told : List Str := ["_law_work_here", "e", "_law_kinds", "_law_words", "_law_word"]
abbrev P_law_told : List Str := ["_law_work_here"]
theorem sc_law_told : FnScope N_law_told P_law_told (defScope s_law_told) := ⟨rfl, rfl, rfl, by decide +kernel, rfl, by decide +kernel, by decide +kernel⟩
abbrev s_law_plan : Stmt := top 50
abbrev N_law_plan : List Str := ["_law_box", "_law_room", "_law_signs_here", "_law_size", "_law_prices", "_law_k"]
abbrev P_law_plan : List Str := ["_law_box", "_law_room", "_law_signs_here"]
theorem sc_law_plan : FnScope N_law_plan P_law_plan (defScope s_law_plan) := ⟨rfl, rfl, rfl, by decide +kernel, rfl, by decide +kernel, by decide +kernel⟩
abbrev s_law_signs : Stmt := top 51
abbrev N_law_signs : List Str := ["_law_box", "_law_plan_here", "_law_limit", "_law_k"]
abbrev P_law_signs : List Str := ["_law_box", "_law_plan_here", "_law_limit"]
theorem sc_law_signs : FnScope N_law_signs P_law_signs (defScope s_law_signs) := ⟨rfl, rfl, rfl, by decide +kernel, rfl, by decide +kernel, by decide +kernel⟩
abbrev s_law_work : Stmt := top 53
abbrev N_law_work : List Str := ["_law_box", "_law_plan_here", "_law_deep", "_law_times", "_law_way", "_law_k"]
abbrev P_law_work : List Str := ["_law_box", "_law_plan_here", "_law_deep", "_law_times"]
theorem sc_law_work : FnScope N_law_work P_law_work (defScope s_law_work) := ⟨rfl, rfl, rfl, by decide +kernel, rfl, by decide +kernel, by decide +kernel⟩
abbrev s_law_tuples : Stmt := top 54
abbrev N_law_tuples : List Str := ["_law_work_here", "_law_part"]
abbrev P_law_tuples : List Str := ["_law_work_here"]
theorem sc_law_tuples : FnScope N_law_tuples P_law_tuples (defScope s_law_tuples) := ⟨rfl, rfl, rfl, by decide +kernel, rfl, by decide +kernel, by decide +kernel⟩
abbrev s_law_some : Stmt := top 55
abbrev N_law_some : List Str := ["_law_box", "_law_plan_here", "_law_deep", "_law_times", "_law_limit", "_law_found"]
abbrev P_law_some : List Str := ["_law_box", "_law_plan_here", "_law_deep", "_law_times", "_law_limit"]
theorem sc_law_some : FnScope N_law_some P_law_some (defScope s_law_some) := ⟨rfl, rfl, rfl, by decide +kernel, rfl, by decide +kernel, by decide +kernel⟩
abbrev s_law_step : Stmt := top 57
abbrev N_law_step : List Str := ["_law_plan_here", "_law_stack", "_law_sign"]
abbrev P_law_step : List Str := ["_law_plan_here", "_law_stack", "_law_sign"]
theorem sc_law_step : FnScope N_law_step P_law_step (defScope s_law_step) := ⟨rfl, rfl, rfl, by decide +kernel, rfl, by decide +kernel, by decide +kernel⟩
abbrev s_law_gone : Stmt := top 58
abbrev N_law_gone : List Str := ["_law_plan_here", "_law_stack", "_law_steps_here", "_law_sign"]
abbrev P_law_gone : List Str := ["_law_plan_here", "_law_stack", "_law_steps_here"]
theorem sc_law_gone : FnScope N_law_gone P_law_gone (defScope s_law_gone) := ⟨rfl, rfl, rfl, by decide +kernel, rfl, by decide +kernel, by decide +kernel⟩
abbrev s_law_by : Stmt := top 59
abbrev N_law_by : List Str := ["_law_triple_here", "_law_stack", "_law_gone_here", "_law_kept", "_law_laid", "_law_left"]
abbrev P_law_by : List Str := ["_law_triple_here", "_law_stack"]
theorem sc_law_by : FnScope N_law_by P_law_by (defScope s_law_by) := ⟨rfl, rfl, rfl, by decide +kernel, rfl, by decide +kernel, by decide +kernel⟩
abbrev s_law_long : Stmt := top 61
abbrev N_law_long : List Str := ["_law_work_here", "_law_part"]
abbrev P_law_long : List Str := ["_law_work_here"]
theorem sc_law_long : FnScope N_law_long P_law_long (defScope s_law_long) := ⟨rfl, rfl, rfl, by decide +kernel, rfl, by decide +kernel, by decide +kernel⟩
abbrev s_law_price : Stmt := top 62
abbrev N_law_price : List Str := ["_law_plan_here", "_law_steps_here", "_law_sign"]
abbrev P_law_price : List Str := ["_law_plan_here", "_law_steps_here"]
theorem sc_law_price : FnScope N_law_price P_law_price (defScope s_law_price) := ⟨rfl, rfl, rfl, by decide +kernel, rfl, by decide +kernel, by decide +kernel⟩
abbrev s_law_deed : Stmt := top 63
abbrev N_law_deed : List Str := ["_law_box", "_law_m", "_law_machine", "_law_plan_here", "_law_way", "_law_due", "_law_stack", "_law_sign", "_law_work_here", "_law_bad"]
abbrev P_law_deed : List Str := ["_law_box", "_law_m", "_law_machine"]
theorem sc_law_deed : FnScope N_law_deed P_law_deed (defScope s_law_deed) := ⟨rfl, rfl, rfl, by decide +kernel, rfl, by decide +kernel, by decide +kernel⟩
abbrev s_law : Stmt := top 64
abbrev N_law : List Str := ["_law_script", "_law_box", "_law_plan_here", "_law_m", "_law_machine", "_law_other", "_law_turn", "_law_steps_here", "_law_due", "_law_again", "_law_triple_here"]
abbrev P_law : List Str := ["_law_script"]
theorem sc_law : FnScope N_law P_law (defScope s_law) := ⟨rfl, rfl, rfl, by decide +kernel, rfl, by decide +kernel, by decide +kernel⟩
/-! ### what the module's names hold -/
structure Gx (mg : Str → Option Value) : Prop where
  SIGNS : ∃ u, mg "SIGNS" = some u ∧ RelV (.str (tx [97, 98, 99, 100])) u
  POP_STEP : ∃ u, mg "POP_STEP" = some u ∧ RelV (.str (tx [45])) u
  MOST_ROOM : ∃ u, mg "MOST_ROOM" = some u ∧ RelV (.int 9) u
  MOST_PRICE : ∃ u, mg "MOST_PRICE" = some u ∧ RelV (.int 99) u
  MOST_TIMES : ∃ u, mg "MOST_TIMES" = some u ∧ RelV (.int 1000000000000000000) u
  MOST_WORKS : ∃ u, mg "MOST_WORKS" = some u ∧ RelV (.int 60) u
  MOST_DEEP : ∃ u, mg "MOST_DEEP" = some u ∧ RelV (.int 8) u
  isi : mg "isinstance" = none
  bool : mg "bool" = none
  int : mg "int" = none
  str : mg "str" = none
  tuple : mg "tuple" = none
  len : mg "len" = none
  all : mg "all" = none
  max : mg "max" = none
  min : mg "min" = none
  range : mg "range" = none
  list : mg "list" = none
  reversed : mg "reversed" = none
  sum : mg "sum" = none
  abs : mg "abs" = none
  ValueError : mg "ValueError" = none
section
variable {P : Program} {w : World} {K : PySem.W.Frag} {mg : Str → Option Value} {base : Heap}
theorem ok_signs_of (D : Dn K mg "signs_of" s_signs_of P_signs_of) (g : Gx mg) : C8.Cal P w K mg base 1 "signs_of" spSigns [] := by
  refine D.cal sc_signs_of (fun vs H Q E h => ?_) (fun f cdv A outer s H vs Q E hr h => ?_)
  · obtain ⟨v, p, rfl, ⟨a, b, rfl, ha, hb⟩, ok, q⟩ := h
    rfl
  obtain ⟨v, p, rfl, ⟨a, b, rfl, ha, hb⟩, ok, q⟩ := h
  have nd := sc_signs_of.nd
  refine ⟨_, (pss_one (ps_ret (pe_slice sl_str (C8.pe_gc rfl g.SIGNS) po_none (po_some (pe_ix ix_tup (pv 0) pe_int (fun _ _ => rfl)))))), ?_⟩
  refine ⟨_, rfl, a, _, 1, _, rfl, rfl, SqT.of ha, rfl, _, rfl, _, rfl, sz (by decide), ?_⟩
  rw [cut_to (l := [97, 98, 99, 100]) (n := p.many) ok.m4]
  exact q H (Same.refl H)
theorem ok_is_number (D : Dn K mg "is_number" s_is_number P_is_number) (g : Gx mg) : C8.Cal P w K mg base 1 "is_number" spNum [] := by
  refine D.cal sc_is_number (fun vs H Q E h => ?_) (fun f cdv A outer s H vs Q E hr h => ?_)
  · obtain ⟨i, lo, hi, rfl, q⟩ := h
    rfl
  obtain ⟨i, lo, hi, rfl, q⟩ := h
  have nd := sc_is_number.nd
  refine ⟨_, (pss_one (ps_ret (pe_and (pe_callB call_isi rfl g.isi b_isi (pa_cons (pv 0) (pa_cons (pe_bltn (v := .ty "int") rfl g.int b_int rfl) pa_nil))) (pe_and (pe_not (pe_callB call_isi rfl g.isi b_isi (pa_cons (pv 0) (pa_cons (pe_bltn (v := .ty "bool") rfl g.bool b_bool rfl) pa_nil)))) (pe_one (pe_chain op_le op_le (pv 1) (pv 0) (pv 2))))))), ?_⟩
  refine ⟨_, rfl, _, _, _, _, _, rfl, .ty "int", ty_int, kit_ty k_int_int, _, rfl, iteT ?_⟩
  refine ⟨_, rfl, _, _, _, _, _, rfl, .ty "bool", ty_int, kit_ty k_int_bool, _, rfl, _, rfl, iteT ?_⟩
  refine ⟨_, rfl, _, rfl, _, _, rfl, rfl, _, rfl, ite2 (fun c => ?_) (fun c => ?_)⟩
  · have c1 : lo ≤ i := of_decide_eq_true c
    refine ⟨_, rfl, _, _, rfl, rfl, ?_⟩
    have e : decide (lo ≤ i ∧ i ≤ hi) = decide (i ≤ hi) := by simp [c1]
    have q1 := q H (Same.refl H)
    rw [e] at q1
    exact q1
  · have c1 : ¬ lo ≤ i := fun z => c (decide_eq_true z)
    have e : decide (lo ≤ i ∧ i ≤ hi) = false := by simp [c1]
    have q1 := q H (Same.refl H)
    rw [e] at q1
    exact q1
theorem ok_is_text_of (D : Dn K mg "is_text_of" s_is_text_of P_is_text_of) (g : Gx mg) : C8.Cal P w K mg base 1 "is_text_of" spTextOf [] := by
  refine D.cal sc_is_text_of (fun vs H Q E h => ?_) (fun f cdv A outer s H vs Q E hr h => ?_)
  · obtain ⟨l, sg, rfl, hl, q⟩ := h
    rfl
  obtain ⟨l, sg, rfl, hl, q⟩ := h
  have nd := sc_is_text_of.nd
  refine ⟨_, (pss_one (ps_ret (pe_and (pe_callB call_isi rfl g.isi b_isi (pa_cons (pv 0) (pa_cons (pe_bltn (v := .ty "str") rfl g.str b_str rfl) pa_nil))) (pe_one (pe_callB (cr_all rfl) rfl g.all b_all (pa_cons (pe_lc (own := [("sign", 2)]) rfl nd (pi_str (pv 0)) (blkOk_by (own := [("sign", 2)]) (N := N_is_text_of) (sc := defScope s_is_text_of) (by decide +kernel)) (fun _ _ _ _ _ => (pg_name (i := 2) nd rfl (.inl rfl))) (fun _ _ _ _ _ => pts_nil) (fun _ _ _ _ _ => (pe_cmpR op_in_sign (pv 2) (pv 1) rfl))) pa_nil)))))), ?_⟩
  refine ⟨_, rfl, _, _, _, _, _, rfl, .ty "str", ty_str, kit_ty k_str_str, _, rfl, iteT ?_⟩
  refine ⟨_, rfl, _, rfl, fun D hD => ?_⟩
  have hn : (tx l).cps.size = l.length := tx_len l
  refine lc_it (walk_str (z := tx l)) (fun i H2 => Same H H2 ∧ H2 D = some (.lst ((l.take i).map fun c => V.bl (decide (c ∈ sg))))) ⟨Same.new hD _, upd_same⟩ (fun _ _ _ _ => trivial) ?_ ?_
  · rintro i x H2 H3 hi ⟨s2, h2⟩ ⟨rfl, c, hc, rfl⟩
    have hc' : l[i]? = some c := by
      rw [← hc]
      simp [tx]
    refine ⟨rfl, ?_⟩
    refine ⟨_, rfl, _, rfl, c, tx sg, rfl, rfl, _, h2, ?_, fun b o e => ?_, ?_⟩
    · rw [List.length_map, List.length_take]
      exact szl (by omega)
    · rw [upd_ne (ne_of_none e hD)]
      exact s2 b o e
    · rw [upd_same, List.take_add_one, hc']
      simp [tx_list]
      exact decide_eq_decide.mpr Iff.rfl
  · rintro H2 ⟨s2, h2⟩
    rw [hn, List.take_of_length_le (Nat.le_refl _)] at h2
    refine ⟨D, l.map fun c => decide (c ∈ sg), rfl, SqL.of (by rw [h2, List.map_map]; rfl), ?_⟩
    have e : (l.map fun c => decide (c ∈ sg)).all id = decide (∀ c ∈ l, c ∈ sg) := by
      rw [List.all_map, Bool.eq_iff_iff]
      simp
    rw [e]
    exact q H2 s2
theorem ok_are_prices (D : Dn K mg "are_prices" s_are_prices P_are_prices) (g : Gx mg) (c_is_number : C8.Cal P w K mg base 1 "is_number" spNum []) : C8.Cal P w K mg base 2 "are_prices" spPrices [] := by
  refine D.cal sc_are_prices (fun vs H Q E h => ?_) (fun f cdv A outer s H vs Q E hr h => ?_)
  · obtain ⟨b, p, rfl, hb, ok, q⟩ := h
    rfl
  obtain ⟨b, p, rfl, hb, ok, q⟩ := h
  have nd := sc_are_prices.nd
  refine ⟨_, (pss_cons (ps_if (PW.pt (pw_or (pt_not (pt_val (pe_callB call_isi rfl g.isi b_isi (pa_cons (pv 0) (pa_cons (pe_bltn (v := .ty "tuple") rfl g.tuple b_tuple rfl) pa_nil))))) (pw_or1 (pt_cmpR op_ne (pe_callB call_len_seq rfl g.len PySem.boot_len (pa_cons (pv 0) pa_nil)) (pv 1) (nomark _))))) (pss_one (ps_ret pe_bl)) pss_nil)
    (pss_one (ps_ret (pe_callB (cr_all rfl) rfl g.all b_all (pa_cons (pe_lc (own := [("price", 2)]) rfl nd (pi_tup (pv 0)) (blkOk_by (own := [("price", 2)]) (N := N_are_prices) (sc := defScope s_are_prices) (by decide +kernel)) (fun _ _ _ _ _ => (pg_name (i := 2) nd rfl (.inl rfl))) (fun _ _ _ _ _ => pts_nil) (fun _ _ _ _ _ => (C8.pe_c c_is_number (by exact hr) (by decide) rfl (pa_cons (pv 2) (pa_cons pe_int (pa_cons (C8.pe_gc rfl g.MOST_PRICE) pa_nil)))))) pa_nil))))), ?_⟩
  have hl : (p.pr.map V.int).length = p.many := by rw [List.length_map]; exact ok.pl
  refine ⟨_, rfl, _, _, _, _, _, rfl, .ty "tuple", hb.ty, kit_ty k_tup_tup, _, rfl, iteF ?_⟩
  refine ⟨_, rfl, b, _, rfl, .inr (TupF.sq hb), _, rfl, rfl, _, rfl, iteNS (by rw [hl]) ?_⟩
  refine ⟨_, rfl, b, rfl, ⟨_, TupF.sq hb⟩, fun D hD => ?_⟩
  refine lc_it (walk_tup (a := b) (xs := p.pr.map V.int)) (fun i H2 => Same H H2 ∧ H2 D = some (.lst ((List.replicate i true).map V.bl))) ⟨Same.new hD _, upd_same⟩ (fun i H2 _ h2 => TupF.sq (PrAt.mono hb h2.1)) ?_ ?_
  · rintro i x H2 H3 hi ⟨s2, h2⟩ ⟨rfl, hx⟩
    rw [List.getElem?_map] at hx
    obtain ⟨y, hy, rfl⟩ := Option.map_eq_some_iff.mp hx
    have hy' := ok.pr y (List.mem_of_getElem? hy)
    refine ⟨rfl, ?_⟩
    refine ⟨_, rfl, y, 1, 99, rfl, fun H4 s4 => ⟨_, s4 _ _ h2, ?_, fun b o e => ?_, ?_⟩⟩
    · rw [List.length_map, List.length_replicate]
      have := ok.m4
      exact szl (by omega)
    · rw [upd_ne (ne_of_none e hD)]
      exact s4 _ _ (s2 b o e)
    · rw [upd_same, List.replicate_succ', List.map_append, decide_eq_true hy']
      rfl
  · rintro H2 ⟨s2, h2⟩
    refine ⟨D, _, rfl, SqL.of h2, ?_⟩
    have e : (List.replicate (p.pr.map V.int).length true).all id = true := by simp
    rw [e]
    exact q H2 s2
theorem mem_steps {c n : Nat} : c ∈ signs n ++ [45] ↔ c = 45 ∨ c ∈ signs n := by
  rw [List.mem_append, List.mem_singleton, Or.comm]
theorem ok_check_plan (D : Dn K mg "check_plan" s_check_plan P_check_plan) (g : Gx mg) (c_is_number : C8.Cal P w K mg base 1 "is_number" spNum []) (c_are_prices : C8.Cal P w K mg base 2 "are_prices" spPrices []) : C8.Cal P w K mg base 3 "check_plan" spChPlan [] := by
  refine D.cal sc_check_plan (fun vs H Q E h => ?_) (fun f cdv A outer s H vs Q E hr h => ?_)
  · obtain ⟨v, p, rfl, ⟨a, b, rfl, ha, hb⟩, ok, q⟩ := h
    rfl
  obtain ⟨v, p, rfl, ⟨a, b, rfl, ha, hb⟩, ok, q⟩ := h
  have nd := sc_check_plan.nd
  refine ⟨_, (pss_cons (ps_if (PW.pt (pw_or (pt_not (pt_val (pe_callB call_isi rfl g.isi b_isi (pa_cons (pv 0) (pa_cons (pe_bltn (v := .ty "tuple") rfl g.tuple b_tuple rfl) pa_nil))))) (pw_or1 (pt_cmpR op_ne (pe_callB call_len_seq rfl g.len PySem.boot_len (pa_cons (pv 0) pa_nil)) pe_int (nomark _))))) (pss_one ps_never) pss_nil)
    (pss_cons (ps_asg (pv 0) (pg_tup (by rfl) (pgs_cons (pg_name (i := 1) nd rfl (.inl rfl)) (pgs_cons (pg_name (i := 2) nd rfl (.inl rfl)) (pgs_cons (pg_name (i := 3) nd rfl (.inl rfl)) (pgs_cons (pg_name (i := 4) nd rfl (.inl rfl)) pgs_nil))))))
    (pss_cons (ps_if (pt_not (pt_val (C8.pe_c c_is_number hr (by decide) rfl (pa_cons (pv 1) (pa_cons pe_int (pa_cons (C8.pe_gc rfl g.MOST_ROOM) pa_nil)))))) (pss_one ps_never) pss_nil)
    (pss_cons (ps_if (pt_not (pt_val (C8.pe_c c_is_number hr (by decide) rfl (pa_cons (pv 2) (pa_cons pe_int (pa_cons (pe_callB call_len_str rfl g.len PySem.boot_len (pa_cons (C8.pe_gc rfl g.SIGNS) pa_nil)) pa_nil)))))) (pss_one ps_never) pss_nil)
    (pss_cons (ps_if (pt_not (pt_val (C8.pe_c c_are_prices hr (by decide) rfl (pa_cons (pv 3) (pa_cons (pv 2) pa_nil))))) (pss_one ps_never) pss_nil)
    (pss_one (ps_if (pt_not (pt_val (C8.pe_c c_is_number hr (by decide) rfl (pa_cons (pv 4) (pa_cons pe_int (pa_cons (C8.pe_gc rfl g.MOST_PRICE) pa_nil)))))) (pss_one ps_never) pss_nil))))))), ?_⟩
  refine ⟨_, rfl, _, _, _, _, _, rfl, .ty "tuple", ty_tup ha, kit_ty k_tup_tup, _, rfl, iteF ?_⟩
  refine ⟨_, rfl, a, _, rfl, .inr (SqT.of ha), rfl, _, rfl, iteNS rfl ?_⟩
  refine ⟨_, rfl, a, _, rfl, SqT.of ha, rfl, _, _, rfl, _, _, rfl, _, _, rfl, _, _, rfl, rfl, ?_⟩
  have e0 : decide ((1 : Int) ≤ (p.room : Int) ∧ (p.room : Int) ≤ 9) = true := decide_eq_true (by have := ok.r1; have := ok.r9; omega)
  have e1 : decide ((1 : Int) ≤ (p.many : Int) ∧ (p.many : Int) ≤ 4) = true := decide_eq_true (by have := ok.m1; have := ok.m4; omega)
  have e3 : decide ((1 : Int) ≤ p.pop ∧ p.pop ≤ 99) = true := decide_eq_true ⟨ok.q1, ok.q9⟩
  refine ⟨_, rfl, p.room, 1, 9, rfl, fun H1 s1 => ⟨_, rfl, ?_⟩⟩
  rw [e0]
  refine iteF ?_
  refine ⟨_, rfl, _, rfl, by rw [tx_len]; exact sz (by decide), p.many, 1, 4, rfl, fun H2 s2 => ⟨_, rfl, ?_⟩⟩
  rw [e1]
  refine iteF ?_
  refine ⟨_, rfl, _, rfl, b, p, rfl, PrAt.mono hb (s1.trans s2), ok, fun H3 s3 => ⟨_, rfl, iteF ?_⟩⟩
  refine ⟨_, rfl, p.pop, 1, 99, rfl, fun H4 s4 => ⟨_, rfl, ?_⟩⟩
  rw [e3]
  refine iteF ?_
  exact q H4 (s1.trans (s2.trans (s3.trans s4)))
theorem ok_is_stack (D : Dn K mg "is_stack" s_is_stack P_is_stack) (g : Gx mg) (c_signs_of : C8.Cal P w K mg base 1 "signs_of" spSigns []) (c_is_text_of : C8.Cal P w K mg base 1 "is_text_of" spTextOf []) : C8.Cal P w K mg base 2 "is_stack" spIsStack [] := by
  refine D.cal sc_is_stack (fun vs H Q E h => ?_) (fun f cdv A outer s H vs Q E hr h => ?_)
  · obtain ⟨v, p, l, rfl, ⟨a, b, rfl, ha, hb⟩, ok, hl, hs, q⟩ := h
    rfl
  obtain ⟨v, p, l, rfl, ⟨a, b, rfl, ha, hb⟩, ok, hl, hs, q⟩ := h
  have nd := sc_is_stack.nd
  refine ⟨_, (pss_one (ps_ret (pe_and (C8.pe_c c_is_text_of hr (by decide) rfl (pa_cons (pv 1) (pa_cons (C8.pe_c c_signs_of hr (by decide) rfl (pa_cons (pv 0) pa_nil)) pa_nil))) (pe_one (pe_cmpR op_le (pe_callB call_len_str rfl g.len PySem.boot_len (pa_cons (pv 1) pa_nil)) (pe_ix ix_tup (pv 0) pe_int (fun _ _ => rfl)) (nomark _)))))), ?_⟩
  have hr9 := ok.r9
  refine ⟨_, rfl, _, rfl, _, p, rfl, ⟨a, b, rfl, ha, hb⟩, ok, fun H1 s1 => ?_⟩
  refine ⟨l, signs p.many, rfl, by omega, fun H2 s2 => ⟨_, rfl, ?_⟩⟩
  rw [decide_eq_true hs]
  refine iteT ?_
  refine ⟨_, rfl, _, rfl, by rw [tx_len]; exact sz (by omega), _, rfl, a, _, 0, _, rfl, rfl, SqT.of ((s1.trans s2) _ _ ha), rfl, _, _, rfl, rfl, ?_⟩
  show Q (.bl (decide (((tx l).length : Int) ≤ (p.room : Int)))) H2
  rw [tx_len, decide_eq_true (by omega)]
  exact q H2 (s1.trans s2)
theorem ok_check_stack (D : Dn K mg "check_stack" s_check_stack P_check_stack) (g : Gx mg) (c_is_stack : C8.Cal P w K mg base 2 "is_stack" spIsStack []) : C8.Cal P w K mg base 3 "check_stack" spChStack [] := by
  refine D.cal sc_check_stack (fun vs H Q E h => ?_) (fun f cdv A outer s H vs Q E hr h => ?_)
  · obtain ⟨v, p, l, rfl, hp, ok, hl, hs, q⟩ := h
    rfl
  obtain ⟨v, p, l, rfl, hp, ok, hl, hs, q⟩ := h
  have nd := sc_check_stack.nd
  refine ⟨_, (pss_one (ps_if (pt_not (pt_val (C8.pe_c c_is_stack hr (by decide) rfl (pa_cons (pv 0) (pa_cons (pv 1) pa_nil))))) (pss_one ps_never) pss_nil)), ?_⟩
  refine ⟨_, rfl, _, rfl, v, p, l, rfl, hp, ok, hl, hs, fun H1 s1 => ⟨_, rfl, iteF ?_⟩⟩
  exact q H1 s1
theorem ok_without_top (D : Dn K mg "without_top" s_without_top P_without_top) (g : Gx mg) : C8.Cal P w K mg base 1 "without_top" spWithout [] := by
  refine D.cal sc_without_top (fun vs H Q E h => ?_) (fun f cdv A outer s H vs Q E hr h => ?_)
  · obtain ⟨l, n, rfl, hl, q⟩ := h
    rfl
  obtain ⟨l, n, rfl, hl, q⟩ := h
  have nd := sc_without_top.nd
  refine ⟨_, (pss_one (ps_ret (pe_slice sl_str (pv 0) po_none (po_some (pe_callB (call_max2 rfl) rfl g.max b_max (pa_cons (pe_op op_sub (pe_callB call_len_str rfl g.len PySem.boot_len (pa_cons (pv 0) pa_nil)) (pv 1)) (pa_cons pe_int pa_nil))))))), ?_⟩
  have e : (if (0 : Int) > (((tx l).length : Nat) : Int) - (n : Int) then (0 : Int) else (((tx l).length : Nat) : Int) - (n : Int)) = ((l.length - n : Nat) : Int) := by
    rw [tx_len]
    split <;> omega
  refine ⟨_, rfl, _, rfl, _, rfl, by rw [tx_len]; exact sz (by omega), _, rfl, _, _, rfl, rfl, _, _, rfl, ?_⟩
  rw [e]
  refine ⟨_, rfl, _, rfl, by rw [tx_len]; exact sz (by omega), ?_⟩
  rw [cut_to (Nat.sub_le ..)]
  exact q H (Same.refl H)
theorem ok_top_of (D : Dn K mg "top_of" s_top_of P_top_of) (g : Gx mg) : C8.Cal P w K mg base 1 "top_of" spTop [] := by
  refine D.cal sc_top_of (fun vs H Q E h => ?_) (fun f cdv A outer s H vs Q E hr h => ?_)
  · obtain ⟨l, n, rfl, hl, q⟩ := h
    rfl
  obtain ⟨l, n, rfl, hl, q⟩ := h
  have nd := sc_top_of.nd
  refine ⟨_, (pss_one (ps_ret (pe_slice sl_str (pv 0) (po_some (pe_callB (call_max2 rfl) rfl g.max b_max (pa_cons (pe_op op_sub (pe_callB call_len_str rfl g.len PySem.boot_len (pa_cons (pv 0) pa_nil)) (pv 1)) (pa_cons pe_int pa_nil)))) po_none))), ?_⟩
  have e : (if (0 : Int) > (((tx l).length : Nat) : Int) - (n : Int) then (0 : Int) else (((tx l).length : Nat) : Int) - (n : Int)) = ((l.length - n : Nat) : Int) := by
    rw [tx_len]
    split <;> omega
  refine ⟨_, rfl, _, rfl, _, rfl, by rw [tx_len]; exact sz (by omega), _, rfl, _, _, rfl, rfl, _, _, rfl, ?_⟩
  rw [e]
  refine ⟨_, rfl, _, rfl, by rw [tx_len]; exact sz (by omega), ?_⟩
  rw [cut_from (Nat.sub_le ..)]
  exact q H (Same.refl H)
theorem ok_stack_behind (D : Dn K mg "stack_behind" s_stack_behind P_stack_behind) (g : Gx mg) (c_without_top : C8.Cal P w K mg base 1 "without_top" spWithout []) (c_top_of : C8.Cal P w K mg base 1 "top_of" spTop []) : C8.Cal P w K mg base 2 "stack_behind" spBehind [] := by
  refine D.cal sc_stack_behind (fun vs H Q E h => ?_) (fun f cdv A outer s H vs Q E hr h => ?_)
  · obtain ⟨u, t, l, rfl, ⟨a, rfl, ha⟩, hl, ht, q⟩ := h
    rfl
  obtain ⟨u, t, l, rfl, ⟨a, rfl, ha⟩, hl, ht, q⟩ := h
  have nd := sc_stack_behind.nd
  refine ⟨_, (pss_cons (ps_asg (pv 0) (pg_tup (by rfl) (pgs_cons (pg_name (i := 2) nd rfl (.inl rfl)) (pgs_cons (pg_name (i := 3) nd rfl (.inl rfl)) (pgs_cons (pg_name (i := 4) nd rfl (.inl rfl)) pgs_nil)))))
    (pss_one (ps_ret (pe_op op_add_str (C8.pe_c c_top_of hr (by decide) rfl (pa_cons (C8.pe_c c_without_top hr (by decide) rfl (pa_cons (pv 1) (pa_cons (pv 2) pa_nil))) (pa_cons (pv 3) pa_nil))) (pv 4))))), ?_⟩
  refine ⟨_, rfl, a, _, rfl, SqT.of ha, rfl, _, _, rfl, _, _, rfl, _, _, rfl, rfl, ?_⟩
  refine ⟨_, rfl, _, rfl, l, t.g, rfl, by omega, fun H1 s1 => ⟨_, rfl, ct t.g l, t.k, rfl, by rw [len_ct]; omega, fun H2 s2 => ⟨_, rfl, _, _, rfl, rfl, ?_, ?_⟩⟩⟩
  · rw [tx_len, tx_len, len_tp, len_ct]
    exact sz (by omega)
  · rw [tx_app]
    exact q _ (s1.trans s2)
theorem ok_tidied (D : Dn K mg "tidied" s_tidied P_tidied) (g : Gx mg) : C8.Cal P w K mg base 1 "tidied" spTidied [] := by
  refine D.cal sc_tidied (fun vs H Q E h => ?_) (fun f cdv A outer s H vs Q E hr h => ?_)
  · obtain ⟨a, b, l, rfl, q⟩ := h
    rfl
  obtain ⟨a, b, l, rfl, q⟩ := h
  have nd := sc_tidied.nd
  refine ⟨_, (pss_cons (ps_if (pt_cmpR op_eq (pv 1) pe_int (nomark _)) (pss_one (ps_ret (pe_tup (pa_cons pe_int (pa_cons pe_int (pa_cons (pv 2) pa_nil)))))) pss_nil)
    (pss_one (ps_ret (pe_tup (pa_cons (pv 0) (pa_cons (pv 1) (pa_cons (pv 2) pa_nil))))))), ?_⟩
  refine ⟨_, rfl, rfl, _, rfl, ite2 (fun c => ?_) (fun c => ?_)⟩
  · have c' : b = 0 := by
      have c1 := of_decide_eq_true c
      injection c1 with c2
      omega
    refine ⟨_, rfl, by show 3 ≤ sizeLine; decide, fun p hp => ?_⟩
    refine q _ _ (Same.new hp _) ⟨p, rfl, ?_⟩
    unfold tidy
    rw [if_pos c', upd_same]
    rfl
  · have c' : ¬ b = 0 := fun z => by
      subst z
      exact c (decide_eq_true rfl)
    refine ⟨_, rfl, _, rfl, _, rfl, by show 3 ≤ sizeLine; decide, fun p hp => ?_⟩
    refine q _ _ (Same.new hp _) ⟨p, rfl, ?_⟩
    unfold tidy
    rw [if_neg c', upd_same]
theorem ok_untouched (D : Dn K mg "untouched" s_untouched P_untouched) (g : Gx mg) : C8.Cal P w K mg base 1 "untouched" spUnt [] := by
  refine D.cal sc_untouched (fun vs H Q E h => ?_) (fun f cdv A outer s H vs Q E hr h => ?_)
  · obtain ⟨v, p, rfl, ⟨a, b, rfl, ha, hb⟩, q⟩ := h
    rfl
  obtain ⟨v, p, rfl, ⟨a, b, rfl, ha, hb⟩, q⟩ := h
  have nd := sc_untouched.nd
  refine ⟨_, (pss_one (ps_ret (pe_tup (pa_cons pe_int (pa_cons (pe_ix ix_tup (pv 0) pe_int (fun _ _ => rfl)) (pa_cons pe_str pa_nil)))))), ?_⟩
  refine ⟨_, rfl, a, _, 0, _, rfl, rfl, SqT.of ha, rfl, by show 3 ≤ sizeLine; decide, fun e he => ?_⟩
  refine q _ _ (Same.new he _) ⟨e, rfl, ?_⟩
  rw [upd_same]
  exact congrArg (fun z => some (HO.tup [V.int 0, V.int p.room, V.str z])) s_empty
theorem ok_join_triples (D : Dn K mg "join_triples" s_join_triples P_join_triples) (g : Gx mg) (c_without_top : C8.Cal P w K mg base 1 "without_top" spWithout []) (c_top_of : C8.Cal P w K mg base 1 "top_of" spTop []) (c_tidied : C8.Cal P w K mg base 1 "tidied" spTidied []) : C8.Cal P w K mg base 2 "join_triples" spJoin [] := by
  refine D.cal sc_join_triples (fun vs H Q E h => ?_) (fun f cdv A outer s H vs Q E hr h => ?_)
  · obtain ⟨_, _, t, u, rfl, ⟨a, rfl, ha⟩, ⟨b, rfl, hb⟩, ht, hu, q⟩ := h
    rfl
  obtain ⟨_, _, t, u, rfl, ⟨a, rfl, ha⟩, ⟨b, rfl, hb⟩, ht, hu, q⟩ := h
  have nd := sc_join_triples.nd
  refine ⟨_, (pss_cons (ps_asg (pv 0) (pg_tup (by rfl) (pgs_cons (pg_name (i := 2) nd rfl (.inl rfl)) (pgs_cons (pg_name (i := 3) nd rfl (.inl rfl)) (pgs_cons (pg_name (i := 4) nd rfl (.inl rfl)) pgs_nil)))))
    (pss_cons (ps_asg (pv 1) (pg_tup (by rfl) (pgs_cons (pg_name (i := 5) nd rfl (.inl rfl)) (pgs_cons (pg_name (i := 6) nd rfl (.inl rfl)) (pgs_cons (pg_name (i := 7) nd rfl (.inl rfl)) pgs_nil)))))
    (pss_cons (ps_set (i := 8) nd rfl (.inl rfl) (pe_callB (call_max2 rfl) rfl g.max b_max (pa_cons (pe_op op_sub (pv 5) (pe_callB call_len_str rfl g.len PySem.boot_len (pa_cons (pv 4) pa_nil))) (pa_cons pe_int pa_nil))))
    (pss_cons (ps_set (i := 9) nd rfl (.inl rfl) (C8.pe_c c_without_top hr (by decide) rfl (pa_cons (pv 4) (pa_cons (pv 5) pa_nil))))
    (pss_cons (ps_set (i := 10) nd rfl (.inl rfl) (pe_callB (call_max2 rfl) rfl g.max b_max (pa_cons (pe_callB (call_min2 rfl) rfl g.min b_min (pa_cons (pe_op op_sub (pv 3) (pv 8)) (pa_cons (pe_op op_sub (pv 6) (pe_callB call_len_str rfl g.len PySem.boot_len (pa_cons (pv 9) pa_nil))) pa_nil))) (pa_cons pe_int pa_nil))))
    (pss_one (ps_ret (C8.pe_c c_tidied hr (by decide) rfl (pa_cons (pe_op op_add (pv 2) (pv 8)) (pa_cons (pv 10) (pa_cons (pe_op op_add_str (C8.pe_c c_top_of hr (by decide) rfl (pa_cons (pv 9) (pa_cons (pv 6) pa_nil))) (pv 7)) pa_nil))))))))))), ?_⟩
  refine ⟨_, rfl, a, _, rfl, SqT.of ha, rfl, _, _, rfl, _, _, rfl, _, _, rfl, rfl, ?_⟩
  refine ⟨_, rfl, b, _, rfl, SqT.of hb, rfl, _, _, rfl, _, _, rfl, _, _, rfl, rfl, ?_⟩
  have e1 : (if (0 : Int) > (u.g : Int) - (((tx t.l).length : Nat) : Int) then (0 : Int) else (u.g : Int) - (((tx t.l).length : Nat) : Int)) = ((u.g - t.l.length : Nat) : Int) := by
    rw [tx_len]
    split <;> omega
  refine ⟨_, rfl, _, rfl, _, rfl, by rw [tx_len]; exact sz (by omega), _, _, rfl, rfl, _, _, rfl, ?_⟩
  rw [e1]
  refine ⟨_, rfl, _, rfl, t.l, u.g, rfl, by omega, fun H1 s1 => ?_⟩
  have e2 : (if (0 : Int) > (if (u.k : Int) - (((tx (ct u.g t.l)).length : Nat) : Int) < (t.k : Int) - ((u.g - t.l.length : Nat) : Int) then (u.k : Int) - (((tx (ct u.g t.l)).length : Nat) : Int) else (t.k : Int) - ((u.g - t.l.length : Nat) : Int)) then (0 : Int)
      else (if (u.k : Int) - (((tx (ct u.g t.l)).length : Nat) : Int) < (t.k : Int) - ((u.g - t.l.length : Nat) : Int) then (u.k : Int) - (((tx (ct u.g t.l)).length : Nat) : Int) else (t.k : Int) - ((u.g - t.l.length : Nat) : Int)))
      = ((min (t.k - (u.g - t.l.length)) (u.k - (ct u.g t.l).length) : Nat) : Int) := by
    rw [tx_len]
    split <;> split <;> omega
  have hc := len_ct u.g t.l
  refine ⟨_, rfl, _, rfl, _, _, rfl, rfl, _, rfl, _, rfl, _, rfl, by rw [tx_len]; exact sz (by omega), _, _, rfl, rfl, _, _, rfl, _, _, rfl, ?_⟩
  rw [e2]
  refine ⟨_, rfl, _, rfl, _, _, rfl, rfl, _, rfl, _, rfl, _, rfl, ct u.g t.l, u.k, rfl, by omega, fun H2 s2 => ⟨_, rfl, _, _, rfl, rfl, ?_, ?_⟩⟩
  · rw [tx_len, tx_len, len_tp]
    exact sz (by omega)
  rw [tx_app]
  exact ⟨t.g + (u.g - t.l.length), _, _, rfl, fun H3 v s3 hv => q H3 v (s1.trans (s2.trans s3)) hv⟩
theorem ok_triple_of_step (D : Dn K mg "triple_of_step" s_triple_of_step P_triple_of_step) (g : Gx mg) (c_tidied : C8.Cal P w K mg base 1 "tidied" spTidied []) : C8.Cal P w K mg base 2 "triple_of_step" spTStep [] := by
  refine D.cal sc_triple_of_step (fun vs H Q E h => ?_) (fun f cdv A outer s H vs Q E hr h => ?_)
  · obtain ⟨v, p, c, rfl, ⟨a, b, rfl, ha, hb⟩, ok, q⟩ := h
    rfl
  obtain ⟨v, p, c, rfl, ⟨a, b, rfl, ha, hb⟩, ok, q⟩ := h
  have nd := sc_triple_of_step.nd
  refine ⟨_, (pss_cons (ps_if (pt_cmpR op_eq (pv 1) (C8.pe_gc rfl g.POP_STEP) (nomark _)) (pss_one (ps_ret (C8.pe_c c_tidied hr (by decide) rfl (pa_cons pe_int (pa_cons (pe_op op_sub (pe_ix ix_tup (pv 0) pe_int (fun _ _ => rfl)) pe_int) (pa_cons pe_str pa_nil)))))) pss_nil)
    (pss_one (ps_ret (pe_tup (pa_cons pe_int (pa_cons (pe_op op_sub (pe_ix ix_tup (pv 0) pe_int (fun _ _ => rfl)) pe_int) (pa_cons (pv 1) pa_nil))))))), ?_⟩
  have hr1 := ok.r1
  have e : (p.room : Int) - 1 = ((p.room - 1 : Nat) : Int) := by omega
  refine ⟨_, rfl, rfl, _, rfl, ite2 (fun z => ?_) (fun z => ?_)⟩
  · have z' : c = 45 := by
      have z1 := of_decide_eq_true z
      injection z1 with z2
      have z3 := str_inj.mp z2
      exact List.head_eq_of_cons_eq z3
    refine ⟨_, rfl, a, _, 0, _, rfl, rfl, SqT.of ha, rfl, _, _, rfl, rfl, ?_⟩
    refine ⟨1, p.room - 1, [], (by show [V.int 1, V.int ((p.room : Int) - 1), V.str ""] = _; rw [e, s_empty]; rfl), fun H1 v s1 hv => q H1 v s1 ?_⟩
    unfold tstep
    rw [if_pos z']
    exact hv
  · have z' : ¬ c = 45 := fun y => by
      subst y
      exact z (decide_eq_true rfl)
    refine ⟨_, rfl, a, _, 0, _, rfl, rfl, SqT.of ha, rfl, _, _, rfl, rfl, _, rfl, by show 3 ≤ sizeLine; decide, fun x hx => ?_⟩
    refine q _ _ (Same.new hx _) ⟨x, rfl, ?_⟩
    unfold tstep
    rw [if_neg z', upd_same]
    exact congrArg (fun z => some (HO.tup [V.int 0, V.int z, V.str (tx [c])])) e
theorem ok_law_take (D : Dn K mg "_law_take" s_law_take P_law_take) (g : Gx mg) : C8.Cal P w K mg base 1 "_law_take" spTake [] := by
  refine D.cal sc_law_take (fun vs H Q E h => ?_) (fun f cdv A outer s H vs Q E hr h => ?_)
  · obtain ⟨p, q, ns, z, n, rfl, B, h0, h9, kk⟩ := h
    rfl
  obtain ⟨p, q, ns, z, n, rfl, B, h0, h9, kk⟩ := h
  have nd := sc_law_take.nd
  refine ⟨_, (pss_cons (ps_if (pt_cmpR (op_eqD hr.units) (pe_ix ix_list (pv 0) pe_int (fun _ _ => rfl)) (pe_lst pa_nil) (nomark _)) (pss_cons (ps_asg (pe_op op_modN (pe_op op_mul (pe_ix ix_list (pv 0) pe_int (fun _ _ => rfl)) pe_int) pe_int) (pg_sub (pv 0) pe_int set_list))
    (pss_one (ps_ret (pe_op op_modN (pe_op op_fdivN (pe_ix ix_list (pv 0) pe_int (fun _ _ => rfl)) pe_int) (pv 1))))) pss_nil)
    (pss_cons (ps_set (i := 2) nd rfl (.inl rfl) (pe_ix ix_list (pe_ix ix_list (pv 0) pe_int (fun _ _ => rfl)) pe_int (fun _ _ => rfl)))
    (pss_cons (ps_asg (pe_op op_fdivW (pv 2) (pv 1)) (pg_sub (pe_ix ix_list (pv 0) pe_int (fun _ _ => rfl)) pe_int set_list))
    (pss_cons (ps_if (PW.pt (pw_or (pt_cmpR op_eq (pe_ix ix_list (pe_ix ix_list (pv 0) pe_int (fun _ _ => rfl)) pe_int (fun _ _ => rfl)) pe_int (nomark _)) (pw_or1 (pt_cmpR op_eq (pe_ix ix_list (pe_ix ix_list (pv 0) pe_int (fun _ _ => rfl)) pe_int (fun _ _ => rfl)) (pe_un un_neg pe_int) (nomark _))))) (pss_one (ps_expr (pe_bm PySem.F.plainAttrs_list PySem.F.slot_list_pop PySem.F.type_list_pop mt_popAt (pe_ix ix_list (pv 0) pe_int (fun _ _ => rfl)) (pa_cons pe_int pa_nil)))) pss_nil)
    (pss_one (ps_ret (pe_op op_modN (pv 2) (pv 1)))))))), ?_⟩
  refine ⟨_, rfl, p, _, 0, _, rfl, rfl, SqL.of B.b, rfl, by show 0 ≤ sizeLine; decide, fun D hD => ?_⟩
  have s1 : Same H (upd H D (.lst [])) := Same.new hD _
  have B1 := B.mono s1
  refine ⟨.list (ns.map PyData.int), .list [], .lst (SqL.of B1.l) (dpAll ns), .lst (SqL.of upd_same) .nil, shp ns, shp [], _, rfl, ?_⟩
  cases ns with
  | nil =>
    refine iteT ?_
    refine ⟨_, rfl, p, _, 1, _, rfl, rfl, SqL.of B1.b, rfl, _, _, rfl, rfl, .inr ⟨by decide, by decide⟩, _, _, rfl, rfl, by show ((2147483647 : Int) ≠ 0); decide, ?_⟩
    refine ⟨_, rfl, p, _, 1, 1, rfl, rfl, B1.b, rfl, ?_⟩
    refine ⟨_, rfl, p, _, 1, _, rfl, rfl, SqL.of upd_same, rfl, _, _, rfl, rfl, ⟨by decide, by decide⟩, _, rfl, _, _, rfl, rfl, by show n ≠ 0; omega, ?_⟩
    obtain ⟨f1, f2⟩ := fmod_in (x := ((z * 48271).fmod 2147483647).fdiv 7) h0
    refine kk _ [] ((z * 48271).fmod 2147483647) _ f1 f2 ⟨upd_same, by rw [upd_ne B.ne.symm]; exact B1.l, B.ne⟩ fun b o e e1 e2 => ?_
    rw [upd_ne e1]
    exact s1 _ _ e
  | cons x r =>
    refine iteF ?_
    refine ⟨_, rfl, p, _, 0, _, rfl, rfl, SqL.of B1.b, rfl, q, _, 0, _, rfl, rfl, SqL.of B1.l, at0, ?_⟩
    refine ⟨_, rfl, _, rfl, _, _, rfl, rfl, divW h0 h9, ?_⟩
    refine ⟨_, rfl, p, _, 0, _, rfl, rfl, SqL.of B1.b, rfl, q, _, 0, 0, rfl, rfl, B1.l, ix0, ?_⟩
    have B2 : BoxAt (upd (upd H D (.lst [])) q (.lst (((x / n) :: r).map V.int))) p q ((x / n) :: r) z := ⟨by rw [upd_ne B.ne]; exact B1.b, upd_same, B.ne⟩
    have k2 : Keep p q H (upd (upd H D (.lst [])) q (.lst (((x / n) :: r).map V.int))) := fun b o e e1 e2 => by
      rw [upd_ne e2]
      exact s1 _ _ e
    obtain ⟨f1, f2⟩ := fmod_in (x := x) h0
    have pop : ∀ (T : Prop), (∀ (ns' : List Int) (H' : Hp), BoxAt H' p q ns' z → Keep p q H H' → T) → T := fun T h => h _ _ B2 k2
    have fin : ∀ (ns' : List Int) (H' : Hp), BoxAt H' p q ns' z → Keep p q H H' → tRet (tOp (rI (fun _ j => j ≠ 0) fun i j => V.int (i.fmod j)) (tVar 2) (tVar 1)) { nx := fun _ H' => Q V.non H', rt := Q } [some (.ref p), some (.int n), some (.int x)] H' := fun ns' H' b k =>
      ⟨_, rfl, _, rfl, _, _, rfl, rfl, by show n ≠ 0; omega, kk _ ns' z H' f1 f2 b k⟩
    have B3 : BoxAt (upd (upd (upd H D (.lst [])) q (.lst (((x / n) :: r).map V.int))) q (.lst (r.map V.int))) p q r z := ⟨by rw [upd_ne B.ne]; exact B2.b, upd_same, B.ne⟩
    have k3 : Keep p q H (upd (upd (upd H D (.lst [])) q (.lst (((x / n) :: r).map V.int))) q (.lst (r.map V.int))) := fun b o e e1 e2 => by
      rw [upd_ne e2]
      exact k2 _ _ e e1 e2
    refine ⟨_, rfl, p, _, 0, _, rfl, rfl, SqL.of B2.b, rfl, q, _, 0, _, rfl, rfl, SqL.of B2.l, at0, rfl, _, rfl, ite2 (fun c => ?_) (fun c => ?_)⟩
    · refine iteT ?_
      refine ⟨_, rfl, p, _, 0, _, rfl, rfl, SqL.of B2.b, rfl, .inl ⟨rfl, _, SqL.of B2.l⟩, q, _, 0, 0, _, rfl, rfl, B2.l, by decide, by decide, sq0, rfl, ?_⟩
      exact fin r _ B3 k3
    · refine ⟨_, rfl, p, _, 0, _, rfl, rfl, SqL.of B2.b, rfl, q, _, 0, _, rfl, rfl, SqL.of B2.l, at0, _, rfl, rfl, _, rfl, ite2 (fun c2 => ?_) (fun c2 => ?_)⟩
      · refine ⟨_, rfl, p, _, 0, _, rfl, rfl, SqL.of B2.b, rfl, .inl ⟨rfl, _, SqL.of B2.l⟩, q, _, 0, 0, _, rfl, rfl, B2.l, by decide, by decide, sq0, rfl, ?_⟩
        exact fin r _ B3 k3
      · exact fin _ _ B2 k2
theorem ok_law_begun (D : Dn K mg "_law_begun" s_law_begun P_law_begun) (g : Gx mg) : C8.Cal P w K mg base 1 "_law_begun" (spLBegun K) [] := by
  refine D.cal sc_law_begun (fun vs H Q E h => ?_) (fun f cdv A outer s H vs Q E hr h => ?_)
  · obtain ⟨a, ns, rfl, hS, h63, kk⟩ := h
    rfl
  obtain ⟨a, ns, rfl, hS, h63, kk⟩ := h
  have nd := sc_law_begun.nd
  refine ⟨_, (pss_cons (ps_set (i := 1) nd rfl (.inl rfl) pe_int)
    (pss_cons (ps_for PassesOwn.never rfl (pi_list (pv 0)) (pg_name (i := 2) nd rfl (.inl rfl)) (pss_one (ps_set (i := 1) nd rfl (.inl rfl) (pe_op op_modN (pe_op op_add (pe_op op_add (pe_op op_mul (pv 1) pe_int) (pe_op op_mul (pv 2) pe_int)) pe_int) pe_int))))
    (pss_one (ps_ret (pe_lst (pa_cons (pe_callTy call_list_of rfl g.list b_list (pa_cons (pv 0) pa_nil)) (pa_cons (pe_op op_mul (pv 1) (pe_callTy call_int1 rfl g.int b_int (pa_cons (pe_cmpR op_gt (pe_callB call_len_seq rfl g.len PySem.boot_len (pa_cons (pv 0) pa_nil)) pe_int (nomark _)) pa_nil))) pa_nil))))))), ?_⟩
  have hc : ∀ k : Bool, -(2 ^ 64) < (if k = true then (1 : Int) else 0) ∧ (if k = true then (1 : Int) else 0) < 2 ^ 64 := fun k => by
    cases k <;> decide
  refine ⟨_, rfl, a, rfl, ⟨_, hS⟩, for_list (K := K) (a := a) (xs := ns.map V.int) (fun i σ H2 => (∃ (z : Int) (o : Option V), σ = [some (.ref a), some (.int z), o]) ∧ H2 = H)
    ⟨⟨0, none, rfl⟩, rfl⟩ (fun i σ H2 _ h2 => by rw [h2.2]; exact hS) ?_ ?_⟩
  · rintro i x σ H2 hx ⟨⟨z, o, rfl⟩, rfl⟩
    rw [List.getElem?_map] at hx
    obtain ⟨y, hy, rfl⟩ := Option.map_eq_some_iff.mp hx
    refine ⟨_, rfl, _, _, rfl, rfl, .inr ⟨by decide, by decide⟩, _, rfl, _, _, rfl, rfl, .inr ⟨by decide, by decide⟩, _, _, rfl, rfl, _, _, rfl, rfl, _, _, rfl, rfl, by show ((2147483647 : Int) ≠ 0); decide, ?_⟩
    exact ⟨⟨_, _, rfl⟩, rfl⟩
  · rintro σ H2 ⟨⟨z, o, rfl⟩, rfl⟩
    refine ⟨_, rfl, a, _, rfl, .inl hS, fun l hl => ?_⟩
    refine ⟨_, rfl, _, rfl, a, _, rfl, .inl ((Same.new hl _).seq hS), _, _, rfl, rfl, .inr ⟨_, rfl, _, _, rfl, rfl, .inr (hc _), by show 2 ≤ sizeLine; decide, fun D hD => ?_⟩⟩
    have s1 := Same.new hl (.lst (ns.map V.int))
    have hD0 : H2 D = none := s1.free hD
    refine kk D l _ _ (s1.trans (Same.new hD _)) ⟨upd_same, (Same.new hD _) _ _ upd_same, fun e => ?_⟩ hD0 hl
    subst e
    rw [upd_same] at hD
    cases hD
theorem ok_law_step (D : Dn K mg "_law_step" s_law_step P_law_step) (g : Gx mg) : C8.Cal P w K mg base 1 "_law_step" spLStep [] := by
  refine D.cal sc_law_step (fun vs H Q E h => ?_) (fun f cdv A outer s H vs Q E hr h => ?_)
  · obtain ⟨v, p, l, c, rfl, ⟨a, b, rfl, ha, hb⟩, ok, hl, q⟩ := h
    rfl
  obtain ⟨v, p, l, c, rfl, ⟨a, b, rfl, ha, hb⟩, ok, hl, q⟩ := h
  have nd := sc_law_step.nd
  refine ⟨_, (pss_cons (ps_if (pt_cmpR op_eq (pv 2) pe_str (nomark _)) (pss_one (ps_ret (pe_slice sl_str (pv 1) po_none (po_some (pe_un un_neg pe_int))))) pss_nil)
    (pss_one (ps_ret (pe_slice sl_str (pe_op op_add_str (pv 1) (pv 2)) (po_some (pe_un un_neg (pe_ix ix_tup (pv 0) pe_int (fun _ _ => rfl)))) po_none)))), ?_⟩
  have h1 := ok.r1
  have h9 := ok.r9
  refine ⟨_, rfl, rfl, _, rfl, ite2 (fun z => ?_) (fun z => ?_)⟩
  · have z' : c = 45 := by
      have z1 := of_decide_eq_true z
      injection z1 with z2
      exact List.head_eq_of_cons_eq (str_inj.mp (z2.trans s_minus))
    refine ⟨_, rfl, _, rfl, _, rfl, _, rfl, by rw [tx_len]; exact sz (by omega), ?_⟩
    have e : cutS (tx l) none (some (-1)) = tx (step p.room l c) := by
      unfold step
      rw [if_pos z']
      exact cut_but (l := l) (n := 1) (by omega)
    have q1 := q H (Same.refl H)
    rw [← e] at q1
    exact q1
  · have z' : ¬ c = 45 := fun y => by
      subst y
      exact z (decide_eq_true (congrArg V.str s_minus.symm))
    refine ⟨_, rfl, _, rfl, _, _, rfl, rfl, by rw [tx_len, tx_len]; exact sz (by simp; omega), ?_⟩
    rw [tx_app]
    refine ⟨_, rfl, a, _, 0, _, rfl, rfl, SqT.of ha, rfl, _, rfl, _, rfl, _, rfl, by rw [tx_len]; exact sz (by simp; omega), ?_⟩
    have e : cutS (tx (l ++ [c])) (some (-(p.room : Int))) none = tx (step p.room l c) := by
      unfold step
      rw [if_neg z']
      exact cut_back (l := l ++ [c]) (n := p.room) (by omega)
    have q1 := q H (Same.refl H)
    rw [← e] at q1
    exact q1
theorem ok_law_gone (D : Dn K mg "_law_gone" s_law_gone P_law_gone) (g : Gx mg) (c_law_step : C8.Cal P w K mg base 1 "_law_step" spLStep []) : C8.Cal P w K mg base 2 "_law_gone" spLGone [] := by
  refine D.cal sc_law_gone (fun vs H Q E h => ?_) (fun f cdv A outer s H vs Q E hr h => ?_)
  · obtain ⟨v, p, l, st, rfl, ⟨a, b, rfl, ha, hb⟩, ok, hl, q⟩ := h
    rfl
  obtain ⟨v, p, l, st, rfl, ⟨a, b, rfl, ha, hb⟩, ok, hl, q⟩ := h
  have nd := sc_law_gone.nd
  refine ⟨_, (pss_cons (ps_for PassesOwn.never rfl (pi_str (pv 2)) (pg_name (i := 3) nd rfl (.inl rfl)) (pss_one (ps_set (i := 1) nd rfl (.inl rfl) (C8.pe_c c_law_step hr (by decide) rfl (pa_cons (pv 0) (pa_cons (pv 1) (pa_cons (pv 3) pa_nil)))))))
    (pss_one (ps_ret (pv 1)))), ?_⟩
  have h9 := ok.r9
  have hn : (tx st).cps.size = st.length := tx_len st
  refine ⟨_, rfl, _, rfl, for_it (walk_str (z := tx st)) (fun i σ H2 => ∃ (o : Option V), σ = [some (.ref a), some (.str (tx (gone p.room l (st.take i)))), some (.str (tx st)), o] ∧ Same H H2)
    ⟨none, rfl, Same.refl H⟩ (fun _ _ _ _ _ => trivial) ?_ ?_⟩
  · rintro i x σ H2 H3 hi ⟨o, rfl, s2⟩ ⟨rfl, c, hc, rfl⟩
    have hc' : st[i]? = some c := by
      rw [← hc]
      simp [tx]
    have hlen := gone_len (room := p.room) (st.take i) l hl
    refine ⟨_, rfl, _, rfl, _, rfl, _, p, gone p.room l (st.take i), c, rfl, ⟨a, b, rfl, s2 _ _ ha, PrAt.mono hb s2⟩, ok, by omega, fun H4 s4 => ?_⟩
    refine ⟨some (.str ⟨#[c]⟩), ?_, s2.trans s4⟩
    have e : gone p.room l (st.take (i + 1)) = step p.room (gone p.room l (st.take i)) c := by
      unfold gone
      rw [List.take_add_one, hc', List.foldl_append]
      rfl
    rw [e]
    rfl
  · rintro σ H2 ⟨o, rfl, s2⟩
    rw [hn, List.take_of_length_le (Nat.le_refl _)]
    exact ⟨_, rfl, q H2 s2⟩
theorem ok_law_by (D : Dn K mg "_law_by" s_law_by P_law_by) (g : Gx mg) : C8.Cal P w K mg base 1 "_law_by" spLBy [] := by
  refine D.cal sc_law_by (fun vs H Q E h => ?_) (fun f cdv A outer s H vs Q E hr h => ?_)
  · obtain ⟨u, t, l, rfl, ⟨a, rfl, ha⟩, hl, ht, q⟩ := h
    rfl
  obtain ⟨u, t, l, rfl, ⟨a, rfl, ha⟩, hl, ht, q⟩ := h
  have nd := sc_law_by.nd
  refine ⟨_, (pss_cons (ps_asg (pv 0) (pg_tup (by rfl) (pgs_cons (pg_name (i := 2) nd rfl (.inl rfl)) (pgs_cons (pg_name (i := 3) nd rfl (.inl rfl)) (pgs_cons (pg_name (i := 4) nd rfl (.inl rfl)) pgs_nil)))))
    (pss_cons (ps_set (i := 5) nd rfl (.inl rfl) (pe_slice sl_str (pv 1) po_none (po_some (pe_callB (call_max2 rfl) rfl g.max b_max (pa_cons pe_int (pa_cons (pe_op op_sub (pe_callB call_len_str rfl g.len PySem.boot_len (pa_cons (pv 1) pa_nil)) (pv 2)) pa_nil))))))
    (pss_one (ps_ret (pe_op op_add_str (pe_slice sl_str (pv 5) (po_some (pe_callB (call_max2 rfl) rfl g.max b_max (pa_cons pe_int (pa_cons (pe_op op_sub (pe_callB call_len_str rfl g.len PySem.boot_len (pa_cons (pv 5) pa_nil)) (pv 3)) pa_nil)))) po_none) (pv 4)))))), ?_⟩
  refine ⟨_, rfl, a, _, rfl, SqT.of ha, rfl, _, _, rfl, _, _, rfl, _, _, rfl, rfl, ?_⟩
  have e : ∀ (m : Nat) (x : List Nat), (if (((tx x).length : Nat) : Int) - (m : Int) > 0 then (((tx x).length : Nat) : Int) - (m : Int) else 0) = ((x.length - m : Nat) : Int) := fun m x => by
    rw [tx_len]
    split <;> omega
  refine ⟨_, rfl, _, rfl, _, rfl, by rw [tx_len]; exact sz (by omega), _, rfl, _, _, rfl, rfl, _, _, rfl, ?_⟩
  rw [e]
  refine ⟨_, rfl, _, rfl, by rw [tx_len]; exact sz (by omega), ?_⟩
  rw [cut_to (Nat.sub_le ..)]
  have hc := len_ct t.g l
  have e2 : l.take (l.length - t.g) = ct t.g l := rfl
  rw [e2]
  refine ⟨_, rfl, _, rfl, _, rfl, by rw [tx_len]; exact sz (by omega), _, rfl, _, _, rfl, rfl, _, _, rfl, ?_⟩
  rw [e]
  refine ⟨_, rfl, _, rfl, by rw [tx_len]; exact sz (by omega), ?_⟩
  rw [cut_from (Nat.sub_le ..)]
  have e3 : (ct t.g l).drop ((ct t.g l).length - t.k) = tp t.k (ct t.g l) := rfl
  rw [e3]
  have hp := len_tp t.k (ct t.g l)
  refine ⟨_, rfl, _, _, rfl, rfl, by rw [tx_len, tx_len]; exact sz (by omega), ?_⟩
  rw [tx_app]
  exact q H (Same.refl H)
/-- [a, b][take(box, 2)] -/
theorem pick2 {K : PySem.W.Frag} {i : Nat} {σ : L2.St} {H : Hp} {Q : VK} {p q : Addr} {ns : List Int} {z : Int} {x y : V} {t1 t2 : TE} (hσ : σ[i]? = some (some (.ref p))) (B : BoxAt H p q ns z)
    (h1 : ∀ H Q, Q x H → t1 σ H Q) (h2 : ∀ H Q, Q y H → t2 σ H Q)
    (h : ∀ (v : V) (ns' : List Int) (z' : Int) (H' : Hp), (v = x ∨ v = y) → BoxAt H' p q ns' z' → Keep p q H H' → Q v H') :
    tOp (rIxL K) (tLst (tCons t1 (tCons t2 tNil))) (tCall spTake [] C8.E0 (tCons (tVar i) (tCons (tC (.int 2)) tNil))) σ H Q := by
  refine h1 _ _ (h2 _ _ ⟨by show 2 ≤ sizeLine; decide, fun D hD => ?_⟩)
  have s1 : Same H (upd H D (.lst [x, y])) := Same.new hD _
  refine ⟨_, hσ, p, q, ns, z, 2, rfl, B.mono s1, by decide, p9 (by decide), fun r ns' z' H' r0 r1 B' k' => ?_⟩
  have k2 : Keep p q H H' := (Keep.of s1).trans k'
  have hf := B.fresh hD
  have hL : H' D = some (.lst [x, y]) := k' _ _ upd_same hf.1 hf.2
  have hr : r = 0 ∨ r = 1 := by omega
  rcases hr with rfl | rfl
  · exact ⟨D, _, 0, x, rfl, rfl, SqL.of hL, rfl, h _ _ _ _ (.inl rfl) B' k2⟩
  · exact ⟨D, _, 1, y, rfl, rfl, SqL.of hL, rfl, h _ _ _ _ (.inr rfl) B' k2⟩
theorem tC_q {v : V} {σ : L2.St} : ∀ (H : Hp) (Q : VK), Q v H → tC v σ H Q := fun _ _ h => h
theorem ok_law_plan (D : Dn K mg "_law_plan" s_law_plan P_law_plan) (g : Gx mg) (c_law_take : C8.Cal P w K mg base 1 "_law_take" spTake []) : C8.Cal P w K mg base 2 "_law_plan" spLPlan [] := by
  refine D.cal sc_law_plan (fun vs H Q E h => ?_) (fun f cdv A outer s H vs Q E hr h => ?_)
  · obtain ⟨p, q, ns, z, r, s0, rfl, B, r1, r9, s1, s4, kk⟩ := h
    rfl
  obtain ⟨p, q, ns, z, r, s0, rfl, B, r1, r9, s1, s4, kk⟩ := h
  have nd := sc_law_plan.nd
  refine ⟨_, (pss_cons (ps_set (i := 3) nd rfl (.inl rfl) (pe_op op_add pe_int (C8.pe_c c_law_take hr (by decide) rfl (pa_cons (pv 0) (pa_cons (pv 2) pa_nil)))))
    (pss_cons (ps_set (i := 4) nd rfl (.inl rfl) (pe_callTy call_tupleF rfl g.tuple b_tuple (pa_cons (pe_lc (own := [("_law_k", 5)]) rfl nd (pi_range1 (by rfl) g.range (pa_cons (pv 3) pa_nil)) (blkOk_by (own := [("_law_k", 5)]) (N := N_law_plan) (sc := defScope s_law_plan) (by decide +kernel)) (fun _ _ _ _ _ => (pg_name (i := 5) nd rfl (.inl rfl))) (fun _ _ _ _ _ => pts_nil) (fun _ _ _ _ _ => (pe_op op_add pe_int (C8.pe_c c_law_take (by exact hr) (by decide) rfl (pa_cons (pv 0) (pa_cons (pe_ix (r := rIxL K) ix_list (pe_lst (pa_cons pe_int (pa_cons pe_int pa_nil))) (C8.pe_c c_law_take (by exact hr) (by decide) rfl (pa_cons (pv 0) (pa_cons pe_int pa_nil))) (fun _ _ => rfl)) pa_nil)))))) pa_nil)))
    (pss_one (ps_ret (pe_tup (pa_cons (pe_op op_add pe_int (C8.pe_c c_law_take hr (by decide) rfl (pa_cons (pv 0) (pa_cons (pv 1) pa_nil)))) (pa_cons (pv 3) (pa_cons (pv 4) (pa_cons (pe_op op_add pe_int (C8.pe_c c_law_take hr (by decide) rfl (pa_cons (pv 0) (pa_cons (pe_ix ix_list (pe_lst (pa_cons pe_int (pa_cons pe_int pa_nil))) (C8.pe_c c_law_take hr (by decide) rfl (pa_cons (pv 0) (pa_cons pe_int pa_nil))) (fun _ _ => rfl)) pa_nil)))) pa_nil))))))))), ?_⟩
  refine ⟨_, rfl, _, rfl, p, q, ns, z, s0, rfl, B, by omega, p9 (by omega), fun m ns1 z1 H1 m0 m1 B1 k1 => ⟨_, _, rfl, rfl, ?_⟩⟩
  -- the prices
  obtain ⟨M, rfl⟩ : ∃ M : Nat, m = (M : Int) := ⟨m.toNat, by omega⟩
  refine ⟨_, rfl, ?_⟩
  refine ⟨1 + (M : Int), rfl, by omega, by omega, fun D hD => ?_⟩
  have hf := B1.fresh hD
  have sD := Same.new hD (.lst [])
  refine lc_range (lo := 0) (fun i H2 => ∃ (ps : List Int) (ns2 : List Int) (z2 : Int), BoxAt H2 p q ns2 z2 ∧ Keep p q H1 H2 ∧ H2 D = some (.lst (ps.map V.int)) ∧ ps.length = i ∧ ∀ x ∈ ps, 1 ≤ x ∧ x ≤ 99)
    ⟨[], ns1, z1, B1.mono sD, Keep.of sD, upd_same, rfl, fun x hx => by simp at hx⟩ ?_ ?_
  · rintro i H2 hi ⟨ps, ns2, z2, B2, k2, hD2, hl, hps⟩
    refine ⟨rfl, ?_⟩
    refine ⟨_, rfl, pick2 (x := .int 3) (y := .int 99) rfl B2 tC_q tC_q fun v ns3 z3 H3 hv B3 k3 => ?_⟩
    have hv' : ∃ n : Int, v = .int n ∧ 0 < n ∧ n ≤ 99 := by
      rcases hv with rfl | rfl
      · exact ⟨3, rfl, by decide, by decide⟩
      · exact ⟨99, rfl, by decide, by decide⟩
    obtain ⟨n, rfl, n0, n9⟩ := hv'
    refine ⟨p, q, ns3, z3, n, rfl, B3, n0, p9 (by omega), fun d ns4 z4 H4 d0 d1 B4 k4 => ⟨_, _, rfl, rfl, ?_⟩⟩
    have hD4 : H4 D = some (.lst (ps.map V.int)) := k4 _ _ (k3 _ _ hD2 hf.1 hf.2) hf.1 hf.2
    refine ⟨_, hD4, by rw [List.length_map, hl]; exact szl (by omega), ps ++ [1 + d], ns4, z4, ⟨by rw [upd_ne hf.1.symm]; exact B4.b, by rw [upd_ne hf.2.symm]; exact B4.l, B4.ne⟩, fun b o e e1 e2 => ?_, ?_, by simp [hl], fun x hx => ?_⟩
    · rw [upd_ne (ne_of_none e hD)]
      exact k4 _ _ (k3 _ _ (k2 _ _ e e1 e2) e1 e2) e1 e2
    · rw [upd_same, List.map_append]
      rfl
    · rcases List.mem_append.mp hx with h | h
      · exact hps x h
      · have : x = 1 + d := by simpa using h
        omega
  · rintro H2 ⟨ps, ns2, z2, B2, k2, hD2, hl, hps⟩
    have hl' : ps.length = M + 1 := by omega
    refine ⟨D, _, rfl, SqL.of hD2, fun T obT hobT hT => ?_⟩
    have sT := Same.new hT (.frz obT (.tup (ps.map V.int)))
    have BT := B2.mono sT
    refine ⟨_, rfl, _, rfl, p, q, ns2, z2, r, rfl, BT, by omega, p9 (by omega), fun a ns3 z3 H3 a0 a1 B3 k3 => ⟨_, _, rfl, rfl, ?_⟩⟩
    refine ⟨_, rfl, _, rfl, _, rfl, pick2 (x := .int 3) (y := .int 99) rfl B3 tC_q tC_q fun v ns4 z4 H4 hv B4 k4 => ?_⟩
    have hv' : ∃ n : Int, v = .int n ∧ 0 < n ∧ n ≤ 99 := by
      rcases hv with rfl | rfl
      · exact ⟨3, rfl, by decide, by decide⟩
      · exact ⟨99, rfl, by decide, by decide⟩
    obtain ⟨n, rfl, n0, n9⟩ := hv'
    refine ⟨p, q, ns4, z4, n, rfl, B4, n0, p9 (by omega), fun c ns5 z5 H5 c0 c1 B5 k5 => ⟨_, _, rfl, rfl, ?_⟩⟩
    refine ⟨by show 4 ≤ sizeLine; decide, fun U hU => ?_⟩
    have sU := Same.new hU (.tup [.int (1 + a), .int (1 + (M : Int)), .ref T, .int (1 + c)])
    obtain ⟨A0, rfl⟩ : ∃ A0 : Nat, a = (A0 : Int) := ⟨a.toNat, by omega⟩
    refine kk ⟨A0 + 1, M + 1, ps, 1 + c⟩ _ ns5 z5 _ ⟨by show 1 ≤ A0 + 1; omega, by show A0 + 1 ≤ 9; omega, by show 1 ≤ M + 1; omega, by show M + 1 ≤ 4; omega, hl', hps, by show 1 ≤ 1 + c; omega, by show 1 + c ≤ 99; omega⟩
      (by show A0 + 1 ≤ r; omega) (by show M + 1 ≤ s0; omega) ⟨U, T, rfl, ?_, ?_⟩ (B5.mono sU) ?_
    · rw [upd_same]
      have e1 : (1 : Int) + (A0 : Int) = ((A0 + 1 : Nat) : Int) := by omega
      have e2 : (1 : Int) + (M : Int) = ((M + 1 : Nat) : Int) := by omega
      show some (HO.tup [V.int (1 + (A0 : Int)), V.int (1 + (M : Int)), V.ref T, V.int (1 + c)]) = _
      rw [e1, e2]
    · exact ⟨obT, hobT, sU _ _ ((k5.tups B4).f _ _ _ ((k4.tups B3).f _ _ _ ((k3.tups BT).f _ _ _ upd_same)))⟩
    · refine (k1.trans (k2.trans ((Keep.of sT).trans (k3.trans (k4.trans (k5.trans (Keep.of sU)))))))
theorem iteD {c A B : Prop} [Decidable c] (hc : c) (h : A) : if decide c = true then A else B := by
  rw [decide_eq_true hc]
  exact iteT h
theorem iteDF {c A B : Prop} [Decidable c] (hc : ¬ c) (h : B) : if decide c = true then A else B := by
  rw [decide_eq_false hc]
  exact iteF h
theorem givD {x : V} {H : Hp} {Q : VK} (q : giv (.bl true) H Q) : Q (.bl (decide (x = x))) H := by
  rw [decide_eq_true rfl]
  exact q H (Same.refl H)
theorem ok_law_alike (D : Dn K mg "_law_alike" s_law_alike P_law_alike) (g : Gx mg) : ∀ n, C8.Cal P w K mg base n "_law_alike" (spAlike n) []
  | 0 => by
    obtain ⟨f, fd, F, hm, b⟩ := D.ex
    have no : ∀ vs H Q E, ¬ spAlike 0 vs H Q E := fun vs H Q E h => by
      obtain ⟨v, w, _, h, _⟩ := h
      exact h
    exact ⟨f, fd, _, [], ⟨fun vs H Q E h => absurd h (no vs H Q E), fun A outer s H args us vs Q E _ _ _ _ h => absurd h (no vs H Q E)⟩, hm, F.kp, b, .nil⟩
  | n + 1 => by
    have c_law_alike := ok_law_alike D g n
    refine D.cal sc_law_alike (fun vs H Q E h => ?_) (fun f cdv A outer s H vs Q E hr h => ?_)
    · obtain ⟨v, w, rfl, _⟩ := h
      rfl
    obtain ⟨v, w, rfl, al, q⟩ := h
    have nd := sc_law_alike.nd
    refine ⟨_, (pss_cons (ps_if (pt_cmpR op_isN (pv 1) pe_non (nomark _)) (pss_one (ps_ret (pe_cmpR op_isN (pv 0) pe_non (nomark _)))) pss_nil)
    (pss_cons (ps_if (pt_val (pe_callB call_isi rfl g.isi b_isi (pa_cons (pv 1) (pa_cons (pe_bltn (v := .ty "bool") rfl g.bool b_bool rfl) pa_nil)))) (pss_one (ps_ret (pe_and (pe_callB call_isi rfl g.isi b_isi (pa_cons (pv 0) (pa_cons (pe_bltn (v := .ty "bool") rfl g.bool b_bool rfl) pa_nil))) (pe_one (pe_cmpR op_eq (pv 0) (pv 1) (nomark _)))))) pss_nil)
    (pss_cons (ps_if (pt_val (pe_callB call_isi rfl g.isi b_isi (pa_cons (pv 1) (pa_cons (pe_bltn (v := .ty "int") rfl g.int b_int rfl) pa_nil)))) (pss_one (ps_ret (pe_and (pe_callB call_isi rfl g.isi b_isi (pa_cons (pv 0) (pa_cons (pe_bltn (v := .ty "int") rfl g.int b_int rfl) pa_nil))) (pe_and (pe_not (pe_callB call_isi rfl g.isi b_isi (pa_cons (pv 0) (pa_cons (pe_bltn (v := .ty "bool") rfl g.bool b_bool rfl) pa_nil)))) (pe_one (pe_cmpR op_eq (pv 0) (pv 1) (nomark _))))))) pss_nil)
    (pss_cons (ps_if (pt_val (pe_callB call_isi rfl g.isi b_isi (pa_cons (pv 1) (pa_cons (pe_bltn (v := .ty "str") rfl g.str b_str rfl) pa_nil)))) (pss_one (ps_ret (pe_and (pe_callB call_isi rfl g.isi b_isi (pa_cons (pv 0) (pa_cons (pe_bltn (v := .ty "str") rfl g.str b_str rfl) pa_nil))) (pe_one (pe_cmpR op_eq (pv 0) (pv 1) (nomark _)))))) pss_nil)
    (pss_cons (ps_if (PW.pt (pw_or (pt_cmpR op_ne (pe_callB call_isi rfl g.isi b_isi (pa_cons (pv 1) (pa_cons (pe_bltn (v := .ty "tuple") rfl g.tuple b_tuple rfl) pa_nil))) (pe_callB call_isi rfl g.isi b_isi (pa_cons (pv 0) (pa_cons (pe_bltn (v := .ty "tuple") rfl g.tuple b_tuple rfl) pa_nil))) (nomark _)) (pw_or1 (pt_cmpR op_ne (pe_callB call_isi rfl g.isi b_isi (pa_cons (pv 1) (pa_cons (pe_bltn (v := .ty "list") rfl g.list b_list rfl) pa_nil))) (pe_callB call_isi rfl g.isi b_isi (pa_cons (pv 0) (pa_cons (pe_bltn (v := .ty "list") rfl g.list b_list rfl) pa_nil))) (nomark _))))) (pss_one (ps_ret pe_bl)) pss_nil)
    (pss_cons (ps_if (pt_cmpR op_ne (pe_callB call_len rfl g.len PySem.boot_len (pa_cons (pv 0) pa_nil)) (pe_callB call_len rfl g.len PySem.boot_len (pa_cons (pv 1) pa_nil)) (nomark _)) (pss_one (ps_ret pe_bl)) pss_nil)
    (pss_cons (ps_for PassesOwn.never rfl (pi_range1 (by rfl) g.range (pa_cons (pe_callB call_len rfl g.len PySem.boot_len (pa_cons (pv 1) pa_nil)) pa_nil)) (pg_name (i := 2) nd rfl (.inl rfl)) (pss_one (ps_if (pt_not (pt_val (C8.pe_c c_law_alike hr (Nat.le_refl _) rfl (pa_cons (pe_ix ix_seq (pv 0) (pv 2) (fun _ _ => rfl)) (pa_cons (pe_ix ix_seq (pv 1) (pv 2) (fun _ _ => rfl)) pa_nil))))) (pss_one (ps_ret pe_bl)) pss_nil)))
    (pss_one (ps_ret pe_bl))))))))), ?_⟩
    rcases al with ⟨rfl, hs⟩ | ⟨a, b, xs, ys, rfl, rfl, ⟨ha, hb⟩ | ⟨ha, hb⟩, hl, hy, he⟩
    · cases v with
      | non =>
        refine ⟨_, rfl, rfl, _, rfl, iteD rfl ?_⟩
        exact ⟨_, rfl, rfl, givD q⟩
      | bl x =>
        refine ⟨_, rfl, rfl, _, rfl, iteDF (by intro z; cases z) ?_⟩
        refine ⟨_, rfl, _, _, _, _, _, rfl, .ty "bool", ty_bl, kit_ty k_bool_bool, _, rfl, iteT ?_⟩
        exact ⟨_, rfl, _, _, _, _, _, rfl, .ty "bool", ty_bl, kit_ty k_bool_bool, _, rfl, iteT ⟨_, rfl, _, rfl, rfl, givD q⟩⟩
      | int x =>
        refine ⟨_, rfl, rfl, _, rfl, iteDF (by intro z; cases z) ?_⟩
        refine ⟨_, rfl, _, _, _, _, _, rfl, .ty "bool", ty_int, kit_ty k_int_bool, _, rfl, iteF ?_⟩
        refine ⟨_, rfl, _, _, _, _, _, rfl, .ty "int", ty_int, kit_ty k_int_int, _, rfl, iteT ?_⟩
        refine ⟨_, rfl, _, _, _, _, _, rfl, .ty "int", ty_int, kit_ty k_int_int, _, rfl, iteT ?_⟩
        exact ⟨_, rfl, _, _, _, _, _, rfl, .ty "bool", ty_int, kit_ty k_int_bool, _, rfl, _, rfl, iteT ⟨_, rfl, _, rfl, rfl, givD q⟩⟩
      | str x =>
        refine ⟨_, rfl, rfl, _, rfl, iteDF (by intro z; cases z) ?_⟩
        refine ⟨_, rfl, _, _, _, _, _, rfl, .ty "bool", ty_str, kit_ty k_str_bool, _, rfl, iteF ?_⟩
        refine ⟨_, rfl, _, _, _, _, _, rfl, .ty "int", ty_str, kit_ty k_str_int, _, rfl, iteF ?_⟩
        refine ⟨_, rfl, _, _, _, _, _, rfl, .ty "str", ty_str, kit_ty k_str_str, _, rfl, iteT ?_⟩
        exact ⟨_, rfl, _, _, _, _, _, rfl, .ty "str", ty_str, kit_ty k_str_str, _, rfl, iteT ⟨_, rfl, _, rfl, rfl, givD q⟩⟩
      | ref x => exact hs.elim
      | ty x => exact hs.elim
      | flt x => exact hs.elim
      | byt x => exact hs.elim
    · -- tuples
      refine ⟨_, rfl, rfl, _, rfl, iteDF (by intro z; cases z) ?_⟩
      refine ⟨_, rfl, _, _, _, _, _, rfl, .ty "bool", ty_tup hb, kit_ty k_tup_bool, _, rfl, iteF ?_⟩
      refine ⟨_, rfl, _, _, _, _, _, rfl, .ty "int", ty_tup hb, kit_ty k_tup_int, _, rfl, iteF ?_⟩
      refine ⟨_, rfl, _, _, _, _, _, rfl, .ty "str", ty_tup hb, kit_ty k_tup_str, _, rfl, iteF ?_⟩
      refine ⟨_, rfl, _, _, _, _, _, rfl, .ty "tuple", ty_tup hb, kit_ty k_tup_tup, _, rfl, _, _, _, _, _, rfl, .ty "tuple", ty_tup ha, kit_ty k_tup_tup, rfl, _, rfl, iteNS rfl ?_⟩
      refine ⟨_, rfl, _, _, _, _, _, rfl, .ty "list", ty_tup hb, kit_ty k_tup_lst, _, rfl, _, _, _, _, _, rfl, .ty "list", ty_tup ha, kit_ty k_tup_lst, rfl, _, rfl, iteNS rfl ?_⟩
      refine ⟨_, rfl, _, _, rfl, .inr ⟨xs, SqT.of ha, rfl⟩, _, rfl, _, _, rfl, .inr ⟨ys, SqT.of hb, rfl⟩, rfl, _, rfl, iteNS (by rw [hl]) ?_⟩
      refine ⟨_, rfl, _, _, rfl, .inr ⟨ys, SqT.of hb, rfl⟩, _, rfl, by omega, by omega, ?_⟩
      refine for_range (lo := 0) (fun i σ H2 => ∃ (o : Option V), σ = [some (.ref a), some (.ref b), o] ∧ Same H H2) ⟨none, rfl, Same.refl H⟩ ?_ ?_
      · rintro i σ H2 hi ⟨o, rfl, s2⟩
        have hi' : i < ys.length := by omega
        have ex : xs[i]? = some xs[i] := List.getElem?_eq_getElem (by omega)
        have ey : ys[i]? = some ys[i] := List.getElem?_eq_getElem hi'
        refine ⟨_, rfl, _, rfl, .inr <| .inl ⟨a, xs, 0 + (i : Int), _, rfl, rfl, SqT.of (s2 _ _ ha), (by rw [Int.zero_add]; exact atI_nat ex), ?_⟩⟩
        refine ⟨_, rfl, _, rfl, .inr <| .inl ⟨b, ys, 0 + (i : Int), _, rfl, rfl, SqT.of (s2 _ _ hb), (by rw [Int.zero_add]; exact atI_nat ey), ?_⟩⟩
        refine ⟨_, _, rfl, Alk.mono s2 (he i _ _ ex ey), fun H3 s3 => ⟨_, rfl, iteF ?_⟩⟩
        exact ⟨_, rfl, s2.trans s3⟩
      · rintro σ H2 ⟨o, rfl, s2⟩
        exact q H2 s2
    · -- lists
      refine ⟨_, rfl, rfl, _, rfl, iteDF (by intro z; cases z) ?_⟩
      refine ⟨_, rfl, _, _, _, _, _, rfl, .ty "bool", ty_lst hb, kit_ty k_lst_bool, _, rfl, iteF ?_⟩
      refine ⟨_, rfl, _, _, _, _, _, rfl, .ty "int", ty_lst hb, kit_ty k_lst_int, _, rfl, iteF ?_⟩
      refine ⟨_, rfl, _, _, _, _, _, rfl, .ty "str", ty_lst hb, kit_ty k_lst_str, _, rfl, iteF ?_⟩
      refine ⟨_, rfl, _, _, _, _, _, rfl, .ty "tuple", ty_lst hb, kit_ty k_lst_tup, _, rfl, _, _, _, _, _, rfl, .ty "tuple", ty_lst ha, kit_ty k_lst_tup, rfl, _, rfl, iteNS rfl ?_⟩
      refine ⟨_, rfl, _, _, _, _, _, rfl, .ty "list", ty_lst hb, kit_ty k_lst_lst, _, rfl, _, _, _, _, _, rfl, .ty "list", ty_lst ha, kit_ty k_lst_lst, rfl, _, rfl, iteNS rfl ?_⟩
      refine ⟨_, rfl, _, _, rfl, .inl ⟨xs, SqL.of ha, rfl⟩, _, rfl, _, _, rfl, .inl ⟨ys, SqL.of hb, rfl⟩, rfl, _, rfl, iteNS (by rw [hl]) ?_⟩
      refine ⟨_, rfl, _, _, rfl, .inl ⟨ys, SqL.of hb, rfl⟩, _, rfl, by omega, by omega, ?_⟩
      refine for_range (lo := 0) (fun i σ H2 => ∃ (o : Option V), σ = [some (.ref a), some (.ref b), o] ∧ Same H H2) ⟨none, rfl, Same.refl H⟩ ?_ ?_
      · rintro i σ H2 hi ⟨o, rfl, s2⟩
        have hi' : i < ys.length := by omega
        have ex : xs[i]? = some xs[i] := List.getElem?_eq_getElem (by omega)
        have ey : ys[i]? = some ys[i] := List.getElem?_eq_getElem hi'
        refine ⟨_, rfl, _, rfl, .inl ⟨a, xs, 0 + (i : Int), _, rfl, rfl, SqL.of (s2 _ _ ha), (by rw [Int.zero_add]; exact atI_nat ex), ?_⟩⟩
        refine ⟨_, rfl, _, rfl, .inl ⟨b, ys, 0 + (i : Int), _, rfl, rfl, SqL.of (s2 _ _ hb), (by rw [Int.zero_add]; exact atI_nat ey), ?_⟩⟩
        refine ⟨_, _, rfl, Alk.mono s2 (he i _ _ ex ey), fun H3 s3 => ⟨_, rfl, iteF ?_⟩⟩
        exact ⟨_, rfl, s2.trans s3⟩
      · rintro σ H2 ⟨o, rfl, s2⟩
        exact q H2 s2
theorem inV_sign {c : Nat} {l : List Nat} (h : c ∈ l) : inV (.str (tx [c])) (l.map fun c => V.str (tx [c])) = true := by
  unfold inV
  rw [List.any_eq_true]
  refine ⟨.str (tx [c]), List.mem_map.mpr ⟨c, h, rfl⟩, ?_⟩
  show (tx [c] == tx [c]) = true
  simp
theorem flat_signs (l : List Nat) : (l.map fun c => V.str (tx [c])).all flatV = true := by
  rw [List.all_eq_true]
  intro x hx
  obtain ⟨c, _, rfl⟩ := List.mem_map.mp hx
  rfl
theorem ok_is_work_alone (D : Dn K mg "is_work_alone" s_is_work_alone P_is_work_alone) (g : Gx mg) (c_is_number : C8.Cal P w K mg base 1 "is_number" spNum []) : C8.Cal P w K mg base 2 "is_work_alone" spAlone [] := by
  refine D.cal sc_is_work_alone (fun vs H Q E h => ?_) (fun f cdv A outer s H vs Q E hr h => ?_)
  · obtain ⟨wk, v, D0, many, rfl, hw, hD, can, q⟩ := h
    rfl
  obtain ⟨wk, v, D0, many, rfl, hw, hD, can, q⟩ := h
  have nd := sc_is_work_alone.nd
  refine ⟨_, (pss_cons (ps_if (PW.pt (pw_or (pt_not (pt_val (pe_callB call_isi rfl g.isi b_isi (pa_cons (pv 0) (pa_cons (pe_bltn (v := .ty "tuple") rfl g.tuple b_tuple rfl) pa_nil))))) (pw_or1 (pt_cmpR op_eq (pe_callB call_len_seq rfl g.len PySem.boot_len (pa_cons (pv 0) pa_nil)) pe_int (nomark _))))) (pss_one (ps_ret pe_bl)) pss_nil)
    (pss_cons (ps_if (pt_cmpR op_eq (pe_ix ix_tup (pv 0) pe_int (fun _ _ => rfl)) pe_str (nomark _)) (pss_one (ps_ret (pe_and (pe_cmpR op_eq (pe_callB call_len_seq rfl g.len PySem.boot_len (pa_cons (pv 0) pa_nil)) pe_int (nomark _)) (pe_one (pe_cmpR op_in_seq (pe_ix ix_tup (pv 0) pe_int (fun _ _ => rfl)) (pv 1) rfl))))) pss_nil)
    (pss_cons (ps_if (pt_cmpR op_eq (pe_ix ix_tup (pv 0) pe_int (fun _ _ => rfl)) pe_str (nomark _)) (pss_one (ps_ret (pe_cmpR op_eq (pe_callB call_len_seq rfl g.len PySem.boot_len (pa_cons (pv 0) pa_nil)) pe_int (nomark _)))) pss_nil)
    (pss_cons (ps_if (pt_cmpR op_eq (pe_ix ix_tup (pv 0) pe_int (fun _ _ => rfl)) pe_str (nomark _)) (pss_one (ps_ret (pe_and (pe_cmpR op_eq (pe_callB call_len_seq rfl g.len PySem.boot_len (pa_cons (pv 0) pa_nil)) pe_int (nomark _)) (pe_one (pe_callB call_isi rfl g.isi b_isi (pa_cons (pe_ix ix_tup (pv 0) pe_int (fun _ _ => rfl)) (pa_cons (pe_bltn (v := .ty "tuple") rfl g.tuple b_tuple rfl) pa_nil))))))) pss_nil)
    (pss_cons (ps_if (pt_cmpR op_eq (pe_ix ix_tup (pv 0) pe_int (fun _ _ => rfl)) pe_str (nomark _)) (pss_one (ps_ret (pe_and (pe_cmpR op_eq (pe_callB call_len_seq rfl g.len PySem.boot_len (pa_cons (pv 0) pa_nil)) pe_int (nomark _)) (pe_one (C8.pe_c c_is_number hr (by decide) rfl (pa_cons (pe_ix ix_tup (pv 0) pe_int (fun _ _ => rfl)) (pa_cons pe_int (pa_cons (C8.pe_gc rfl g.MOST_TIMES) pa_nil)))))))) pss_nil)
    (pss_one (ps_ret pe_bl))))))), ?_⟩
  cases wk with
  | push c =>
    obtain ⟨a, rfl, ha⟩ := hw
    refine ⟨_, rfl, _, _, _, _, _, rfl, .ty "tuple", ty_tup ha, kit_ty k_tup_tup, _, rfl, iteF ?_⟩
    refine ⟨_, rfl, a, _, rfl, .inr (SqT.of ha), rfl, _, rfl, iteDF (by intro z; cases z) ?_⟩
    refine ⟨_, rfl, a, _, 0, _, rfl, rfl, SqT.of ha, rfl, rfl, _, rfl, iteD rfl ?_⟩
    refine ⟨_, rfl, a, _, rfl, .inr (SqT.of ha), rfl, _, rfl, iteD rfl ?_⟩
    refine ⟨_, rfl, a, _, 1, _, rfl, rfl, SqT.of ha, rfl, _, rfl, D0, _, rfl, .inl (SqL.of hD), rfl, flat_signs _, ?_⟩
    rw [inV_sign can]
    exact q H (Same.refl H)
  | pop =>
    obtain ⟨a, rfl, ha⟩ := hw
    refine ⟨_, rfl, _, _, _, _, _, rfl, .ty "tuple", ty_tup ha, kit_ty k_tup_tup, _, rfl, iteF ?_⟩
    refine ⟨_, rfl, a, _, rfl, .inr (SqT.of ha), rfl, _, rfl, iteDF (by intro z; cases z) ?_⟩
    refine ⟨_, rfl, a, _, 0, _, rfl, rfl, SqT.of ha, rfl, rfl, _, rfl, iteDF (vne s_po_pu) ?_⟩
    refine ⟨_, rfl, a, _, 0, _, rfl, rfl, SqT.of ha, rfl, rfl, _, rfl, iteD rfl ?_⟩
    refine ⟨_, rfl, a, _, rfl, .inr (SqT.of ha), rfl, ?_⟩
    exact givD q
  | row ws =>
    obtain ⟨a, b, xs, rfl, ha, hb, hs⟩ := hw
    refine ⟨_, rfl, _, _, _, _, _, rfl, .ty "tuple", ty_tup ha, kit_ty k_tup_tup, _, rfl, iteF ?_⟩
    refine ⟨_, rfl, a, _, rfl, .inr (SqT.of ha), rfl, _, rfl, iteDF (by intro z; cases z) ?_⟩
    refine ⟨_, rfl, a, _, 0, _, rfl, rfl, SqT.of ha, rfl, rfl, _, rfl, iteDF (vne s_ro_pu) ?_⟩
    refine ⟨_, rfl, a, _, 0, _, rfl, rfl, SqT.of ha, rfl, rfl, _, rfl, iteDF (vne s_ro_po) ?_⟩
    refine ⟨_, rfl, a, _, 0, _, rfl, rfl, SqT.of ha, rfl, rfl, _, rfl, iteD rfl ?_⟩
    refine ⟨_, rfl, a, _, rfl, .inr (SqT.of ha), rfl, _, rfl, iteD rfl ?_⟩
    refine ⟨_, rfl, a, _, 1, _, rfl, rfl, SqT.of ha, rfl, _, _, _, _, _, rfl, .ty "tuple", ty_tup hb, kit_ty k_tup_tup, ?_⟩
    exact q H (Same.refl H)
  | times n w' =>
    obtain ⟨a, u, rfl, ha, hu⟩ := hw
    obtain ⟨hn, _⟩ := can
    refine ⟨_, rfl, _, _, _, _, _, rfl, .ty "tuple", ty_tup ha, kit_ty k_tup_tup, _, rfl, iteF ?_⟩
    refine ⟨_, rfl, a, _, rfl, .inr (SqT.of ha), rfl, _, rfl, iteDF (by intro z; cases z) ?_⟩
    refine ⟨_, rfl, a, _, 0, _, rfl, rfl, SqT.of ha, rfl, rfl, _, rfl, iteDF (vne s_ti_pu) ?_⟩
    refine ⟨_, rfl, a, _, 0, _, rfl, rfl, SqT.of ha, rfl, rfl, _, rfl, iteDF (vne s_ti_po) ?_⟩
    refine ⟨_, rfl, a, _, 0, _, rfl, rfl, SqT.of ha, rfl, rfl, _, rfl, iteDF (vne s_ti_ro) ?_⟩
    refine ⟨_, rfl, a, _, 0, _, rfl, rfl, SqT.of ha, rfl, rfl, _, rfl, iteD rfl ?_⟩
    refine ⟨_, rfl, a, _, rfl, .inr (SqT.of ha), rfl, _, rfl, iteD rfl ?_⟩
    refine ⟨_, rfl, a, _, 1, _, rfl, rfl, SqT.of ha, rfl, (n : Int), 0, 1000000000000000000, rfl, fun H1 s1 => ?_⟩
    rw [decide_eq_true (by omega)]
    exact q H1 s1
theorem ok_works_within (D : Dn K mg "works_within" s_works_within P_works_within) (g : Gx mg) : C8.Cal P w K mg base 1 "works_within" spWithin [] := by
  refine D.cal sc_works_within (fun vs H Q E h => ?_) (fun f cdv A outer s H vs Q E hr h => ?_)
  · obtain ⟨wk, v, rfl, hw, q⟩ := h
    rfl
  obtain ⟨wk, v, rfl, hw, q⟩ := h
  have nd := sc_works_within.nd
  refine ⟨_, (pss_cons (ps_if (pt_cmpR op_eq (pe_ix ix_tup (pv 0) pe_int (fun _ _ => rfl)) pe_str (nomark _)) (pss_one (ps_ret (pe_ix ix_tup (pv 0) pe_int (fun _ _ => rfl)))) pss_nil)
    (pss_cons (ps_if (pt_cmpR op_eq (pe_ix ix_tup (pv 0) pe_int (fun _ _ => rfl)) pe_str (nomark _)) (pss_one (ps_ret (pe_tup (pa_cons (pe_ix ix_tup (pv 0) pe_int (fun _ _ => rfl)) pa_nil)))) pss_nil)
    (pss_one (ps_ret (pe_tup pa_nil))))), ?_⟩
  cases wk with
  | push c =>
    obtain ⟨a, rfl, ha⟩ := hw
    refine ⟨_, rfl, a, _, 0, _, rfl, rfl, SqT.of ha, rfl, rfl, _, rfl, iteDF (vne s_pu_ro) ?_⟩
    refine ⟨_, rfl, a, _, 0, _, rfl, rfl, SqT.of ha, rfl, rfl, _, rfl, iteDF (vne s_pu_ti) ?_⟩
    exact ⟨by show 0 ≤ sizeLine; decide, fun u hu => q _ u [] (Same.new hu _) upd_same rfl⟩
  | pop =>
    obtain ⟨a, rfl, ha⟩ := hw
    refine ⟨_, rfl, a, _, 0, _, rfl, rfl, SqT.of ha, rfl, rfl, _, rfl, iteDF (vne s_po_ro) ?_⟩
    refine ⟨_, rfl, a, _, 0, _, rfl, rfl, SqT.of ha, rfl, rfl, _, rfl, iteDF (vne s_po_ti) ?_⟩
    exact ⟨by show 0 ≤ sizeLine; decide, fun u hu => q _ u [] (Same.new hu _) upd_same rfl⟩
  | row ws =>
    obtain ⟨a, b, xs, rfl, ha, hb, hs⟩ := hw
    refine ⟨_, rfl, a, _, 0, _, rfl, rfl, SqT.of ha, rfl, rfl, _, rfl, iteD rfl ?_⟩
    exact ⟨_, rfl, a, _, 1, _, rfl, rfl, SqT.of ha, rfl, q H b xs (Same.refl H) hb hs⟩
  | times n w' =>
    obtain ⟨a, u, rfl, ha, hu⟩ := hw
    refine ⟨_, rfl, a, _, 0, _, rfl, rfl, SqT.of ha, rfl, rfl, _, rfl, iteDF (vne s_ti_ro) ?_⟩
    refine ⟨_, rfl, a, _, 0, _, rfl, rfl, SqT.of ha, rfl, rfl, _, rfl, iteD rfl ?_⟩
    refine ⟨_, rfl, a, _, 2, _, rfl, rfl, SqT.of ha, rfl, by show 1 ≤ sizeLine; decide, fun p hp => ?_⟩
    exact q _ p _ (Same.new hp _) upd_same ⟨u, [], rfl, hu.tups (Tups.of (Same.new hp _)), rfl⟩
theorem ok_power_triple (D : Dn K mg "power_triple" s_power_triple P_power_triple) (g : Gx mg) (c_untouched : C8.Cal P w K mg base 1 "untouched" spUnt []) (c_join_triples : C8.Cal P w K mg base 2 "join_triples" spJoin []) : C8.Cal P w K mg base 3 "power_triple" spPower [] := by
  refine D.cal sc_power_triple (fun vs H Q E h => ?_) (fun f cdv A outer s H vs Q E hr h => ?_)
  · obtain ⟨v, p, u, t, n, rfl, hp, ok, ht, tok, hn, q⟩ := h
    rfl
  obtain ⟨v, p, u, t, n, rfl, hp, ok, ht, tok, hn, q⟩ := h
  have nd := sc_power_triple.nd
  refine ⟨_, (pss_cons (ps_set (i := 3) nd rfl (.inl rfl) (C8.pe_c c_untouched hr (by decide) rfl (pa_cons (pv 0) pa_nil)))
    (pss_cons (ps_set (i := 4) nd rfl (.inl rfl) (pv 1))
    (pss_cons (ps_set (i := 5) nd rfl (.inl rfl) (pv 2))
    (pss_cons (ps_while PassesOwn.never (pt_cmpR op_gt (pv 5) pe_int (nomark _)) (pss_cons (ps_if (pt_cmpR op_eq (pe_op op_modN (pv 5) pe_int) pe_int (nomark _)) (pss_one (ps_set (i := 3) nd rfl (.inl rfl) (C8.pe_c c_join_triples hr (by decide) rfl (pa_cons (pv 3) (pa_cons (pv 4) pa_nil))))) pss_nil)
    (pss_cons (ps_set (i := 4) nd rfl (.inl rfl) (C8.pe_c c_join_triples hr (by decide) rfl (pa_cons (pv 4) (pa_cons (pv 4) pa_nil))))
    (pss_one (ps_set (i := 5) nd rfl (.inl rfl) (pe_op op_fdivN (pv 5) pe_int))))))
    (pss_one (ps_ret (pv 3))))))), ?_⟩
  have h9 := ok.r9
  refine ⟨_, rfl, v, p, rfl, hp, fun H1 u1 s1 hu1 => ?_⟩
  refine ⟨_, rfl, _, rfl, ?_⟩
  refine while_by (fun σ H2 => ∃ (wv dv : V) (m : Nat) (a b : Tr), σ = [some v, some u, some (.int n), some wv, some dv, some (.int m)] ∧ Same H H2 ∧ TripAt H2 wv a ∧ TripAt H2 dv b ∧ TrOk p.room p.many a ∧ TrOk p.room p.many b ∧ m ≤ 1000000000000000000 ∧ tjoin a (tpw p.room b m) = tpw p.room t n)
    (fun σ _ => match σ with | [_, _, _, _, _, some (.int m)] => m.toNat | _ => 0)
    ⟨u1, u, n, tunt p.room, t, rfl, s1, hu1, ht.mono s1, tunt_ok, tok, hn, tunt_left (tpw_ok tok n)⟩ ?_ ?_
  · rintro σ H2 ⟨wv, dv, m, a, b, rfl, s2, hwv, hdv, aok, bok, hm, e⟩
    have ka := aok.kl
    have kb := bok.kl
    refine ⟨_, rfl, _, _, rfl, rfl, _, rfl, ite2 (fun c => ?_) (fun c => ?_)⟩
    · have m0 : 0 < m := by
        have := of_decide_eq_true c
        omega
      have em : (m : Int).fmod 2 = ((m % 2 : Nat) : Int) := by
        rw [Int.fmod_eq_emod_of_nonneg _ (by decide)]
        omega
      have ed : (m : Int).fdiv 2 = ((m / 2 : Nat) : Int) := by
        rw [Int.fdiv_eq_ediv_of_nonneg _ (by decide)]
        omega
      refine ⟨_, rfl, _, _, rfl, rfl, by show ((2 : Int) ≠ 0); decide, rfl, _, rfl, ?_⟩
      have step : ∀ (H3 : Hp) (wv3 : V) (a3 : Tr), Same H H3 → TripAt H3 wv3 a3 → TripAt H3 dv b → TrOk p.room p.many a3 → tjoin a3 (tpw p.room (tjoin b b) (m / 2)) = tpw p.room t n → ∀ H4 v4, Same H3 H4 → TripAt H4 v4 (tjoin b b) →
          ∃ (wv dv : V) (m' : Nat) (a b : Tr), [some v, some u, some (.int n), some wv3, some v4, some (.int ((m : Int).fdiv 2))] = [some v, some u, some (.int n), some wv, some dv, some (.int m')] ∧ Same H H4 ∧ TripAt H4 wv a ∧ TripAt H4 dv b ∧ TrOk p.room p.many a ∧ TrOk p.room p.many b ∧ m' ≤ 1000000000000000000 ∧ tjoin a (tpw p.room b m') = tpw p.room t n :=
        fun H3 wv3 a3 s3 h3 hd3 ok3 e3 H4 v4 s4 h4 => ⟨wv3, v4, m / 2, a3, tjoin b b, by rw [ed], s3.trans s4, h3.mono s4, h4, ok3, tjoin_ok bok bok, by omega, e3⟩
      have less : ((m : Int).fdiv 2).toNat < (m : Int).toNat := by
        rw [ed]
        omega
      refine ite2 (fun c2 => ?_) (fun c2 => ?_)
      · have m1 : m % 2 = 1 := by
          have c3 := of_decide_eq_true c2
          injection c3 with c4
          have c5 : (m : Int).fmod 2 = 1 := c4
          omega
        refine ⟨_, rfl, _, rfl, _, _, a, b, rfl, hwv, hdv, by omega, by omega, fun H3 v3 s3 h3 => ?_⟩
        refine ⟨_, rfl, _, rfl, _, _, b, b, rfl, hdv.mono s3, hdv.mono s3, by omega, by omega, fun H4 v4 s4 h4 => ?_⟩
        refine ⟨_, rfl, _, _, rfl, rfl, ⟨by decide, by decide⟩, ?_⟩
        refine ⟨step H3 v3 (tjoin a b) (s2.trans s3) h3 (hdv.mono s3) (tjoin_ok aok bok) ?_ H4 v4 s4 h4, less⟩
        rw [← e, ← tpw_odd bok aok m1]
      · have m1 : m % 2 = 0 := by
          by_cases h : m % 2 = 1
          · exact absurd (decide_eq_true (congrArg V.int (show (m : Int).fmod 2 = 1 by omega))) c2
          · omega
        refine ⟨_, rfl, _, rfl, _, _, b, b, rfl, hdv, hdv, by omega, by omega, fun H4 v4 s4 h4 => ?_⟩
        refine ⟨_, rfl, _, _, rfl, rfl, ⟨by decide, by decide⟩, ?_⟩
        refine ⟨step H2 wv a s2 hwv hdv aok ?_ H4 v4 s4 h4, less⟩
        rw [← e, ← tpw_even bok m1]
    · have m0 : m = 0 := by
        by_cases h : m = 0
        · exact h
        · exact absurd (decide_eq_true (show (0 : Int) < (m : Int) by omega)) c
      subst m0
      rw [show tpw p.room b 0 = tunt p.room from rfl, tunt_right aok] at e
      rw [e] at hwv
      exact ⟨_, rfl, q H2 wv s2 hwv⟩
  · rintro σ H2 Q1 Q2 hq ⟨x, e1, i, j, e2, e3, k, e4, h⟩
    exact ⟨x, e1, i, j, e2, e3, k, e4, hq _ _ h⟩
theorem ok_price_of_step (D : Dn K mg "price_of_step" s_price_of_step P_price_of_step) (g : Gx mg) : C8.Cal P w K mg base 1 "price_of_step" spPStep [] := by
  refine D.cal sc_price_of_step (fun vs H Q E h => ?_) (fun f cdv A outer s H vs Q E hr h => ?_)
  · obtain ⟨v, p, c, rfl, ⟨a, b, rfl, ha, hb⟩, ok, hc, q⟩ := h
    rfl
  obtain ⟨v, p, c, rfl, ⟨a, b, rfl, ha, hb⟩, ok, hc, q⟩ := h
  have nd := sc_price_of_step.nd
  refine ⟨_, (pss_cons (ps_if (pt_cmpR op_eq (pv 1) (C8.pe_gc rfl g.POP_STEP) (nomark _)) (pss_one (ps_ret (pe_ix ix_tup (pv 0) pe_int (fun _ _ => rfl)))) pss_nil)
    (pss_one (ps_ret (pe_ix ix_tup (pe_ix ix_tup (pv 0) pe_int (fun _ _ => rfl)) (pe_bm PySem.F.plainAttrs_str PySem.F.slot_str_index PySem.F.type_str_index mt_sindex (C8.pe_gc rfl g.SIGNS) (pa_cons (pv 1) pa_nil)) (fun _ _ => rfl))))), ?_⟩
  refine ⟨_, rfl, rfl, _, rfl, ite2 (fun z => ?_) (fun z => ?_)⟩
  · have z' : c = 45 := by
      have z1 := of_decide_eq_true z
      injection z1 with z2
      exact List.head_eq_of_cons_eq (str_inj.mp z2)
    refine ⟨_, rfl, a, _, 3, _, rfl, rfl, SqT.of ha, rfl, ?_⟩
    have e : cst p c = p.pop := by
      unfold cst
      rw [if_pos z']
    rw [← e]
    exact q H (Same.refl H)
  · have z' : ¬ c = 45 := fun y => by
      subst y
      exact z (decide_eq_true rfl)
    have hs := hc.resolve_left z'
    have hin : ∀ M, c ∈ signs M → c - 97 < M ∧ ∃ r, Builtin.Str.occurrences (tx [97, 98, 99, 100]) (tx [c]) 0 (tx [97, 98, 99, 100]).length 1 = (c - 97) :: r := fun M hM => by
      have h4 : c = 97 ∨ c = 98 ∨ c = 99 ∨ c = 100 := by
        have := List.mem_of_mem_take (show c ∈ List.take M [97, 98, 99, 100] from hM)
        simpa using this
      have hj : c - 97 < M := by
        match M, hM with
        | 0, hM => simp [signs] at hM
        | 1, hM => simp [signs] at hM; omega
        | 2, hM => simp [signs] at hM; omega
        | 3, hM => simp [signs] at hM; omega
        | M + 4, _ => omega
      refine ⟨hj, ?_⟩
      rcases h4 with rfl | rfl | rfl | rfl
      · exact ⟨[], by decide +kernel⟩
      · exact ⟨[], by decide +kernel⟩
      · exact ⟨[], by decide +kernel⟩
      · exact ⟨[], by decide +kernel⟩
    obtain ⟨hj, r, hocc⟩ := hin p.many hs
    have hl : c - 97 < p.pr.length := by
      rw [ok.pl]
      exact hj
    refine ⟨_, rfl, a, _, 2, _, rfl, rfl, SqT.of ha, rfl, rfl, _, rfl, _, _, _, r, rfl, rfl, hocc, ?_⟩
    refine ⟨b, _, ((c - 97 : Nat) : Int), .int p.pr[c - 97], rfl, rfl, TupF.sq hb, atI_nat (by rw [List.getElem?_map, List.getElem?_eq_getElem hl]; rfl), ?_⟩
    have e : cst p c = p.pr[c - 97] := by
      unfold cst
      rw [if_neg z', List.getD_eq_getElem?_getD, List.getElem?_eq_getElem hl]
      rfl
    rw [← e]
    exact q H (Same.refl H)
theorem walk_rt {K : PySem.W.Frag} {a : Addr} {xs : List V} : Walk (RT.ItvT K a xs.length) xs.length (fun H => SqT K H a xs) (fun i H x H' => H' = H ∧ xs[xs.length - 1 - i]? = some x) :=
  ⟨fun i _ hi q => ⟨hi, xs, xs[xs.length - 1 - i]'(by omega), q, by simp [show xs.length - 1 - i < xs.length by omega]⟩, fun _ _ => Nat.le_refl _, fun _ _ _ _ _ q y => ⟨y.1, y.2 xs q⟩⟩
theorem no_spTri : ∀ vs H Q E, ¬ spTri 0 vs H Q E := fun vs H Q E h => by
  obtain ⟨v, p, u, w, _, _, _, _, _, h, _⟩ := h
  have := W.dep_pos w
  omega
theorem no_spPWork : ∀ vs H Q E, ¬ spPWork 0 vs H Q E := fun vs H Q E h => by
  obtain ⟨v, p, u, w, _, _, _, _, _, h, _⟩ := h
  have := W.dep_pos w
  omega
theorem foldW_ok {room many : Nat} (hr : 1 ≤ room) : ∀ (l : List W) (t : Tr), (∀ w ∈ l, w.Can many) → TrOk room many t → TrOk room many (l.foldl (fun t w => tjoin t (w.tri room)) t)
  | [], _, _, a => a
  | w :: r, t, h, a => foldW_ok hr r _ (fun x hx => h x (List.mem_cons_of_mem _ hx)) (tjoin_ok a (W.tri_ok hr w (h w (List.mem_cons_self ..))))
theorem ok_triple_of_work (D : Dn K mg "triple_of_work" s_triple_of_work P_triple_of_work) (g : Gx mg) (c_triple_of_step : C8.Cal P w K mg base 2 "triple_of_step" spTStep []) (c_power_triple : C8.Cal P w K mg base 3 "power_triple" spPower []) (c_untouched : C8.Cal P w K mg base 1 "untouched" spUnt []) (c_join_triples : C8.Cal P w K mg base 2 "join_triples" spJoin []) : ∀ n, C8.Cal P w K mg base (n + 3) "triple_of_work" (spTri n) []
  | 0 => by
    obtain ⟨f, fd, F, hm, b⟩ := D.ex
    exact ⟨f, fd, _, [], (⟨fun vs H Q E h => absurd h (no_spTri vs H Q E), fun A outer s H args us vs Q E _ _ _ _ h => absurd h (no_spTri vs H Q E)⟩ : FnOk _ _ _ _ _ _ _ _ _ _ _), hm, F.kp, b, .nil⟩
  | n + 1 => by
    have c_triple_of_work := ok_triple_of_work D g c_triple_of_step c_power_triple c_untouched c_join_triples n
    refine D.cal sc_triple_of_work (fun vs H Q E h => ?_) (fun f cdv A outer s H vs Q E hr h => ?_)
    · obtain ⟨v, p, u, wk, rfl, hp, ok, hw, can, hd, q⟩ := h
      rfl
    obtain ⟨v, p, u, wk, rfl, hp, ok, hw, can, hd, q⟩ := h
    have nd := sc_triple_of_work.nd
    refine ⟨_, (pss_cons (ps_if (pt_cmpR op_eq (pe_ix ix_tup (pv 1) pe_int (fun _ _ => rfl)) pe_str (nomark _)) (pss_one (ps_ret (C8.pe_c c_triple_of_step hr (by omega) rfl (pa_cons (pv 0) (pa_cons (pe_ix ix_tup (pv 1) pe_int (fun _ _ => rfl)) pa_nil))))) pss_nil)
      (pss_cons (ps_if (pt_cmpR op_eq (pe_ix ix_tup (pv 1) pe_int (fun _ _ => rfl)) pe_str (nomark _)) (pss_one (ps_ret (C8.pe_c c_triple_of_step hr (by omega) rfl (pa_cons (pv 0) (pa_cons (C8.pe_gc rfl g.POP_STEP) pa_nil))))) pss_nil)
      (pss_cons (ps_if (pt_cmpR op_eq (pe_ix ix_tup (pv 1) pe_int (fun _ _ => rfl)) pe_str (nomark _)) (pss_one (ps_ret (C8.pe_c c_power_triple hr (by omega) rfl (pa_cons (pv 0) (pa_cons (C8.pe_c c_triple_of_work hr (by omega) rfl (pa_cons (pv 0) (pa_cons (pe_ix ix_tup (pv 1) pe_int (fun _ _ => rfl)) pa_nil))) (pa_cons (pe_ix ix_tup (pv 1) pe_int (fun _ _ => rfl)) pa_nil)))))) pss_nil)
      (pss_cons (ps_set (i := 2) nd rfl (.inl rfl) (C8.pe_c c_untouched hr (by omega) rfl (pa_cons (pv 0) pa_nil)))
      (pss_cons (ps_for PassesOwn.never rfl (pi_tup (pe_ix ix_tup (pv 1) pe_int (fun _ _ => rfl))) (pg_name (i := 3) nd rfl (.inl rfl)) (pss_one (ps_set (i := 2) nd rfl (.inl rfl) (C8.pe_c c_join_triples hr (by omega) rfl (pa_cons (pv 2) (pa_cons (C8.pe_c c_triple_of_work hr (by omega) rfl (pa_cons (pv 0) (pa_cons (pv 3) pa_nil))) pa_nil))))))
      (pss_one (ps_ret (pv 2)))))))), ?_⟩
    have h9 := ok.r9
    cases wk with
    | push c =>
      obtain ⟨a, rfl, ha⟩ := hw
      refine ⟨_, rfl, a, _, 0, _, rfl, rfl, SqT.of ha, rfl, rfl, _, rfl, iteD rfl ?_⟩
      exact ⟨_, rfl, _, rfl, a, _, 1, _, rfl, rfl, SqT.of ha, rfl, v, p, c, rfl, hp, ok, q⟩
    | pop =>
      obtain ⟨a, rfl, ha⟩ := hw
      refine ⟨_, rfl, a, _, 0, _, rfl, rfl, SqT.of ha, rfl, rfl, _, rfl, iteDF (vne s_po_pu) ?_⟩
      refine ⟨_, rfl, a, _, 0, _, rfl, rfl, SqT.of ha, rfl, rfl, _, rfl, iteD rfl ?_⟩
      exact ⟨_, rfl, v, p, 45, rfl, hp, ok, q⟩
    | times m wk =>
      obtain ⟨a, u, rfl, ha, hu⟩ := hw
      obtain ⟨hm, can⟩ := can
      have hd' : wk.dep ≤ n := by
        have : 1 + wk.dep ≤ n + 1 := hd
        omega
      refine ⟨_, rfl, a, _, 0, _, rfl, rfl, SqT.of ha, rfl, rfl, _, rfl, iteDF (vne s_ti_pu) ?_⟩
      refine ⟨_, rfl, a, _, 0, _, rfl, rfl, SqT.of ha, rfl, rfl, _, rfl, iteDF (vne s_ti_po) ?_⟩
      refine ⟨_, rfl, a, _, 0, _, rfl, rfl, SqT.of ha, rfl, rfl, _, rfl, iteD rfl ?_⟩
      refine ⟨_, rfl, _, rfl, _, rfl, a, _, 2, _, rfl, rfl, SqT.of ha, rfl, v, p, u, wk, rfl, hp, ok, hu, can, hd', fun H1 u1 s1 h1 => ?_⟩
      exact ⟨_, rfl, a, _, 1, _, rfl, rfl, SqT.of (s1 _ _ ha), rfl, v, p, u1, wk.tri p.room, m, rfl, hp.mono s1, ok, h1, W.tri_ok ok.r1 wk can, hm, fun H2 u2 s2 h2 => q H2 u2 (s1.trans s2) h2⟩
    | row ws =>
      obtain ⟨a, b, xs, rfl, ha, hb, hs⟩ := hw
      obtain ⟨hlen, can⟩ := can
      have hd' : ws.dep ≤ n := by
        have : 1 + ws.dep ≤ n + 1 := hd
        omega
      have hl := hs.len
      refine ⟨_, rfl, a, _, 0, _, rfl, rfl, SqT.of ha, rfl, rfl, _, rfl, iteDF (vne s_ro_pu) ?_⟩
      refine ⟨_, rfl, a, _, 0, _, rfl, rfl, SqT.of ha, rfl, rfl, _, rfl, iteDF (vne s_ro_po) ?_⟩
      refine ⟨_, rfl, a, _, 0, _, rfl, rfl, SqT.of ha, rfl, rfl, _, rfl, iteDF (vne s_ro_ti) ?_⟩
      refine ⟨_, rfl, v, p, rfl, hp, fun H1 u1 s1 h1 => ?_⟩
      refine ⟨_, rfl, a, _, 1, _, rfl, rfl, SqT.of (s1 _ _ ha), rfl, b, rfl, ⟨_, SqT.of (s1 _ _ hb)⟩, ?_⟩
      refine for_it (walk_tup (K := K) (a := b) (xs := xs)) (fun i σ H2 => ∃ (wv : V) (o : Option V), σ = [some v, some (.ref a), some wv, o] ∧ Same H H2 ∧ TripAt H2 wv ((ws.list.take i).foldl (fun t w => tjoin t (w.tri p.room)) (tunt p.room)))
        ⟨u1, none, rfl, s1, h1⟩ (fun i σ H2 _ ⟨_, _, _, s2, _⟩ => SqT.of (s2 _ _ hb)) ?_ ?_
      · rintro i x σ H2 H3 hi ⟨wv, o, rfl, s2, hwv⟩ ⟨rfl, hx⟩
        obtain ⟨wk, hwk, hwa⟩ := hs.get hx
        have hmem := List.mem_of_getElem? hwk
        have cwk := Ws.can_mem can hmem
        have dwk := Ws.dep_mem hmem
        have fok := foldW_ok (many := p.many) ok.r1 (ws.list.take i) (tunt p.room) (fun x hx => Ws.can_mem can (List.mem_of_mem_take hx)) tunt_ok
        have tok := W.tri_ok (room := p.room) ok.r1 wk cwk
        have k1 := fok.kl
        have k2 := tok.kl
        refine ⟨_, rfl, _, rfl, _, rfl, v, p, x, wk, rfl, hp.mono s2, ok, hwa.tups (Tups.of s2), cwk, by omega, fun H4 v4 s4 h4 => ?_⟩
        refine ⟨_, _, _, _, rfl, hwv.mono s4, h4, by omega, by omega, fun H5 v5 s5 h5 => ?_⟩
        refine ⟨v5, some x, rfl, s2.trans (s4.trans s5), ?_⟩
        rw [List.take_add_one, hwk, List.foldl_append]
        exact h5
      · rintro σ H2 ⟨wv, o, rfl, s2, hwv⟩
        rw [hl, List.take_of_length_le (Nat.le_refl _), ← Ws.tri_list] at hwv
        exact ⟨_, rfl, q H2 wv s2 hwv⟩
theorem ok_price_of_work (D : Dn K mg "price_of_work" s_price_of_work P_price_of_work) (g : Gx mg) (c_price_of_step : C8.Cal P w K mg base 1 "price_of_step" spPStep []) : ∀ n, C8.Cal P w K mg base (n + 1) "price_of_work" (spPWork n) []
  | 0 => by
    obtain ⟨f, fd, F, hm, b⟩ := D.ex
    exact ⟨f, fd, _, [], (⟨fun vs H Q E h => absurd h (no_spPWork vs H Q E), fun A outer s H args us vs Q E _ _ _ _ h => absurd h (no_spPWork vs H Q E)⟩ : FnOk _ _ _ _ _ _ _ _ _ _ _), hm, F.kp, b, .nil⟩
  | n + 1 => by
    have c_price_of_work := ok_price_of_work D g c_price_of_step n
    refine D.cal sc_price_of_work (fun vs H Q E h => ?_) (fun f cdv A outer s H vs Q E hr h => ?_)
    · obtain ⟨v, p, u, wk, rfl, hp, ok, hw, can, hd, q⟩ := h
      rfl
    obtain ⟨v, p, u, wk, rfl, hp, ok, hw, can, hd, q⟩ := h
    have nd := sc_price_of_work.nd
    refine ⟨_, (pss_cons (ps_if (pt_cmpR op_eq (pe_ix ix_tup (pv 1) pe_int (fun _ _ => rfl)) pe_str (nomark _)) (pss_one (ps_ret (C8.pe_c c_price_of_step hr (by omega) rfl (pa_cons (pv 0) (pa_cons (pe_ix ix_tup (pv 1) pe_int (fun _ _ => rfl)) pa_nil))))) pss_nil)
      (pss_cons (ps_if (pt_cmpR op_eq (pe_ix ix_tup (pv 1) pe_int (fun _ _ => rfl)) pe_str (nomark _)) (pss_one (ps_ret (C8.pe_c c_price_of_step hr (by omega) rfl (pa_cons (pv 0) (pa_cons (C8.pe_gc rfl g.POP_STEP) pa_nil))))) pss_nil)
      (pss_cons (ps_if (pt_cmpR op_eq (pe_ix ix_tup (pv 1) pe_int (fun _ _ => rfl)) pe_str (nomark _)) (pss_one (ps_ret (pe_op op_mul (pe_ix ix_tup (pv 1) pe_int (fun _ _ => rfl)) (C8.pe_c c_price_of_work hr (by omega) rfl (pa_cons (pv 0) (pa_cons (pe_ix ix_tup (pv 1) pe_int (fun _ _ => rfl)) pa_nil)))))) pss_nil)
      (pss_one (ps_ret (pe_callB (cr_sum rfl) rfl g.sum b_sum (pa_cons (pe_lc (own := [("inner", 2)]) rfl nd (pi_tup (pe_ix ix_tup (pv 1) pe_int (fun _ _ => rfl))) (blkOk_by (own := [("inner", 2)]) (N := N_price_of_work) (sc := defScope s_price_of_work) (by decide +kernel)) (fun _ _ _ _ _ => (pg_name (i := 2) nd rfl (.inl rfl))) (fun _ _ _ _ _ => pts_nil) (fun _ _ _ _ _ => (C8.pe_c c_price_of_work (by exact hr) (by omega) rfl (pa_cons (pv 0) (pa_cons (pv 2) pa_nil))))) pa_nil))))))), ?_⟩
    cases wk with
    | push c =>
      obtain ⟨a, rfl, ha⟩ := hw
      refine ⟨_, rfl, a, _, 0, _, rfl, rfl, SqT.of ha, rfl, rfl, _, rfl, iteD rfl ?_⟩
      exact ⟨_, rfl, _, rfl, a, _, 1, _, rfl, rfl, SqT.of ha, rfl, v, p, c, rfl, hp, ok, .inr can, q⟩
    | pop =>
      obtain ⟨a, rfl, ha⟩ := hw
      refine ⟨_, rfl, a, _, 0, _, rfl, rfl, SqT.of ha, rfl, rfl, _, rfl, iteDF (vne s_po_pu) ?_⟩
      refine ⟨_, rfl, a, _, 0, _, rfl, rfl, SqT.of ha, rfl, rfl, _, rfl, iteD rfl ?_⟩
      exact ⟨_, rfl, v, p, 45, rfl, hp, ok, .inl rfl, q⟩
    | times m wk =>
      obtain ⟨a, u, rfl, ha, hu⟩ := hw
      obtain ⟨hm, can⟩ := can
      have hd' : wk.dep ≤ n := by
        have : 1 + wk.dep ≤ n + 1 := hd
        omega
      refine ⟨_, rfl, a, _, 0, _, rfl, rfl, SqT.of ha, rfl, rfl, _, rfl, iteDF (vne s_ti_pu) ?_⟩
      refine ⟨_, rfl, a, _, 0, _, rfl, rfl, SqT.of ha, rfl, rfl, _, rfl, iteDF (vne s_ti_po) ?_⟩
      refine ⟨_, rfl, a, _, 0, _, rfl, rfl, SqT.of ha, rfl, rfl, _, rfl, iteD rfl ?_⟩
      have hmi : -(2 ^ 64) < (m : Int) ∧ (m : Int) < 2 ^ 64 := by
        have e : (2 : Int) ^ 64 = 18446744073709551616 := by decide
        rw [e]
        omega
      exact ⟨_, rfl, a, _, 1, _, rfl, rfl, SqT.of ha, rfl, _, rfl, _, rfl, a, _, 2, _, rfl, rfl, SqT.of ha, rfl, v, p, u, wk, rfl, hp, ok, hu, can, hd', fun H1 s1 => ⟨_, _, rfl, rfl, .inl hmi, q H1 s1⟩⟩
    | row ws =>
      obtain ⟨a, b, xs, rfl, ha, hb, hs⟩ := hw
      obtain ⟨hlen, can⟩ := can
      have hd' : ws.dep ≤ n := by
        have : 1 + ws.dep ≤ n + 1 := hd
        omega
      have hl := hs.len
      refine ⟨_, rfl, a, _, 0, _, rfl, rfl, SqT.of ha, rfl, rfl, _, rfl, iteDF (vne s_ro_pu) ?_⟩
      refine ⟨_, rfl, a, _, 0, _, rfl, rfl, SqT.of ha, rfl, rfl, _, rfl, iteDF (vne s_ro_po) ?_⟩
      refine ⟨_, rfl, a, _, 0, _, rfl, rfl, SqT.of ha, rfl, rfl, _, rfl, iteDF (vne s_ro_ti) ?_⟩
      refine ⟨_, rfl, a, _, 1, _, rfl, rfl, SqT.of ha, rfl, b, rfl, ⟨_, SqT.of hb⟩, fun D hD => ?_⟩
      refine lc_it (walk_tup (K := K) (a := b) (xs := xs)) (fun i H2 => Same H H2 ∧ H2 D = some (.lst (((ws.list.take i).map (W.prc (cst p))).map V.int))) ⟨Same.new hD _, upd_same⟩ (fun i H2 _ h2 => SqT.of (h2.1 _ _ hb)) ?_ ?_
      · rintro i x H2 H3 hi ⟨s2, h2⟩ ⟨rfl, hx⟩
        obtain ⟨wk, hwk, hwa⟩ := hs.get hx
        have hmem := List.mem_of_getElem? hwk
        have hsz : i < sizeLine := szl (by rw [hl, Ws.len_list] at hi; omega)
        refine ⟨rfl, ?_⟩
        refine ⟨_, rfl, _, rfl, v, p, x, wk, rfl, hp.mono s2, ok, hwa.tups (Tups.of s2), Ws.can_mem can hmem, Nat.le_trans (Ws.dep_mem hmem) hd', fun H4 s4 => ⟨_, s4 _ _ h2, ?_, fun b o e => ?_, ?_⟩⟩
        · rw [List.length_map, List.length_map, List.length_take]
          exact Nat.lt_of_le_of_lt (Nat.min_le_left ..) hsz
        · rw [upd_ne (ne_of_none e hD)]
          exact s4 _ _ (s2 b o e)
        · rw [upd_same, List.take_add_one, hwk, List.map_append, List.map_append]
          rfl
      · rintro H2 ⟨s2, h2⟩
        rw [hl, List.take_of_length_le (Nat.le_refl _)] at h2
        refine ⟨D, _, rfl, SqL.of h2, ?_⟩
        rw [← Ws.prc_list]
        exact q H2 s2
/-- what waits, the next one first -/
def PAt (H : Hp) : List (W × Nat) → List V → Prop
  | [], xs => xs = []
  | p :: r, xs => ∃ T u s, xs = .ref T :: s ∧ H T = some (.tup [u, .int (p.2 : Int)]) ∧ WAt H p.1 u ∧ PAt H r s
theorem PAt.tups {H H' : Hp} (e : Tups H H') : ∀ {ps : List (W × Nat)} {xs : List V}, PAt H ps xs → PAt H' ps xs
  | [], _, h => h
  | p :: r, xs, h => by
    obtain ⟨T, u, s, h1, h2, h3, h4⟩ := h
    exact ⟨T, u, s, h1, e _ _ h2, h3.tups e, PAt.tups e h4⟩
theorem PAt.len {H : Hp} : ∀ {ps : List (W × Nat)} {xs : List V}, PAt H ps xs → xs.length = ps.length
  | [], _, h => by
    cases h
    rfl
  | p :: r, xs, h => by
    obtain ⟨T, u, s, rfl, h2, h3, h4⟩ := h
    show s.length + 1 = r.length + 1
    rw [h4.len]
def psz (ps : List (W × Nat)) : Nat := (ps.map fun p => p.1.siz).sum
theorem psz_cons (p : W × Nat) (r : List (W × Nat)) : psz (p :: r) = p.1.siz + psz r := by
  unfold psz
  rw [List.map_cons, List.sum_cons]
theorem psz_len : ∀ ps : List (W × Nat), ps.length ≤ psz ps
  | [] => Nat.zero_le _
  | p :: r => by
    have := psz_len r
    have := W.siz_pos p.1
    rw [psz_cons, List.length_cons]
    omega
theorem within_siz : ∀ w : W, w.siz = 1 + w.within.siz
  | .push _ => rfl
  | .pop => rfl
  | .row _ => rfl
  | .times _ w => by
    show 1 + w.siz = 1 + (w.siz + 0)
    omega
theorem within_dep : ∀ w : W, w.dep = 1 + w.within.dep
  | .push _ => rfl
  | .pop => rfl
  | .row _ => rfl
  | .times _ w => by
    show 1 + w.dep = 1 + max w.dep 0
    omega
theorem within_can {many : Nat} : ∀ {w : W}, w.Can many → w.within.Can many
  | .push _, _ => trivial
  | .pop, _ => trivial
  | .row _, h => h.2
  | .times _ _, h => ⟨h.2, trivial⟩
theorem gn {i : Nat} {x : V} {σ : L2.St} {H : Hp} {Q : L2.St → Hp → Prop} (h : Q (σ.set i (some x)) H) : gName i x σ H Q := h
theorem asg_c {v : V} {i : Nat} {u : TS} {D : Ends} {σ : L2.St} {H : Hp} (h : u D (σ.set i (some v)) H) : tSeq (tAsg (tC v) (gName i)) u D σ H := h
theorem ok_check_work (D : Dn K mg "check_work" s_check_work P_check_work) (g : Gx mg) (c_signs_of : C8.Cal P w K mg base 1 "signs_of" spSigns []) (c_is_work_alone : C8.Cal P w K mg base 2 "is_work_alone" spAlone []) (c_works_within : C8.Cal P w K mg base 1 "works_within" spWithin []) : C8.Cal P w K mg base 3 "check_work" spChWork [] := by
  refine D.cal sc_check_work (fun vs H Q E h => ?_) (fun f cdv A outer s H vs Q E hr h => ?_)
  · obtain ⟨v, p, u, wk, rfl, hp, ok, hw, wok, q⟩ := h
    rfl
  obtain ⟨v, p, u, wk, rfl, hp, ok, hw, wok, q⟩ := h
  have nd := sc_check_work.nd
  refine ⟨_, (pss_cons (ps_set (i := 2) nd rfl (.inl rfl) (pe_callTy (call_listS rfl) rfl g.list b_list (pa_cons (C8.pe_c c_signs_of hr (by decide) rfl (pa_cons (pv 0) pa_nil)) pa_nil)))
    (pss_cons (ps_set (i := 3) nd rfl (.inl rfl) (pe_lst (pa_cons (pe_tup (pa_cons (pv 1) (pa_cons pe_int pa_nil))) pa_nil)))
    (pss_cons (ps_set (i := 4) nd rfl (.inl rfl) pe_int)
    (pss_one (ps_while PassesOwn.never (pt_truth (pv 3) (by intro _; rfl)) (pss_cons (ps_asg (pe_bm0 PySem.F.plainAttrs_list PySem.F.slot_list_pop PySem.F.type_list_pop mt_pop (pv 3)) (pg_tup (by rfl) (pgs_cons (pg_name (i := 5) nd rfl (.inl rfl)) (pgs_cons (pg_name (i := 6) nd rfl (.inl rfl)) pgs_nil))))
    (pss_cons (ps_if (PW.pt (pw_or (pt_cmpR op_eq (pv 4) (C8.pe_gc rfl g.MOST_WORKS) (nomark _)) (pw_or (pt_cmpR op_gt (pv 6) (C8.pe_gc rfl g.MOST_DEEP) (nomark _)) (pw_or1 (pt_not (pt_val (C8.pe_c c_is_work_alone hr (by decide) rfl (pa_cons (pv 5) (pa_cons (pv 2) pa_nil))))))))) (pss_one ps_never) pss_nil)
    (pss_cons (ps_aug (i := 4) nd rfl (.inl rfl) pe_int ip_add)
    (pss_one (ps_for PassesOwn.never rfl (RT.pi_revA rfl g.reversed (C8.pe_c c_works_within hr (by decide) rfl (pa_cons (pv 5) pa_nil))) (pg_name (i := 7) nd rfl (.inl rfl)) (pss_one (ps_expr (pe_bm PySem.F.plainAttrs_list PySem.F.slot_list_append PySem.F.type_list_append mt_append (pv 3) (pa_cons (pe_tup (pa_cons (pv 7) (pa_cons (pe_op op_add (pv 6) pe_int) pa_nil))) pa_nil)))))))))))))), ?_⟩
  have h4 := signs_len p.many
  refine ⟨_, rfl, v, p, rfl, hp, ok, fun H1 s1 => ⟨_, rfl, by rw [tx_len]; exact sz (by omega), fun D hD => ?_⟩⟩
  rw [tx_list]
  have sD := Same.new hD (.lst ((signs p.many).map fun c => V.str ⟨#[c]⟩))
  have hDD : upd H1 D (.lst ((signs p.many).map fun c => V.str ⟨#[c]⟩)) D = some (.lst ((signs p.many).map fun c => V.str (tx [c]))) := upd_same
  generalize upd H1 D (.lst ((signs p.many).map fun c => V.str ⟨#[c]⟩)) = H2 at sD hDD
  refine ⟨_, rfl, by show 2 ≤ sizeLine; decide, fun T0 hT0 => ⟨by show 1 ≤ sizeLine; decide, fun Wl hWl => ?_⟩⟩
  have sT := Same.new hT0 (.tup [u, .int 1])
  have sW := Same.new hWl (.lst [.ref T0])
  have s2 := s1.trans (sD.trans (sT.trans sW))
  have nW : H Wl = none := (s1.trans (sD.trans sT)).free hWl
  have neD : D ≠ Wl := ne_of_none (sT _ _ hDD) hWl
  refine gn ?_
  dsimp only
  refine asg_c ?_
  refine while_by (fun σ H3 => ∃ (num : Nat) (o5 o6 o7 : Option V) (ps : List (W × Nat)) (ys : List V), σ = [some v, some u, some (.ref D), some (.ref Wl), some (.int (num : Int)), o5, o6, o7] ∧ Same H H3 ∧ H3 D = some (.lst ((signs p.many).map fun c => V.str (tx [c]))) ∧ H3 Wl = some (.lst ys.reverse) ∧ PAt H3 ps ys ∧
      num + psz ps ≤ 60 ∧ ∀ x ∈ ps, x.1.Can p.many ∧ 1 ≤ x.2 ∧ x.2 + x.1.dep ≤ 9)
    (fun σ _ => match σ with | [_, _, _, _, some (.int m), _, _, _] => 60 - m.toNat | _ => 0)
    ⟨0, none, none, none, [(wk, 1)], [.ref T0], rfl, s2, sW _ _ (sT _ _ hDD), upd_same, ⟨T0, u, [], rfl, sW _ _ upd_same, hw.tups (Tups.of s2), rfl⟩, by
      have := wok.siz
      show 0 + psz [(wk, 1)] ≤ 60
      rw [psz_cons]
      show 0 + (wk.siz + 0) ≤ 60
      omega, fun x hx => by
      have e : x = (wk, 1) := by simpa using hx
      subst e
      have := wok.dep
      exact ⟨wok.can, Nat.le_refl _, by show 1 + wk.dep ≤ 9; omega⟩⟩ ?_ ?_
  · rintro σ H3 ⟨num, o5, o6, o7, ps, ys, rfl, s3, hD3, hW3, hpa, hnum, hall⟩
    refine ⟨_, rfl, _, .inl ⟨_, SqL.of hW3, rfl⟩, ?_⟩
    cases ps with
    | nil =>
      have e : ys = [] := hpa
      subst e
      exact iteF (q H3 s3)
    | cons x r =>
      obtain ⟨T, fu, ys, rfl, hT, hfu, hpr⟩ := hpa
      obtain ⟨can, d1, d9⟩ := hall x (List.mem_cons_self ..)
      have dpos := W.dep_pos x.1
      have spos := W.siz_pos x.1
      rw [psz_cons] at hnum
      have erev : (V.ref T :: ys).reverse = ys.reverse ++ [.ref T] := List.reverse_cons
      rw [erev] at hW3 ⊢
      have ene : (!(ys.reverse ++ [V.ref T]).isEmpty) = true := by simp
      rw [ene]
      refine iteT ?_
      -- found, deep = waiting.pop()
      refine ⟨_, rfl, .inl ⟨rfl, _, SqL.of hW3⟩, Wl, _, .ref T, rfl, rfl, hW3, by simp, ?_⟩
      rw [List.dropLast_concat]
      have tW : Tups H3 (upd H3 Wl (.lst ys.reverse)) := Tups.lst hW3
      have s4 : Same H (upd H3 Wl (.lst ys.reverse)) := fun b o e => by
        rw [upd_ne (ne_of_none e nW)]
        exact s3 _ _ e
      have hD4 : upd H3 Wl (.lst ys.reverse) D = some (.lst ((signs p.many).map fun c => V.str (tx [c]))) := by
        rw [upd_ne neD]
        exact hD3
      have hW4 : upd H3 Wl (.lst ys.reverse) Wl = some (.lst ys.reverse) := upd_same
      have hT4 := tW _ _ hT
      have hfu4 := hfu.tups tW
      have hpr4 := hpr.tups tW
      generalize upd H3 Wl (.lst ys.reverse) = H4 at s4 hD4 hW4 hT4 hfu4 hpr4 tW
      refine ⟨T, _, rfl, SqT.of hT4, rfl, _, _, rfl, _, _, rfl, rfl, ?_⟩
      -- the test
      refine ⟨_, rfl, rfl, _, rfl, iteDF (fun z => by injection z with z; omega) ?_⟩
      refine ⟨_, rfl, _, _, rfl, rfl, _, rfl, iteDF (by omega) ?_⟩
      refine ⟨_, rfl, _, rfl, x.1, fu, D, p.many, rfl, hfu4, hD4, can, fun H5 s5 => ⟨_, rfl, iteF ?_⟩⟩
      -- number += 1
      refine ⟨_, rfl, _, _, rfl, rfl, ?_⟩
      -- for inner in reversed(..)
      refine ⟨_, rfl, x.1, fu, rfl, hfu4.tups (Tups.of s5), fun H6 uu zs s6 huu hzs => ⟨uu, zs, rfl, .inr ⟨SqT.of huu, ?_⟩⟩⟩
      have hl := hzs.len
      have e1 := within_siz x.1
      have e2 := within_dep x.1
      have cw := within_can can
      have s46 := s5.trans s6
      have sz2 : ∀ n, psz (((x.1.within.list.drop n).map fun w' => (w', x.2 + 1)) ++ r) ≤ x.1.within.siz + psz r := fun n => by
        have h1 : ∀ (l : List W) (n : Nat), ((l.drop n).map W.siz).sum ≤ (l.map W.siz).sum := fun l => by
          induction l with
          | nil => intro n; simp
          | cons a l ih =>
            intro n
            cases n with
            | zero => simp
            | succ n =>
              have := ih n
              rw [List.drop_succ_cons, List.map_cons, List.sum_cons]
              omega
        have h2 := h1 x.1.within.list n
        rw [← Ws.siz_list] at h2
        unfold psz
        rw [List.map_append, List.sum_append, List.map_map]
        have e : ((fun p : W × Nat => p.1.siz) ∘ fun w' => (w', x.2 + 1)) = W.siz := rfl
        rw [e]
        omega
      refine for_it (walk_rt (K := K) (a := uu) (xs := zs)) (fun i σ H7 => ∃ (o7 : Option V) (ws : List V), σ = [some v, some u, some (.ref D), some (.ref Wl), some (.int ((num : Int) + 1)), some fu, some (.int (x.2 : Int)), o7] ∧ Same H H7 ∧ Tups H6 H7 ∧ H7 D = some (.lst ((signs p.many).map fun c => V.str (tx [c]))) ∧ H7 Wl = some (.lst ws.reverse) ∧
          PAt H7 (((x.1.within.list.drop (zs.length - i)).map fun w' => (w', x.2 + 1)) ++ r) ws)
        ⟨o7, ys, rfl, s4.trans s46, Tups.refl _, s46 _ _ hD4, s46 _ _ hW4, by
          rw [Nat.sub_zero, hl, List.drop_length]
          exact hpr4.tups (Tups.of s46)⟩ (fun i σ H7 _ ⟨_, _, _, _, t7, _⟩ => SqT.of (t7 _ _ huu)) ?_ ?_
      · rintro i y σ H7 H8 hi ⟨o7, ws, rfl, s7, t7, hD7, hW7, hp7⟩ ⟨rfl, hy⟩
        obtain ⟨w', hw', hwa⟩ := hzs.get hy
        have hlen := hp7.len
        have hle := psz_len (((x.1.within.list.drop (zs.length - i)).map fun w' => (w', x.2 + 1)) ++ r)
        have hs2 := sz2 (zs.length - i)
        refine ⟨_, rfl, .inl ⟨rfl, _, SqL.of hW7⟩, _, rfl, _, rfl, _, _, rfl, rfl, by show 2 ≤ sizeLine; decide, fun T' hT' => ?_⟩
        have sT' := Same.new hT' (.tup [y, .int ((x.2 : Int) + 1)])
        refine ⟨Wl, _, _, rfl, rfl, sT' _ _ hW7, by rw [List.length_reverse, hlen]; exact szl (by omega), ?_⟩
        have hneW : T' ≠ Wl := (ne_of_none hW7 hT').symm
        have tl : Tups (upd H8 T' (.tup [y, .int ((x.2 : Int) + 1)])) (upd (upd H8 T' (.tup [y, .int ((x.2 : Int) + 1)])) Wl (.lst (ws.reverse ++ [.ref T']))) := Tups.lst (sT' _ _ hW7)
        have tall : Tups H8 (upd (upd H8 T' (.tup [y, .int ((x.2 : Int) + 1)])) Wl (.lst (ws.reverse ++ [.ref T']))) := (Tups.of sT').trans tl
        refine ⟨some y, .ref T' :: ws, rfl, fun b o e => ?_, t7.trans tall, ?_, by rw [upd_same, List.reverse_cons], ?_⟩
        · rw [upd_ne (ne_of_none e nW)]
          exact sT' _ _ (s7 _ _ e)
        · rw [upd_ne neD]
          exact sT' _ _ hD7
        · have hdrop : x.1.within.list.drop (zs.length - (i + 1)) = w' :: x.1.within.list.drop (zs.length - i) := by
            have e3 : zs.length - (i + 1) = zs.length - 1 - i := by omega
            have e4 : zs.length - i = zs.length - 1 - i + 1 := by omega
            rw [e3, e4]
            obtain ⟨hlt, he⟩ := List.getElem?_eq_some_iff.mp hw'
            rw [← he]
            exact List.drop_eq_getElem_cons hlt
          rw [hdrop]
          refine ⟨T', y, ws, rfl, tl _ _ upd_same, hwa.tups (t7.trans tall), hp7.tups tall⟩
      · rintro σ H7 ⟨o7, ws, rfl, s7, t7, hD7, hW7, hp7⟩
        have e0 : zs.length - zs.length = 0 := Nat.sub_self _
        rw [e0, List.drop_zero] at hp7
        have hs2 := sz2 0
        rw [List.drop_zero] at hs2
        refine ⟨⟨num + 1, some fu, some (.int (x.2 : Int)), o7, _, ws, rfl, s7, hD7, hW7, hp7, by omega, fun y hy => ?_⟩, ?_⟩
        · rcases List.mem_append.mp hy with h | h
          · obtain ⟨w', hw', rfl⟩ := List.mem_map.mp h
            have := Ws.dep_mem hw'
            exact ⟨Ws.can_mem cw hw', by show 1 ≤ x.2 + 1; omega, by show x.2 + 1 + w'.dep ≤ 9; omega⟩
          · exact hall y (List.mem_cons_of_mem _ h)
        · show 60 - ((num : Int) + 1).toNat < 60 - ((num : Int)).toNat
          omega
  · rintro σ H3 Q1 Q2 hq ⟨x, e1, k, t, h⟩
    exact ⟨x, e1, k, t, hq _ _ h⟩
theorem ok_law_signs (D : Dn K mg "_law_signs" s_law_signs P_law_signs) (g : Gx mg) (c_law_take : C8.Cal P w K mg base 1 "_law_take" spTake []) : C8.Cal P w K mg base 2 "_law_signs" spLSigns [] := by
  refine D.cal sc_law_signs (fun vs H Q E h => ?_) (fun f cdv A outer s H vs Q E hr h => ?_)
  · obtain ⟨p, q, ns, z, v, pl, n, rfl, B, ⟨a, b, rfl, ha, hb⟩, ok, hn, kk⟩ := h
    rfl
  obtain ⟨p, q, ns, z, v, pl, n, rfl, B, ⟨a, b, rfl, ha, hb⟩, ok, hn, kk⟩ := h
  have nd := sc_law_signs.nd
  refine ⟨_, (pss_one (ps_ret (pe_join pe_str (pe_lc (own := [("_law_k", 3)]) rfl nd (pi_range1 (by rfl) g.range (pa_cons (C8.pe_c c_law_take hr (by decide) rfl (pa_cons (pv 0) (pa_cons (pe_op op_add (pv 2) pe_int) pa_nil))) pa_nil)) (blkOk_by (own := [("_law_k", 3)]) (N := N_law_signs) (sc := defScope s_law_signs) (by decide +kernel)) (fun _ _ _ _ _ => (pg_name (i := 3) nd rfl (.inl rfl))) (fun _ _ _ _ _ => pts_nil) (fun _ _ _ _ _ => (pe_ix ix_str pe_str (C8.pe_c c_law_take (by exact hr) (by decide) rfl (pa_cons (pv 0) (pa_cons (pe_ix (r := rIxT K) ix_tup (pv 1) pe_int (fun _ _ => rfl)) pa_nil))) (fun _ _ => rfl))))))), ?_⟩
  have hm1 := ok.m1
  have hm4 := ok.m4
  refine ⟨⟨_, rfl⟩, _, rfl, _, rfl, _, _, rfl, rfl, p, q, ns, z, (n : Int) + 1, rfl, B, by omega, p9 (by omega), fun m ns1 z1 H1 m0 m1 B1 k1 => ?_⟩
  refine ⟨m, rfl, by omega, by omega, fun D hD => ?_⟩
  have hf := B1.fresh hD
  have sD := Same.new hD (.lst [])
  refine lc_range (lo := 0) (fun i H2 => ∃ (l : List Nat) (ns2 : List Int) (z2 : Int), BoxAt H2 p q ns2 z2 ∧ Keep p q H1 H2 ∧ H2 D = some (.lst (l.map fun c => V.str (tx [c]))) ∧ l.length = i ∧ ∀ c ∈ l, c ∈ signs pl.many)
    ⟨[], ns1, z1, B1.mono sD, Keep.of sD, upd_same, rfl, fun x hx => by simp at hx⟩ ?_ ?_
  · rintro i H2 hi ⟨l, ns2, z2, B2, k2, hD2, hl, hs⟩
    refine ⟨rfl, ?_⟩
    refine ⟨_, rfl, _, rfl, a, _, 1, _, rfl, rfl, SqT.of ((k1.trans k2).tup B ha), rfl, p, q, ns2, z2, pl.many, rfl, B2, by omega, p9 (by omega), fun r ns3 z3 H3 r0 r1 B3 k3 => ?_⟩
    obtain ⟨c, hc, hat⟩ := sign_at hm4 r0 r1
    refine ⟨("abcd" : Str), r, c, rfl, rfl, by rw [s_abcd, tx_len]; exact sz (by decide), hat, ?_⟩
    have hD3 := k3 _ _ hD2 hf.1 hf.2
    refine ⟨_, hD3, by rw [List.length_map, hl]; exact szl (by omega), l ++ [c], ns3, z3, ⟨by rw [upd_ne hf.1.symm]; exact B3.b, by rw [upd_ne hf.2.symm]; exact B3.l, B3.ne⟩, fun b o e e1 e2 => ?_, ?_, by simp [hl], fun x hx => ?_⟩
    · rw [upd_ne (ne_of_none e hD)]
      exact k3 _ _ (k2 _ _ e e1 e2) e1 e2
    · rw [upd_same, List.map_append]
      rfl
    · rcases List.mem_append.mp hx with h | h
      · exact hs x h
      · have : x = c := by simpa using h
        subst this
        exact hc
  · rintro H2 ⟨l, ns2, z2, B2, k2, hD2, hl, hs⟩
    have e1 : (l.map fun c => V.str (tx [c])) = (l.map fun c => tx [c]).map V.str := by rw [List.map_map]; rfl
    rw [e1] at hD2
    have e2 := tx1_len l
    refine ⟨("" : Str), D, (l.map fun c => tx [c]), rfl, rfl, .inl (SqL.of hD2), ?_, ?_⟩
    · rw [e2, s_empty, List.length_map]
      show l.length + l.length * 0 ≤ 16777216
      omega
    · have e3 : Txt.join ("" : Str) (l.map fun c => tx [c]) = tx l := by
        have h := join_tx (l.map fun c => [c])
        rw [List.map_map] at h
        rw [flat1] at h
        rw [s_empty]
        exact h
      rw [e3]
      exact kk l ns2 z2 H2 (by omega) hs B2 (k1.trans k2)
theorem no_spLWork : ∀ vs H Q E, ¬ spLWork 0 vs H Q E := fun vs H Q E h => by
  obtain ⟨p, q, ns, z, v, pl, m, tm, _, _, _, _, h1, h2, _⟩ := h
  omega
theorem no_spLTuples : ∀ vs H Q E, ¬ spLTuples 0 vs H Q E := fun vs H Q E h => by
  obtain ⟨u, w, many, _, _, _, h, _⟩ := h
  have := W.dep_pos w
  omega
theorem no_spLCount : ∀ vs H Q E, ¬ spLCount 0 vs H Q E := fun vs H Q E h => by
  obtain ⟨u, w, many, _, _, _, h, _⟩ := h
  have := W.dep_pos w
  omega
theorem no_spLLong : ∀ vs H Q E, ¬ spLLong 0 vs H Q E := fun vs H Q E h => by
  obtain ⟨u, w, many, _, _, _, h, _⟩ := h
  have := W.dep_pos w
  omega
theorem ok_law_work (D : Dn K mg "_law_work" s_law_work P_law_work) (g : Gx mg) (c_law_take : C8.Cal P w K mg base 1 "_law_take" spTake []) : ∀ n, C8.Cal P w K mg base (n + 1) "_law_work" (spLWork n) []
  | 0 => by
    obtain ⟨f, fd, F, hm, b⟩ := D.ex
    exact ⟨f, fd, _, [], (⟨fun vs H Q E h => absurd h (no_spLWork vs H Q E), fun A outer s H args us vs Q E _ _ _ _ h => absurd h (no_spLWork vs H Q E)⟩ : FnOk _ _ _ _ _ _ _ _ _ _ _), hm, F.kp, b, .nil⟩
  | n + 1 => by
    have c_law_work := ok_law_work D g c_law_take n
    refine D.cal sc_law_work (fun vs H Q E h => ?_) (fun f cdv A outer s H vs Q E hr h => ?_)
    · obtain ⟨p, q, ns, z, v, pl, m, tm, rfl, B, hp, ok, m1, mn, htm, kk⟩ := h
      rfl
    obtain ⟨p, q, ns, z, v, pl, m, tm, rfl, B, hp, ok, m1, mn, htm, kk⟩ := h
    have nd := sc_law_work.nd
    refine ⟨_, (pss_cons (ps_set (i := 4) nd rfl (.inl rfl) (C8.pe_c c_law_take hr (by omega) rfl (pa_cons (pv 0) (pa_cons pe_int pa_nil))))
      (pss_cons (ps_if (PW.pt (pw_or (pt_cmpR op_eq (pv 2) pe_int (nomark _)) (pw_or1 (pt_cmpR op_lt (pv 4) pe_int (nomark _))))) (pss_one (ps_ret (pe_ix ix_list (pe_lst (pa_cons (pe_tup (pa_cons pe_str (pa_cons (pe_ix ix_str pe_str (C8.pe_c c_law_take hr (by omega) rfl (pa_cons (pv 0) (pa_cons (pe_ix ix_tup (pv 1) pe_int (fun _ _ => rfl)) pa_nil))) (fun _ _ => rfl)) pa_nil))) (pa_cons (pe_tup (pa_cons pe_str pa_nil)) pa_nil))) (pe_op op_modN (pv 4) pe_int) (fun _ _ => rfl)))) pss_nil)
      (pss_cons (ps_if (pt_cmpR op_lt (pv 4) pe_int (nomark _)) (pss_one (ps_ret (pe_tup (pa_cons pe_str (pa_cons (pe_callTy call_tuple_of rfl g.tuple b_tuple (pa_cons (pe_lc (own := [("_law_k", 5)]) rfl nd (pi_range1 (by rfl) g.range (pa_cons (C8.pe_c c_law_take hr (by omega) rfl (pa_cons (pv 0) (pa_cons pe_int pa_nil))) pa_nil)) (blkOk_by (own := [("_law_k", 5)]) (N := N_law_work) (sc := defScope s_law_work) (by decide +kernel)) (fun _ _ _ _ _ => (pg_name (i := 5) nd rfl (.inl rfl))) (fun _ _ _ _ _ => pts_nil) (fun _ _ _ _ _ => (C8.pe_c c_law_work (by exact hr) (by omega) rfl (pa_cons (pv 0) (pa_cons (pv 1) (pa_cons (pe_op op_sub (pv 2) pe_int) (pa_cons (pv 3) pa_nil))))))) pa_nil)) pa_nil))))) pss_nil)
      (pss_one (ps_ret (pe_tup (pa_cons pe_str (pa_cons (C8.pe_c c_law_take hr (by omega) rfl (pa_cons (pv 0) (pa_cons (pe_op op_add (pv 3) pe_int) pa_nil))) (pa_cons (C8.pe_c c_law_work hr (by omega) rfl (pa_cons (pv 0) (pa_cons (pv 1) (pa_cons (pe_op op_sub (pv 2) pe_int) (pa_cons (pv 3) pa_nil))))) pa_nil))))))))), ?_⟩
    have hm1 := ok.m1
    have hm4 := ok.m4
    obtain ⟨a, b, rfl, ha, hb⟩ := id hp
    refine ⟨_, rfl, p, q, ns, z, 8, rfl, B, by decide, p9 (by decide), fun way ns1 z1 H1 w0 w1 B1 k1 => ?_⟩
    have hp1 := hp.keep B k1
    have ha1 := k1.tup B ha
    -- a push or a pop
    refine (fun base (more : _ → _) => ⟨_, rfl, rfl, _, rfl, ite2 (fun _ => iteT base) (fun c1 => ⟨_, rfl, _, _, rfl, rfl, _, rfl, ite2 (fun _ => base) (fun c2 => more c1)⟩)⟩) ?_ ?_
    · -- [("push", sign), ("pop",)][way % 2]
      refine ⟨_, rfl, _, rfl, a, _, 1, _, rfl, rfl, SqT.of ha1, rfl, p, q, ns1, z1, pl.many, rfl, B1, by omega, p9 (by omega), fun r ns3 z3 H3 r0 r1 B3 k3 => ?_⟩
      obtain ⟨c, hc, hat⟩ := sign_at hm4 r0 r1
      refine ⟨("abcd" : Str), r, c, rfl, rfl, by rw [s_abcd, tx_len]; exact sz (by decide), hat, ?_⟩
      refine ⟨by show 2 ≤ sizeLine; decide, fun T1 hT1 => ⟨by show 1 ≤ sizeLine; decide, fun T2 hT2 => ⟨by show 2 ≤ sizeLine; decide, fun D hD => ?_⟩⟩⟩
      have s1 := Same.new hT1 (.tup [.str "push", .str (tx [c])])
      have s2 := Same.new hT2 (.tup [.str "pop"])
      have s3 := Same.new hD (.lst [.ref T1, .ref T2])
      have s13 := s1.trans (s2.trans s3)
      have k13 := k1.trans (k3.trans (Keep.of s13))
      refine ⟨_, rfl, _, _, rfl, rfl, by show ((2 : Int) ≠ 0); decide, ?_⟩
      obtain ⟨f1, f2⟩ := fmod_in (x := way) (n := 2) (by decide)
      have hr : way.fmod 2 = 0 ∨ way.fmod 2 = 1 := by omega
      rcases hr with hr | hr
      · refine ⟨D, _, way.fmod 2, .ref T1, rfl, rfl, SqL.of upd_same, by rw [hr]; rfl, ?_⟩
        exact kk (.push c) _ ns3 z3 _ hc m1 trivial ⟨T1, rfl, s3 _ _ (s2 _ _ upd_same)⟩ (B3.mono s13) k13
      · refine ⟨D, _, way.fmod 2, .ref T2, rfl, rfl, SqL.of upd_same, by rw [hr]; rfl, ?_⟩
        exact kk .pop _ ns3 z3 _ trivial m1 trivial ⟨T2, rfl, s3 _ _ upd_same⟩ (B3.mono s13) k13
    · intro c1
      have m2 : m ≠ 1 := fun z => by
        subst z
        exact c1 (decide_eq_true rfl)
      have em : (m : Int) - 1 = ((m - 1 : Nat) : Int) := by omega
      refine ⟨_, rfl, _, _, rfl, rfl, _, rfl, ite2 (fun _ => ?_) (fun _ => ?_)⟩
      · -- a row
        refine ⟨_, rfl, p, q, ns1, z1, 4, rfl, B1, by decide, p9 (by decide), fun cnt ns2 z2 H2 c0 c4 B2 k2 => ?_⟩
        refine ⟨cnt, rfl, by omega, by omega, fun D hD => ?_⟩
        have hf := B2.fresh hD
        have sD := Same.new hD (.lst [])
        refine lc_range (lo := 0) (fun i H4 => ∃ (l : List W) (us : List V) (ns4 : List Int) (z4 : Int), BoxAt H4 p q ns4 z4 ∧ Keep p q H2 H4 ∧ H4 D = some (.lst us) ∧ W2 H4 l us ∧ l.length = i ∧ ∀ w ∈ l, w.Can pl.many ∧ w.dep ≤ m - 1 ∧ w.Tm tm)
          ⟨[], [], ns2, z2, B2.mono sD, Keep.of sD, upd_same, rfl, rfl, fun x hx => by simp at hx⟩ ?_ ?_
        · rintro i H4 hi ⟨l, us, ns4, z4, B4, k4, hD4, hw4, hl, hall⟩
          refine ⟨rfl, ?_⟩
          have hp4 := (hp1.keep B1 k2).keep B2 k4
          refine ⟨_, rfl, _, rfl, _, rfl, _, _, rfl, rfl, _, rfl, p, q, ns4, z4, .ref a, pl, m - 1, tm, (by show [V.ref p, V.ref a, V.int ((m : Int) - 1), V.int (tm : Int)] = _; rw [em]), B4, hp4, ok, by omega, by omega, htm, fun wk u ns5 z5 H5 can dep ctm hu B5 k5 => ?_⟩
          have hD5 := k5 _ _ hD4 hf.1 hf.2
          have tD : Tups H5 (upd H5 D (.lst (us ++ [u]))) := Tups.lst hD5
          refine ⟨_, hD5, by rw [hw4.len, hl]; exact szl (by omega), l ++ [wk], us ++ [u], ns5, z5, ⟨by rw [upd_ne hf.1.symm]; exact B5.b, by rw [upd_ne hf.2.symm]; exact B5.l, B5.ne⟩, fun b o e e1 e2 => ?_, upd_same, (hw4.tups ((k5.tups B4).trans tD)).snoc (hu.tups tD), by simp [hl], fun x hx => ?_⟩
          · rw [upd_ne (ne_of_none e hD)]
            exact k5 _ _ (k4 _ _ e e1 e2) e1 e2
          · rcases List.mem_append.mp hx with h | h
            · exact hall x h
            · have : x = wk := by simpa using h
              subst this
              exact ⟨can, dep, ctm⟩
        · rintro H4 ⟨l, us, ns4, z4, B4, k4, hD4, hw4, hl, hall⟩
          refine ⟨D, us, rfl, .inl ⟨SqL.of hD4, fun T hT => ⟨by show 2 ≤ sizeLine; decide, fun U hU => ?_⟩⟩⟩
          have sT := Same.new hT (.tup us)
          have sU := Same.new hU (.tup [.str "row", .ref T])
          have sTU := sT.trans sU
          have hdep := ofL_dep (n := m - 1) l fun x hx => (hall x hx).2.1
          refine kk (.row (ofL l)) _ ns4 z4 _ ⟨by rw [ofL_len]; omega, ofL_can l fun x hx => (hall x hx).1⟩ (by show 1 + (ofL l).dep ≤ m; omega) ⟨by rw [ofL_len]; omega, ofL_tm l fun x hx => (hall x hx).2.2⟩ ⟨U, T, us, rfl, upd_same, sU _ _ upd_same, (hw4.tups (Tups.of sTU)).ws⟩ (B4.mono sTU) (k1.trans (k2.trans (k4.trans (Keep.of sTU))))
      · -- often
        refine ⟨_, rfl, _, rfl, _, _, rfl, rfl, p, q, ns1, z1, (tm : Int) + 1, rfl, B1, by omega, p9 (by omega), fun t ns2 z2 H2 t0 t1 B2 k2 => ?_⟩
        obtain ⟨t', rfl⟩ : ∃ t' : Nat, t = (t' : Int) := ⟨t.toNat, by omega⟩
        have hp2 := hp1.keep B1 k2
        refine ⟨_, rfl, _, rfl, _, rfl, _, _, rfl, rfl, _, rfl, p, q, ns2, z2, .ref a, pl, m - 1, tm, (by show [V.ref p, V.ref a, V.int ((m : Int) - 1), V.int (tm : Int)] = _; rw [em]), B2, hp2, ok, by omega, by omega, htm, fun wk u ns5 z5 H5 can dep ctm hu B5 k5 => ?_⟩
        refine ⟨by show 3 ≤ sizeLine; decide, fun U hU => ?_⟩
        have sU := Same.new hU (.tup [.str "times", .int (t' : Int), u])
        exact kk (.times t' wk) _ ns5 z5 _ ⟨by omega, can⟩ (by show 1 + wk.dep ≤ m; omega) ⟨by omega, ctm⟩ ⟨U, u, rfl, upd_same, hu.tups (Tups.of sU)⟩ (B5.mono sU) (k1.trans (k2.trans (k5.trans (Keep.of sU))))
theorem txs_len : ∀ ls : List (List Nat), ((ls.map tx).map (·.length)).sum = ls.flatten.length
  | [] => rfl
  | l :: r => by
    rw [List.map_cons, List.map_cons, List.sum_cons, txs_len r, List.flatten_cons, List.length_append, tx_len]
theorem sumI : ∀ (f : W → Nat) (l : List W), (l.map fun x => ((f x : Nat) : Int)).sum = (((l.map f).sum : Nat) : Int)
  | _, [] => rfl
  | f, x :: r => by
    rw [List.map_cons, List.sum_cons, List.map_cons, List.sum_cons, sumI f r]
    omega
theorem ok_law_tuples (D : Dn K mg "_law_tuples" s_law_tuples P_law_tuples) (g : Gx mg) : ∀ n, C8.Cal P w K mg base (n + 0) "_law_tuples" (spLTuples n) []
  | 0 => by
    obtain ⟨f, fd, F, hm, b⟩ := D.ex
    exact ⟨f, fd, _, [], (⟨fun vs H Q E h => absurd h (no_spLTuples vs H Q E), fun A outer s H args us vs Q E _ _ _ _ h => absurd h (no_spLTuples vs H Q E)⟩ : FnOk _ _ _ _ _ _ _ _ _ _ _), hm, F.kp, b, .nil⟩
  | n + 1 => by
    have c_law_tuples := ok_law_tuples D g n
    refine D.cal sc_law_tuples (fun vs H Q E h => ?_) (fun f cdv A outer s H vs Q E hr h => ?_)
    · obtain ⟨u, wk, many, rfl, hw, can, hd, q⟩ := h
      rfl
    obtain ⟨u, wk, many, rfl, hw, can, hd, q⟩ := h
    have nd := sc_law_tuples.nd
    refine ⟨_, (pss_cons (ps_if (pt_cmpR op_eq (pe_ix ix_tup (pv 0) pe_int (fun _ _ => rfl)) pe_str (nomark _)) (pss_one (ps_ret (pe_op op_add pe_int (C8.pe_c c_law_tuples hr (by omega) rfl (pa_cons (pe_ix ix_tup (pv 0) pe_int (fun _ _ => rfl)) pa_nil))))) pss_nil)
      (pss_one (ps_ret (pe_ifExp (pt_cmpR op_eq (pe_ix ix_tup (pv 0) pe_int (fun _ _ => rfl)) pe_str (nomark _)) (pe_op op_add pe_int (pe_callB (cr_sum rfl) rfl g.sum b_sum (pa_cons (pe_lc (own := [("_law_part", 1)]) rfl nd (pi_tup (pe_ix ix_tup (pv 0) pe_int (fun _ _ => rfl))) (blkOk_by (own := [("_law_part", 1)]) (N := N_law_tuples) (sc := defScope s_law_tuples) (by decide +kernel)) (fun _ _ _ _ _ => (pg_name (i := 1) nd rfl (.inl rfl))) (fun _ _ _ _ _ => pts_nil) (fun _ _ _ _ _ => (C8.pe_c c_law_tuples (by exact hr) (by omega) rfl (pa_cons (pv 1) pa_nil)))) pa_nil))) pe_int)))), ?_⟩
    cases wk with
    | push c =>
      obtain ⟨a, rfl, ha⟩ := hw
      refine ⟨_, rfl, a, _, 0, _, rfl, rfl, SqT.of ha, rfl, rfl, _, rfl, iteDF (vne s_pu_ti) ?_⟩
      exact ⟨_, rfl, a, _, 0, _, rfl, rfl, SqT.of ha, rfl, rfl, _, rfl, iteDF (vne s_pu_ro) (q H (Same.refl H))⟩
    | pop =>
      obtain ⟨a, rfl, ha⟩ := hw
      refine ⟨_, rfl, a, _, 0, _, rfl, rfl, SqT.of ha, rfl, rfl, _, rfl, iteDF (vne s_po_ti) ?_⟩
      exact ⟨_, rfl, a, _, 0, _, rfl, rfl, SqT.of ha, rfl, rfl, _, rfl, iteDF (vne s_po_ro) (q H (Same.refl H))⟩
    | times m wk =>
      obtain ⟨a, u, rfl, ha, hu⟩ := hw
      obtain ⟨hm, can⟩ := can
      have hd' : wk.dep ≤ n := by
        have : 1 + wk.dep ≤ n + 1 := hd
        omega
      refine ⟨_, rfl, a, _, 0, _, rfl, rfl, SqT.of ha, rfl, rfl, _, rfl, iteD rfl ?_⟩
      refine ⟨_, rfl, a, _, 2, _, rfl, rfl, SqT.of ha, rfl, u, wk, many, rfl, hu, can, hd', fun H1 s1 => ⟨_, _, rfl, rfl, ?_⟩⟩
      have e : ((W.times m wk).siz : Int) = 1 + (wk.siz : Int) := by
        show ((1 + wk.siz : Nat) : Int) = _
        omega
      have q1 := q H1 s1
      rw [e] at q1
      exact q1
    | row ws =>
      obtain ⟨a, b, xs, rfl, ha, hb, hs⟩ := hw
      obtain ⟨hlen, can⟩ := can
      have hd' : ws.dep ≤ n := by
        have : 1 + ws.dep ≤ n + 1 := hd
        omega
      have hl := hs.len
      refine ⟨_, rfl, a, _, 0, _, rfl, rfl, SqT.of ha, rfl, rfl, _, rfl, iteDF (vne s_ro_ti) ?_⟩
      refine ⟨_, rfl, a, _, 0, _, rfl, rfl, SqT.of ha, rfl, rfl, _, rfl, iteD rfl ?_⟩
      refine ⟨_, rfl, a, _, 1, _, rfl, rfl, SqT.of ha, rfl, b, rfl, ⟨_, SqT.of hb⟩, fun D hD => ?_⟩
      refine lc_it (walk_tup (K := K) (a := b) (xs := xs)) (fun i H2 => Same H H2 ∧ H2 D = some (.lst (((ws.list.take i).map fun x => ((x.siz : Nat) : Int)).map V.int))) ⟨Same.new hD _, upd_same⟩ (fun i H2 _ h2 => SqT.of (h2.1 _ _ hb)) ?_ ?_
      · rintro i x H2 H3 hi ⟨s2, h2⟩ ⟨rfl, hx⟩
        obtain ⟨wk, hwk, hwa⟩ := hs.get hx
        have hmem := List.mem_of_getElem? hwk
        have hsz : i < sizeLine := szl (by rw [hl, Ws.len_list] at hi; omega)
        refine ⟨rfl, ?_⟩
        refine ⟨_, rfl, x, wk, many, rfl, hwa.tups (Tups.of s2), Ws.can_mem can hmem, Nat.le_trans (Ws.dep_mem hmem) hd', fun H4 s4 => ⟨_, s4 _ _ h2, ?_, fun b o e => ?_, ?_⟩⟩
        · rw [List.length_map, List.length_map, List.length_take]
          exact Nat.lt_of_le_of_lt (Nat.min_le_left ..) hsz
        · rw [upd_ne (ne_of_none e hD)]
          exact s4 _ _ (s2 b o e)
        · rw [upd_same, List.take_add_one, hwk, List.map_append, List.map_append]
          rfl
      · rintro H2 ⟨s2, h2⟩
        rw [hl, List.take_of_length_le (Nat.le_refl _)] at h2
        refine ⟨D, _, rfl, SqL.of h2, _, _, rfl, rfl, ?_⟩
        rw [sumI W.siz ws.list, ← Ws.siz_list]
        have e : ((W.row ws).siz : Int) = 1 + (ws.siz : Int) := by
          show ((1 + ws.siz : Nat) : Int) = _
          omega
        have q1 := q H2 s2
        rw [e] at q1
        exact q1
theorem ok_law_long (D : Dn K mg "_law_long" s_law_long P_law_long) (g : Gx mg) : ∀ n, C8.Cal P w K mg base (n + 0) "_law_long" (spLLong n) []
  | 0 => by
    obtain ⟨f, fd, F, hm, b⟩ := D.ex
    exact ⟨f, fd, _, [], (⟨fun vs H Q E h => absurd h (no_spLLong vs H Q E), fun A outer s H args us vs Q E _ _ _ _ h => absurd h (no_spLLong vs H Q E)⟩ : FnOk _ _ _ _ _ _ _ _ _ _ _), hm, F.kp, b, .nil⟩
  | n + 1 => by
    have c_law_long := ok_law_long D g n
    refine D.cal sc_law_long (fun vs H Q E h => ?_) (fun f cdv A outer s H vs Q E hr h => ?_)
    · obtain ⟨u, wk, many, rfl, hw, can, hd, hc, h8, q⟩ := h
      rfl
    obtain ⟨u, wk, many, rfl, hw, can, hd, hc, h8, q⟩ := h
    have nd := sc_law_long.nd
    refine ⟨_, (pss_cons (ps_if (pt_cmpR op_in_seq (pe_ix ix_tup (pv 0) pe_int (fun _ _ => rfl)) (pe_tup (pa_cons pe_str (pa_cons pe_str pa_nil))) rfl) (pss_one (ps_ret (pe_ifExp (pt_cmpR op_eq (pe_ix ix_tup (pv 0) pe_int (fun _ _ => rfl)) pe_str (nomark _)) (pe_ix ix_tup (pv 0) pe_int (fun _ _ => rfl)) pe_str))) pss_nil)
      (pss_cons (ps_if (pt_cmpR op_eq (pe_ix ix_tup (pv 0) pe_int (fun _ _ => rfl)) pe_str (nomark _)) (pss_one (ps_ret (pe_op op_mulS (C8.pe_c c_law_long hr (by omega) rfl (pa_cons (pe_ix ix_tup (pv 0) pe_int (fun _ _ => rfl)) pa_nil)) (pe_ix ix_tup (pv 0) pe_int (fun _ _ => rfl))))) pss_nil)
      (pss_one (ps_ret (pe_join pe_str (pe_lc (own := [("_law_part", 1)]) rfl nd (pi_tup (pe_ix ix_tup (pv 0) pe_int (fun _ _ => rfl))) (blkOk_by (own := [("_law_part", 1)]) (N := N_law_long) (sc := defScope s_law_long) (by decide +kernel)) (fun _ _ _ _ _ => (pg_name (i := 1) nd rfl (.inl rfl))) (fun _ _ _ _ _ => pts_nil) (fun _ _ _ _ _ => (C8.pe_c c_law_long (by exact hr) (by omega) rfl (pa_cons (pv 1) pa_nil))))))))), ?_⟩
    cases wk with
    | push c =>
      obtain ⟨a, rfl, ha⟩ := hw
      refine ⟨_, rfl, a, _, 0, _, rfl, rfl, SqT.of ha, rfl, by show 2 ≤ sizeLine; decide, fun T hT => ⟨T, _, rfl, .inr (SqT.of upd_same), rfl, rfl, _, rfl, ?_⟩⟩
      have sT := Same.new hT (.tup [.str "push", .str "pop"])
      refine iteT ?_
      refine ⟨_, rfl, a, _, 0, _, rfl, rfl, SqT.of (sT _ _ ha), rfl, rfl, _, rfl, iteD rfl ?_⟩
      exact ⟨_, rfl, a, _, 1, _, rfl, rfl, SqT.of (sT _ _ ha), rfl, q _ sT⟩
    | pop =>
      obtain ⟨a, rfl, ha⟩ := hw
      refine ⟨_, rfl, a, _, 0, _, rfl, rfl, SqT.of ha, rfl, by show 2 ≤ sizeLine; decide, fun T hT => ⟨T, _, rfl, .inr (SqT.of upd_same), rfl, rfl, _, rfl, ?_⟩⟩
      have sT := Same.new hT (.tup [.str "push", .str "pop"])
      refine iteT ?_
      refine ⟨_, rfl, a, _, 0, _, rfl, rfl, SqT.of (sT _ _ ha), rfl, rfl, _, rfl, iteDF (vne s_po_pu) ?_⟩
      have q1 := q _ sT
      have e : tx (W.lng .pop) = "-" := s_minus.symm
      rw [e] at q1
      exact q1
    | times m wk =>
      obtain ⟨a, u, rfl, ha, hu⟩ := hw
      obtain ⟨hm, can⟩ := can
      have hd' : wk.dep ≤ n := by
        have : 1 + wk.dep ≤ n + 1 := hd
        omega
      have hcnt := W.cnt_lng wk
      obtain ⟨hm4, hc⟩ := hc
      have h8' : wk.dep ≤ 8 := by
        have : 1 + wk.dep ≤ 8 := h8
        omega
      have hc2 : wk.cnt ≤ 65536 := Nat.le_trans (W.cnt_le wk hc) (Nat.le_trans (Nat.pow_le_pow_right (by decide) h8') (by decide))
      have hc3 : wk.cnt * m ≤ 65536 * 4 := Nat.mul_le_mul hc2 hm4
      refine ⟨_, rfl, a, _, 0, _, rfl, rfl, SqT.of ha, rfl, by show 2 ≤ sizeLine; decide, fun T hT => ⟨T, _, rfl, .inr (SqT.of upd_same), rfl, rfl, _, rfl, ?_⟩⟩
      have sT := Same.new hT (.tup [.str "push", .str "pop"])
      refine iteF ?_
      refine ⟨_, rfl, a, _, 0, _, rfl, rfl, SqT.of (sT _ _ ha), rfl, rfl, _, rfl, iteD rfl ?_⟩
      refine ⟨_, rfl, a, _, 2, _, rfl, rfl, SqT.of (sT _ _ ha), rfl, u, wk, many, rfl, hu.tups (Tups.of sT), can, hd', hc, h8', fun H1 s1 => ⟨_, rfl, a, _, 1, _, rfl, rfl, SqT.of (s1 _ _ (sT _ _ ha)), rfl, wk.lng, m, rfl, rfl, ?_, hm, ?_⟩⟩
      · rw [← hcnt]
        omega
      · exact q H1 (sT.trans s1)
    | row ws =>
      obtain ⟨a, b, xs, rfl, ha, hb, hs⟩ := hw
      obtain ⟨hlen, can⟩ := can
      have hd' : ws.dep ≤ n := by
        have : 1 + ws.dep ≤ n + 1 := hd
        omega
      have hl := hs.len
      obtain ⟨hm4, hc⟩ := hc
      have h8' : ws.dep ≤ 8 := by
        have : 1 + ws.dep ≤ 8 := h8
        omega
      have hc1 : 4 ^ ws.dep ≤ 4 ^ 8 := Nat.pow_le_pow_right (by decide) h8'
      have hc2 : ws.cnt ≤ 3 * 4 ^ 8 := Nat.le_trans (Ws.cnt_le ws hc) (Nat.mul_le_mul hm4 hc1)
      have hc4 : 3 * 4 ^ 8 = 196608 := by decide
      refine ⟨_, rfl, a, _, 0, _, rfl, rfl, SqT.of ha, rfl, by show 2 ≤ sizeLine; decide, fun T hT => ⟨T, _, rfl, .inr (SqT.of upd_same), rfl, rfl, _, rfl, ?_⟩⟩
      have sT := Same.new hT (.tup [.str "push", .str "pop"])
      refine iteF ?_
      refine ⟨_, rfl, a, _, 0, _, rfl, rfl, SqT.of (sT _ _ ha), rfl, rfl, _, rfl, iteDF (vne s_ro_ti) ?_⟩
      refine ⟨⟨_, rfl⟩, _, rfl, a, _, 1, _, rfl, rfl, SqT.of (sT _ _ ha), rfl, b, rfl, ⟨_, SqT.of (sT _ _ hb)⟩, fun D hD => ?_⟩
      have sD := Same.new hD (.lst [])
      refine lc_it (walk_tup (K := K) (a := b) (xs := xs)) (fun i H2 => Same H H2 ∧ H2 D = some (.lst (((ws.list.take i).map W.lng).map fun l => V.str (tx l)))) ⟨sT.trans sD, upd_same⟩ (fun i H2 _ h2 => SqT.of (h2.1 _ _ hb)) ?_ ?_
      · rintro i x H2 H3 hi ⟨s2, h2⟩ ⟨rfl, hx⟩
        obtain ⟨wk, hwk, hwa⟩ := hs.get hx
        have hmem := List.mem_of_getElem? hwk
        have hsz : i < sizeLine := szl (by rw [hl, Ws.len_list] at hi; omega)
        have nD : H D = none := sT.free hD
        refine ⟨rfl, ?_⟩
        refine ⟨_, rfl, x, wk, many, rfl, hwa.tups (Tups.of s2), Ws.can_mem can hmem, Nat.le_trans (Ws.dep_mem hmem) hd', Ws.tm_mem hc hmem, Nat.le_trans (Ws.dep_mem hmem) h8', fun H4 s4 => ⟨_, s4 _ _ h2, ?_, fun b o e => ?_, ?_⟩⟩
        · rw [List.length_map, List.length_map, List.length_take]
          exact Nat.lt_of_le_of_lt (Nat.min_le_left ..) hsz
        · rw [upd_ne (ne_of_none e nD)]
          exact s4 _ _ (s2 b o e)
        · rw [upd_same, List.take_add_one, hwk, List.map_append, List.map_append]
          rfl
      · rintro H2 ⟨s2, h2⟩
        rw [hl, List.take_of_length_le (Nat.le_refl _)] at h2
        have e1 : ((ws.list.map W.lng).map fun l => V.str (tx l)) = ((ws.list.map W.lng).map tx).map V.str := by rw [List.map_map (f := tx)]; rfl
        rw [e1] at h2
        refine ⟨("" : Str), D, _, rfl, rfl, .inl (SqL.of h2), ?_, ?_⟩
        · rw [s_empty, txs_len, List.length_map, List.length_map, ← Ws.lng_list, ← Ws.cnt_lng]
          show ws.cnt + ws.list.length * 0 ≤ 16777216
          omega
        · rw [s_empty, join_tx, ← Ws.lng_list]
          exact q H2 s2
theorem ok_law_some (D : Dn K mg "_law_some" s_law_some P_law_some) (g : Gx mg) (c_law_work : C8.Cal P w K mg base 9 "_law_work" (spLWork 8) []) (c_law_tuples : C8.Cal P w K mg base 8 "_law_tuples" (spLTuples 8) []) : C8.Cal P w K mg base 10 "_law_some" (spLSome 8) [] := by
  refine D.cal sc_law_some (fun vs H Q E h => ?_) (fun f cdv A outer s H vs Q E hr h => ?_)
  · obtain ⟨p, q, ns, z, v, pl, m, tm, lim, rfl, B, hp, ok, m1, m8, m2, tm2, htm, hlim, kk⟩ := h
    rfl
  obtain ⟨p, q, ns, z, v, pl, m, tm, lim, rfl, B, hp, ok, m1, m8, m2, tm2, htm, hlim, kk⟩ := h
  have nd := sc_law_some.nd
  refine ⟨_, (pss_cons (ps_set (i := 5) nd rfl (.inl rfl) (C8.pe_c c_law_work hr (by decide) rfl (pa_cons (pv 0) (pa_cons (pv 1) (pa_cons (pv 2) (pa_cons (pv 3) pa_nil))))))
    (pss_one (ps_ret (pe_ifExp (pt_cmpR op_le (C8.pe_c c_law_tuples hr (by decide) rfl (pa_cons (pv 5) pa_nil)) (pv 4) (nomark _)) (pv 5) (pe_tup (pa_cons pe_str (pa_cons pe_int (pa_cons (pe_tup (pa_cons pe_str pa_nil)) pa_nil)))))))), ?_⟩
  refine ⟨_, rfl, _, rfl, _, rfl, _, rfl, p, q, ns, z, v, pl, m, tm, rfl, B, hp, ok, m1, m8, htm, fun wk u ns1 z1 H1 can dep ctm hu B1 k1 => ?_⟩
  refine ⟨_, rfl, u, wk, pl.many, rfl, hu, can, by omega, fun H2 s2 => ?_⟩
  have k2 := k1.trans (Keep.of s2)
  refine ⟨_, rfl, _, _, rfl, rfl, _, rfl, ite2 (fun c => ?_) (fun c => ?_)⟩
  · have c' := of_decide_eq_true c
    exact ⟨_, rfl, kk wk u ns1 z1 H2 can dep (by omega) ctm (hu.tups (Tups.of s2)) (B1.mono s2) k2⟩
  · refine ⟨by show 1 ≤ sizeLine; decide, fun T hT => ⟨by show 3 ≤ sizeLine; decide, fun U hU => ?_⟩⟩
    have sT := Same.new hT (.tup [.str "pop"])
    have sU := Same.new hU (.tup [.str "times", .int 2, .ref T])
    exact kk (.times 2 .pop) _ ns1 z1 _ ⟨by decide, trivial⟩ m2 hlim ⟨tm2, trivial⟩ ⟨U, .ref T, rfl, upd_same, T, rfl, sU _ _ upd_same⟩ (B1.mono (s2.trans (sT.trans sU))) (k2.trans (Keep.of (sT.trans sU)))
variable {C : Addr}
theorem upx {x pa C dx : Addr} {H' : Hp} {fs : List (Str × V)} (hne : x ≠ pa) (h : H' x = some (.ins C dx fs)) (fs' : List (Str × V)) : Keep x pa H' (upd H' x (.ins C dx fs')) ∧ Tups H' (upd H' x (.ins C dx fs')) ∧ upd H' x (.ins C dx fs') x = some (.ins C dx fs') ∧ (∀ ys, H' pa = some (.lst ys) → upd H' x (.ins C dx fs') pa = some (.lst ys)) := by
  refine ⟨fun b o e1 e2 e3 => by rw [upd_ne e2]; exact e1, ⟨fun b ys e1 => ?_, fun b o ys e1 => ?_⟩, upd_same, fun ys e1 => ?_⟩
  · rw [upd_ne (ne_of e1 h (by intro z; cases z))]
    exact e1
  · rw [upd_ne (ne_of e1 h (by intro z; cases z))]
    exact e1
  · rw [upd_ne hne.symm]
    exact e1
theorem ok_check_sign (D : Dn K mg "check_sign" s_check_sign P_check_sign) (g : Gx mg) (c_signs_of : C8.Cal P w K mg base 1 "signs_of" spSigns []) : C8.Cal P w K mg base 2 "check_sign" spChSign [] := by
  refine D.cal sc_check_sign (fun vs H Q E h => ?_) (fun f cdv A outer s H vs Q E hr h => ?_)
  · obtain ⟨v, p, c, rfl, hp, ok, hc, q⟩ := h
    rfl
  obtain ⟨v, p, c, rfl, hp, ok, hc, q⟩ := h
  have nd := sc_check_sign.nd
  refine ⟨_, (pss_one (ps_if (pt_cmpR op_notIn_seq (pv 1) (pe_callTy (call_listS rfl) rfl g.list b_list (pa_cons (C8.pe_c c_signs_of hr (by decide) rfl (pa_cons (pv 0) pa_nil)) pa_nil)) rfl) (pss_one ps_never) pss_nil)), ?_⟩
  have h4 := signs_len p.many
  refine ⟨_, rfl, _, rfl, v, p, rfl, hp, ok, fun H1 s1 => ⟨_, rfl, by rw [tx_len]; exact sz (by omega), fun D hD => ?_⟩⟩
  rw [tx_list]
  have sD := Same.new hD (.lst ((signs p.many).map fun c => V.str ⟨#[c]⟩))
  have hDD : upd H1 D (.lst ((signs p.many).map fun c => V.str ⟨#[c]⟩)) D = some (.lst ((signs p.many).map fun c => V.str (tx [c]))) := upd_same
  generalize upd H1 D (.lst ((signs p.many).map fun c => V.str ⟨#[c]⟩)) = H2 at sD hDD
  refine ⟨D, _, rfl, .inl (SqL.of hDD), rfl, flat_signs _, _, rfl, ?_⟩
  rw [if_pos rfl, inV_sign hc]
  exact iteF (q _ (s1.trans sD))
theorem ok_M_add_deed (D : Dm K C "_add_deed" "Machine._add_deed" s_M_add_deed P_M_add_deed) (T : MT K C) (g : Gx mg) (c_stack_behind : C8.Cal P w K mg base 2 "stack_behind" spBehind []) (c_join_triples : C8.Cal P w K mg base 2 "join_triples" spJoin []) : C8.Met P w K mg base 3 C "_add_deed" (spMDeed C) [] := by
  refine D.met T.cl sc_M_add_deed (fun vs H Q E h => ?_) (fun f cdv A outer s H vs Q E hr h => ?_)
  · obtain ⟨x, pa, m, u, t, z, rfl, M, ok, hl, hu, tok, q⟩ := h
    rfl
  obtain ⟨x, pa, m, u, t, z, rfl, M, ok, hl, hu, tok, q⟩ := h
  have nd := sc_M_add_deed.nd
  refine ⟨_, (pss_cons (ps_expr (pe_bm PySem.F.plainAttrs_list PySem.F.slot_list_append PySem.F.type_list_append mt_append (pe_fld (pv 0) rfl) (pa_cons (pe_tup (pa_cons (pe_fld (pv 0) rfl) (pa_cons (pe_fld (pv 0) rfl) (pa_cons (pe_fld (pv 0) rfl) pa_nil)))) pa_nil)))
    (pss_cons (ps_fld (pv 0) (C8.pe_c c_stack_behind hr (by decide) rfl (pa_cons (pv 1) (pa_cons (pe_fld (pv 0) rfl) pa_nil))) rfl)
    (pss_cons (ps_fld (pv 0) (pe_op op_add (pe_fld (pv 0) rfl) (pv 2)) rfl)
    (pss_one (ps_fld (pv 0) (C8.pe_c c_join_triples hr (by decide) rfl (pa_cons (pe_fld (pv 0) rfl) (pa_cons (pv 1) pa_nil))) rfl))))), ?_⟩
  obtain ⟨⟨dx, pv, tv, hx, hpv, htv⟩, xs, hpa, hP⟩ := id M
  have hne := M.ne
  have hlen := hP.len
  have rl := ok.p.r9
  have okl := ok.l
  have kl := tok.kl
  have mkl := ok.t.kl
  refine ⟨_, rfl, x, C, dx, _, _, rfl, hx, T.cl, T.nPast, mf_past, .inl ⟨rfl, _, SqL.of hpa⟩, ?_⟩
  refine ⟨_, rfl, x, C, dx, _, _, rfl, hx, T.cl, T.nStack, mf_stack, _, rfl, x, C, dx, _, _, rfl, hx, T.cl, T.nSpent, mf_spent, _, rfl, x, C, dx, _, _, rfl, hx, T.cl, T.nTriple, mf_triple, by show 3 ≤ sizeLine; decide, fun e he => ?_⟩
  have se := Same.new he (.tup [.str (tx m.l), .int m.z, tv])
  refine ⟨pa, xs, _, rfl, rfl, se _ _ hpa, by rw [hlen]; exact szl (by omega), ?_⟩
  -- the heap with one more behind
  have hx1 : upd (upd H e (.tup [.str (tx m.l), .int m.z, tv])) pa (.lst (xs ++ [.ref e])) x = some (.ins C dx (mf pv m.l m.z tv pa)) := by
    rw [upd_ne hne]
    exact se _ _ hx
  have hpa1 : upd (upd H e (.tup [.str (tx m.l), .int m.z, tv])) pa (.lst (xs ++ [.ref e])) pa = some (.lst (xs ++ [.ref e])) := upd_same
  have k1 : Keep x pa H (upd (upd H e (.tup [.str (tx m.l), .int m.z, tv])) pa (.lst (xs ++ [.ref e]))) := Keep.two (Keep.of se) _
  have t1 := k1.tupsM M
  have hP1 : PastAt (upd (upd H e (.tup [.str (tx m.l), .int m.z, tv])) pa (.lst (xs ++ [.ref e]))) (m.past ++ [(m.l, m.z, m.t)]) (xs ++ [.ref e]) :=
    (hP.tups t1).snoc (tv := tv) (by rw [upd_ne (ne_of (upd_same (H := H) (a := e)) (se _ _ hpa) (by intro z; cases z))]; exact upd_same) (htv.tups t1)
  generalize upd (upd H e (.tup [.str (tx m.l), .int m.z, tv])) pa (.lst (xs ++ [.ref e])) = H1 at hx1 hpa1 k1 t1 hP1
  refine ⟨_, rfl, _, rfl, x, C, dx, _, _, rfl, hx1, T.cl, T.nStack, mf_stack, u, t, m.l, rfl, hu.tups t1, by omega, by omega, fun H2 s2 => ?_⟩
  have hx2 := s2 _ _ hx1
  refine ⟨_, rfl, x, C, dx, _, rfl, hx2, T.cl, T.nStack, (show 5 < 1000 by decide), ?_⟩
  rw [put_stack]
  obtain ⟨k3, t3, hx3, p3⟩ := upx hne hx2 (mf pv (tby t m.l) m.z tv pa)
  have hpa3 := p3 _ (s2 _ _ hpa1)
  have t13 := t1.trans ((Tups.of s2).trans t3)
  have k13 := k1.trans ((Keep.of s2).trans k3)
  have hP3 := hP1.tups ((Tups.of s2).trans t3)
  generalize upd H2 x (.ins C dx (mf pv (tby t m.l) m.z tv pa)) = H3 at hx3 hpa3 t13 k13 hP3
  refine ⟨_, rfl, x, C, dx, _, _, rfl, hx3, T.cl, T.nSpent, mf_spent, _, rfl, _, _, rfl, rfl, _, rfl, x, C, dx, _, rfl, hx3, T.cl, T.nSpent, (show 5 < 1000 by decide), ?_⟩
  rw [put_spent]
  obtain ⟨k4, t4, hx4, p4⟩ := upx hne hx3 (mf pv (tby t m.l) (m.z + z) tv pa)
  have hpa4 := p4 _ hpa3
  have t14 := t13.trans t4
  have k14 := k13.trans k4
  have hP4 := hP3.tups t4
  generalize upd H3 x (.ins C dx (mf pv (tby t m.l) (m.z + z) tv pa)) = H4 at hx4 hpa4 t14 k14 hP4
  refine ⟨_, rfl, x, C, dx, _, _, rfl, hx4, T.cl, T.nTriple, mf_triple, _, rfl, tv, u, m.t, t, rfl, htv.tups t14, hu.tups t14, by omega, by omega, fun H5 v5 s5 h5 => ?_⟩
  have hx5 := s5 _ _ hx4
  refine ⟨_, rfl, x, C, dx, _, rfl, hx5, T.cl, T.nTriple, (show 5 < 1000 by decide), ?_⟩
  rw [put_triple]
  obtain ⟨k6, t6, hx6, p6⟩ := upx hne hx5 (mf pv (tby t m.l) (m.z + z) v5 pa)
  have hpa6 := p6 _ (s5 _ _ hpa4)
  exact q _ (k14.trans ((Keep.of s5).trans k6)) ⟨⟨dx, pv, v5, hx6, hpv.tups (t14.trans ((Tups.of s5).trans t6)), h5.tups t6⟩, _, hpa6, hP4.tups ((Tups.of s5).trans t6)⟩
theorem ok_M_add_step (D : Dm K C "_add_step" "Machine._add_step" s_M_add_step P_M_add_step) (T : MT K C) (g : Gx mg) (c_triple_of_step : C8.Cal P w K mg base 2 "triple_of_step" spTStep []) (c_price_of_step : C8.Cal P w K mg base 1 "price_of_step" spPStep []) (c_M_add_deed : C8.Met P w K mg base 3 C "_add_deed" (spMDeed C) []) : C8.Met P w K mg base 4 C "_add_step" (spMStep C) [] := by
  refine D.met T.cl sc_M_add_step (fun vs H Q E h => ?_) (fun f cdv A outer s H vs Q E hr h => ?_)
  · obtain ⟨x, pa, m, c, rfl, M, ok, hl, hc, q⟩ := h
    rfl
  obtain ⟨x, pa, m, c, rfl, M, ok, hl, hc, q⟩ := h
  have nd := sc_M_add_step.nd
  refine ⟨_, (pss_one (ps_expr (C8.pe_mt c_M_add_deed hr (by decide) (pv 0) (pa_cons (C8.pe_c c_triple_of_step hr (by decide) rfl (pa_cons (pe_fld (pv 0) rfl) (pa_cons (pv 1) pa_nil))) (pa_cons (C8.pe_c c_price_of_step hr (by decide) rfl (pa_cons (pe_fld (pv 0) rfl) (pa_cons (pv 1) pa_nil))) pa_nil))))), ?_⟩
  obtain ⟨⟨dx, pv, tv, hx, hpv, htv⟩, xs, hpa, hP⟩ := id M
  have tok := tstep_ok (room := m.p.room) (many := m.p.many) ok.p.r1 hc
  refine ⟨_, rfl, x, dx, _, rfl, hx, mf_no (by decide +kernel) (by decide +kernel) (by decide +kernel) (by decide +kernel) (by decide +kernel), ?_⟩
  refine ⟨_, rfl, x, C, dx, _, _, rfl, hx, T.cl, T.nPlan, mf_plan, _, rfl, pv, m.p, c, rfl, hpv, ok.p, fun H1 v1 s1 h1 => ?_⟩
  refine ⟨_, rfl, x, C, dx, _, _, rfl, s1 _ _ hx, T.cl, T.nPlan, mf_plan, _, rfl, pv, m.p, c, rfl, hpv.mono s1, ok.p, hc, fun H2 s2 => ?_⟩
  exact ⟨x, pa, m, v1, _, _, rfl, M.mono (s1.trans s2), ok, hl, h1.mono s2, tok, fun H3 k3 M3 => q H3 ((Keep.of (s1.trans s2)).trans k3) M3⟩
theorem ok_M_do (D : Dm K C "do" "Machine.do" s_M_do P_M_do) (T : MT K C) (g : Gx mg) (c_check_work : C8.Cal P w K mg base 3 "check_work" spChWork []) (c_triple_of_work : C8.Cal P w K mg base 11 "triple_of_work" (spTri 8) []) (c_price_of_work : C8.Cal P w K mg base 9 "price_of_work" (spPWork 8) []) (c_M_add_deed : C8.Met P w K mg base 3 C "_add_deed" (spMDeed C) []) : C8.Met P w K mg base 12 C "do" (spMDo C) [] := by
  refine D.met T.cl sc_M_do (fun vs H Q E h => ?_) (fun f cdv A outer s H vs Q E hr h => ?_)
  · obtain ⟨x, pa, m, u, wk, rfl, M, ok, hl, hw, wok, q⟩ := h
    rfl
  obtain ⟨x, pa, m, u, wk, rfl, M, ok, hl, hw, wok, q⟩ := h
  have nd := sc_M_do.nd
  refine ⟨_, (pss_cons (ps_expr (C8.pe_c c_check_work hr (by decide) rfl (pa_cons (pe_fld (pv 0) rfl) (pa_cons (pv 1) pa_nil))))
    (pss_cons (ps_expr (C8.pe_mt c_M_add_deed hr (by decide) (pv 0) (pa_cons (C8.pe_c c_triple_of_work hr (by decide) rfl (pa_cons (pe_fld (pv 0) rfl) (pa_cons (pv 1) pa_nil))) (pa_cons (C8.pe_c c_price_of_work hr (by decide) rfl (pa_cons (pe_fld (pv 0) rfl) (pa_cons (pv 1) pa_nil))) pa_nil))))
    (pss_one (ps_ret (pe_fld (pv 0) rfl))))), ?_⟩
  obtain ⟨⟨dx, pv, tv, hx, hpv, htv⟩, xs, hpa, hP⟩ := id M
  have tok := W.tri_ok (room := m.p.room) ok.p.r1 wk wok.can
  refine ⟨_, rfl, x, C, dx, _, _, rfl, hx, T.cl, T.nPlan, mf_plan, _, rfl, pv, m.p, u, wk, rfl, hpv, ok.p, hw, wok, fun H1 s1 => ?_⟩
  have hx1 := s1 _ _ hx
  refine ⟨_, rfl, x, dx, _, rfl, hx1, mf_no (by decide +kernel) (by decide +kernel) (by decide +kernel) (by decide +kernel) (by decide +kernel), ?_⟩
  refine ⟨_, rfl, x, C, dx, _, _, rfl, hx1, T.cl, T.nPlan, mf_plan, _, rfl, pv, m.p, u, wk, rfl, hpv.mono s1, ok.p, hw.tups (Tups.of s1), wok.can, wok.dep, fun H2 v2 s2 h2 => ?_⟩
  have s12 := s1.trans s2
  refine ⟨_, rfl, x, C, dx, _, _, rfl, s12 _ _ hx, T.cl, T.nPlan, mf_plan, _, rfl, pv, m.p, u, wk, rfl, hpv.mono s12, ok.p, hw.tups (Tups.of s12), wok.can, wok.dep, fun H3 s3 => ?_⟩
  have s13 := s12.trans s3
  refine ⟨x, pa, m, v2, _, _, rfl, M.mono s13, ok, hl, h2.mono s3, tok, fun H4 k4 M4 => ?_⟩
  obtain ⟨⟨dx4, pv4, tv4, hx4, _, _⟩, _⟩ := id M4
  exact ⟨_, rfl, x, C, dx4, _, _, rfl, hx4, T.cl, T.nStack, mf_stack, q H4 ((Keep.of s13).trans k4) M4⟩
theorem ok_M_push (D : Dm K C "push" "Machine.push" s_M_push P_M_push) (T : MT K C) (g : Gx mg) (c_check_sign : C8.Cal P w K mg base 2 "check_sign" spChSign []) (c_M_add_step : C8.Met P w K mg base 4 C "_add_step" (spMStep C) []) : C8.Met P w K mg base 5 C "push" (spMPush C) [] := by
  refine D.met T.cl sc_M_push (fun vs H Q E h => ?_) (fun f cdv A outer s H vs Q E hr h => ?_)
  · obtain ⟨x, pa, m, c, rfl, M, ok, hl, hc, q⟩ := h
    rfl
  obtain ⟨x, pa, m, c, rfl, M, ok, hl, hc, q⟩ := h
  have nd := sc_M_push.nd
  refine ⟨_, (pss_cons (ps_expr (C8.pe_c c_check_sign hr (by decide) rfl (pa_cons (pe_fld (pv 0) rfl) (pa_cons (pv 1) pa_nil))))
    (pss_cons (ps_set (i := 2) nd rfl (.inl rfl) (pe_fld (pv 0) rfl))
    (pss_cons (ps_expr (C8.pe_mt c_M_add_step hr (by decide) (pv 0) (pa_cons (pv 1) pa_nil)))
    (pss_cons (ps_if (pt_cmpR op_eq (pe_callB call_len_str rfl g.len PySem.boot_len (pa_cons (pv 2) pa_nil)) (pe_ix ix_tup (pe_fld (pv 0) rfl) pe_int (fun _ _ => rfl)) (nomark _)) (pss_one (ps_ret (pe_ix ix_str (pv 2) pe_int (fun _ _ => rfl)))) pss_nil)
    (pss_one (ps_ret pe_non)))))), ?_⟩
  obtain ⟨⟨dx, pv, tv, hx, hpv, htv⟩, xs, hpa, hP⟩ := id M
  have rl := ok.p.r9
  have okl := ok.l
  refine ⟨_, rfl, x, C, dx, _, _, rfl, hx, T.cl, T.nPlan, mf_plan, _, rfl, pv, m.p, c, rfl, hpv, ok.p, hc, fun H1 s1 => ?_⟩
  have hx1 := s1 _ _ hx
  refine ⟨_, rfl, x, C, dx, _, _, rfl, hx1, T.cl, T.nStack, mf_stack, ?_⟩
  refine ⟨_, rfl, x, dx, _, rfl, hx1, mf_no (by decide +kernel) (by decide +kernel) (by decide +kernel) (by decide +kernel) (by decide +kernel), _, rfl, x, pa, m, c, rfl, M.mono s1, ok, hl, .inr hc, fun H2 k2 M2 => ?_⟩
  have k12 := (Keep.of s1).trans k2
  have q2 := q H2 k12 M2
  obtain ⟨⟨dx2, pv2, tv2, hx2, hpv2, _⟩, _⟩ := id M2
  obtain ⟨a, b, rfl, ha2, hb2⟩ := id hpv2
  refine ⟨_, rfl, _, rfl, by rw [tx_len]; exact sz (by omega), _, rfl, x, C, dx2, _, _, rfl, hx2, T.cl, T.nPlan, mf_plan, a, _, 0, _, rfl, rfl, SqT.of ha2, rfl, rfl, _, rfl, ?_⟩
  rw [tx_len]
  unfold fallV at q2
  cases el : m.l with
  | nil =>
    rw [el] at q2
    refine iteDF (fun z => ?_) q2
    injection z with z
    have := ok.p.r1
    have z2 : ((0 : Nat) : Int) = (m.p.room : Int) := z
    omega
  | cons d r =>
    rw [el] at q2
    by_cases e : (d :: r).length = m.p.room
    · have q3 : Q (.str (tx [d])) H2 := by
        have q4 := q2
        dsimp only at q4
        rw [if_pos e] at q4
        exact q4
      refine iteD (congrArg (fun n : Nat => V.int (n : Int)) e) ?_
      refine ⟨_, rfl, _, _, d, rfl, rfl, by rw [tx_len, ← el]; exact sz (by omega), atI_nat (j := 0) rfl, q3⟩
    · have q3 : Q .non H2 := by
        have q4 := q2
        dsimp only at q4
        rw [if_neg e] at q4
        exact q4
      refine iteDF (fun z => e ?_) q3
      injection z with z
      exact Int.ofNat.inj z
theorem ok_M_pop (D : Dm K C "pop" "Machine.pop" s_M_pop P_M_pop) (T : MT K C) (g : Gx mg) (c_M_add_step : C8.Met P w K mg base 4 C "_add_step" (spMStep C) []) : C8.Met P w K mg base 5 C "pop" (spMPop C) [] := by
  refine D.met T.cl sc_M_pop (fun vs H Q E h => ?_) (fun f cdv A outer s H vs Q E hr h => ?_)
  · obtain ⟨x, pa, m, rfl, M, ok, hl, q⟩ := h
    rfl
  obtain ⟨x, pa, m, rfl, M, ok, hl, q⟩ := h
  have nd := sc_M_pop.nd
  refine ⟨_, (pss_cons (ps_set (i := 1) nd rfl (.inl rfl) (pe_fld (pv 0) rfl))
    (pss_cons (ps_expr (C8.pe_mt c_M_add_step hr (by decide) (pv 0) (pa_cons (C8.pe_gc rfl g.POP_STEP) pa_nil)))
    (pss_cons (ps_if (pt_cmpR op_gt (pe_callB call_len_str rfl g.len PySem.boot_len (pa_cons (pv 1) pa_nil)) pe_int (nomark _)) (pss_one (ps_ret (pe_ix ix_str (pv 1) (pe_un un_neg pe_int) (fun _ _ => rfl)))) pss_nil)
    (pss_one (ps_ret pe_non))))), ?_⟩
  obtain ⟨⟨dx, pv, tv, hx, hpv, htv⟩, xs, hpa, hP⟩ := id M
  have rl := ok.p.r9
  have okl := ok.l
  refine ⟨_, rfl, x, C, dx, _, _, rfl, hx, T.cl, T.nStack, mf_stack, ?_⟩
  refine ⟨_, rfl, x, dx, _, rfl, hx, mf_no (by decide +kernel) (by decide +kernel) (by decide +kernel) (by decide +kernel) (by decide +kernel), x, pa, m, 45, rfl, M, ok, hl, .inl rfl, fun H2 k2 M2 => ?_⟩
  have q2 := q H2 k2 M2
  refine ⟨_, rfl, _, rfl, by rw [tx_len]; exact sz (by omega), _, _, rfl, rfl, _, rfl, ?_⟩
  rw [tx_len]
  unfold topV at q2
  cases el : m.l.getLast? with
  | none =>
    rw [el] at q2
    have e0 : m.l = [] := List.getLast?_eq_none_iff.mp el
    rw [e0]
    exact iteDF (by decide) q2
  | some d =>
    rw [el] at q2
    have hne : m.l ≠ [] := fun z => by
      rw [z] at el
      cases el
    have hpos := List.length_pos_iff.mpr hne
    refine iteD (by omega) ?_
    refine ⟨_, rfl, _, rfl, _, _, d, rfl, rfl, by rw [tx_len]; exact sz (by omega), ?_, q2⟩
    show (ixN m.l.length (-1)).bind (fun j => m.l[j]?) = some d
    have e1 : ixN m.l.length (-1) = some (m.l.length - 1) := by
      unfold ixN
      rw [if_neg (by omega)]
      rw [if_pos (by omega)]
      congr 1
      omega
    rw [e1]
    show m.l[m.l.length - 1]? = some d
    rw [← List.getLast?_eq_getElem?]
    exact el
theorem ok_M_back (D : Dm K C "back" "Machine.back" s_M_back P_M_back) (T : MT K C) (g : Gx mg) : C8.Met P w K mg base 1 C "back" (spMBack C) [] := by
  refine D.met T.cl sc_M_back (fun vs H Q E h => ?_) (fun f cdv A outer s H vs Q E hr h => ?_)
  · obtain ⟨x, pa, m, rfl, M, q1, q2⟩ := h
    rfl
  obtain ⟨x, pa, m, rfl, M, q1, q2⟩ := h
  have nd := sc_M_back.nd
  refine ⟨_, (pss_cons (ps_if (pt_cmpR op_eq (pe_callB call_len_seq rfl g.len PySem.boot_len (pa_cons (pe_fld (pv 0) rfl) pa_nil)) pe_int (nomark _)) (pss_one (ps_ret pe_bl)) pss_nil)
    (pss_cons (ps_asg (pe_bm0 PySem.F.plainAttrs_list PySem.F.slot_list_pop PySem.F.type_list_pop mt_pop (pe_fld (pv 0) rfl)) (pg_tup (by rfl) (pgs_cons (pg_fld (pv 0)) (pgs_cons (pg_fld (pv 0)) (pgs_cons (pg_fld (pv 0)) pgs_nil)))))
    (pss_one (ps_ret pe_bl)))), ?_⟩
  obtain ⟨⟨dx, pv, tv, hx, hpv, htv⟩, xs, hpa, hP⟩ := id M
  have hlen := hP.len
  have hne := M.ne
  refine ⟨_, rfl, x, C, dx, _, _, rfl, hx, T.cl, T.nPast, mf_past, pa, _, rfl, .inl (SqL.of hpa), rfl, _, rfl, ?_⟩
  cases List.eq_nil_or_concat m.past with
  | inl e =>
    have e1 : xs.length = 0 := by rw [hlen, e]; rfl
    rw [e1]
    exact iteD rfl (q1 e H (Same.refl H))
  | inr h =>
    obtain ⟨ps, y, e⟩ := h
    rw [List.concat_eq_append] at e
    refine iteDF (fun z => ?_) ?_
    · injection z with z
      have e1 : xs.length = ps.length + 1 := by rw [hlen, e]; simp
      omega
    rw [e] at hP
    obtain ⟨ea, etv, us, rfl, hea, hetv, hus⟩ := hP.last
    refine ⟨_, rfl, x, C, dx, _, _, rfl, hx, T.cl, T.nPast, mf_past, .inl ⟨rfl, _, SqL.of hpa⟩, pa, _, .ref ea, rfl, rfl, hpa, ?_, ?_⟩
    · show (us ++ [V.ref ea])[(us ++ [V.ref ea]).length - 1]? = some (.ref ea)
      simp
    rw [List.dropLast_concat]
    have tp : Tups H (upd H pa (.lst us)) := Tups.lst hpa
    have hx1 : upd H pa (.lst us) x = some (.ins C dx (mf pv m.l m.z tv pa)) := by
      rw [upd_ne hne]
      exact hx
    have hpa1 : upd H pa (.lst us) pa = some (.lst us) := upd_same
    have k1 : Keep x pa H (upd H pa (.lst us)) := Keep.two (Keep.refl x pa H) _
    have hea1 := tp _ _ hea
    generalize upd H pa (.lst us) = H1 at tp hx1 hpa1 k1 hea1
    have hP1 := hus.tups tp
    refine ⟨ea, _, rfl, SqT.of hea1, rfl, ?_⟩
    refine ⟨_, _, rfl, _, rfl, x, C, dx, _, rfl, hx1, T.cl, T.nStack, (show 5 < 1000 by decide), ?_⟩
    rw [put_stack]
    obtain ⟨k2, t2, hx2, p2⟩ := upx hne hx1 (mf pv y.1 m.z tv pa)
    have hpa2 := p2 _ hpa1
    generalize upd H1 x (.ins C dx (mf pv y.1 m.z tv pa)) = H2 at k2 t2 hx2 hpa2
    refine ⟨_, _, rfl, _, rfl, x, C, dx, _, rfl, hx2, T.cl, T.nSpent, (show 5 < 1000 by decide), ?_⟩
    rw [put_spent]
    obtain ⟨k3, t3, hx3, p3⟩ := upx hne hx2 (mf pv y.1 y.2.1 tv pa)
    have hpa3 := p3 _ hpa2
    generalize upd H2 x (.ins C dx (mf pv y.1 y.2.1 tv pa)) = H3 at k3 t3 hx3 hpa3
    refine ⟨_, _, rfl, _, rfl, x, C, dx, _, rfl, hx3, T.cl, T.nTriple, (show 5 < 1000 by decide), ?_⟩
    rw [put_triple]
    obtain ⟨k4, t4, hx4, p4⟩ := upx hne hx3 (mf pv y.1 y.2.1 etv pa)
    have hpa4 := p4 _ hpa3
    have t14 := t2.trans (t3.trans t4)
    refine ⟨rfl, ?_⟩
    exact q2 ps y e _ (k1.trans (k2.trans (k3.trans k4))) ⟨⟨dx, pv, etv, hx4, hpv.tups (tp.trans t14), hetv.tups (tp.trans t14)⟩, us, hpa4, hP1.tups t14⟩
theorem ok_M_stack (D : Dm K C "stack" "Machine.stack" s_M_stack P_M_stack) (T : MT K C) (g : Gx mg) : C8.Met P w K mg base 1 C "stack" (spMStack C) [] := by
  refine D.met T.cl sc_M_stack (fun vs H Q E h => ?_) (fun f cdv A outer s H vs Q E hr h => ?_)
  · obtain ⟨x, pa, m, rfl, M, q⟩ := h
    rfl
  obtain ⟨x, pa, m, rfl, M, q⟩ := h
  have nd := sc_M_stack.nd
  refine ⟨_, (pss_one (ps_ret (pe_fld (pv 0) rfl))), ?_⟩
  obtain ⟨⟨dx, pv, tv, hx, hpv, htv⟩, xs, hpa, hP⟩ := id M
  exact ⟨_, rfl, x, C, dx, _, _, rfl, hx, T.cl, T.nStack, mf_stack, q H (Same.refl H)⟩
theorem ok_M_spent (D : Dm K C "spent" "Machine.spent" s_M_spent P_M_spent) (T : MT K C) (g : Gx mg) : C8.Met P w K mg base 1 C "spent" (spMSpent C) [] := by
  refine D.met T.cl sc_M_spent (fun vs H Q E h => ?_) (fun f cdv A outer s H vs Q E hr h => ?_)
  · obtain ⟨x, pa, m, rfl, M, q⟩ := h
    rfl
  obtain ⟨x, pa, m, rfl, M, q⟩ := h
  have nd := sc_M_spent.nd
  refine ⟨_, (pss_one (ps_ret (pe_fld (pv 0) rfl))), ?_⟩
  obtain ⟨⟨dx, pv, tv, hx, hpv, htv⟩, xs, hpa, hP⟩ := id M
  exact ⟨_, rfl, x, C, dx, _, _, rfl, hx, T.cl, T.nSpent, mf_spent, q H (Same.refl H)⟩
theorem ok_M_triple (D : Dm K C "triple" "Machine.triple" s_M_triple P_M_triple) (T : MT K C) (g : Gx mg) : C8.Met P w K mg base 1 C "triple" (spMTriple C) [] := by
  refine D.met T.cl sc_M_triple (fun vs H Q E h => ?_) (fun f cdv A outer s H vs Q E hr h => ?_)
  · obtain ⟨x, pa, m, rfl, M, q⟩ := h
    rfl
  obtain ⟨x, pa, m, rfl, M, q⟩ := h
  have nd := sc_M_triple.nd
  refine ⟨_, (pss_one (ps_ret (pe_fld (pv 0) rfl))), ?_⟩
  obtain ⟨⟨dx, pv, tv, hx, hpv, htv⟩, xs, hpa, hP⟩ := id M
  exact ⟨_, rfl, x, C, dx, _, _, rfl, hx, T.cl, T.nTriple, mf_triple, q tv htv⟩
theorem ok_M_deeds (D : Dm K C "deeds" "Machine.deeds" s_M_deeds P_M_deeds) (T : MT K C) (g : Gx mg) : C8.Met P w K mg base 1 C "deeds" (spMDeeds C) [] := by
  refine D.met T.cl sc_M_deeds (fun vs H Q E h => ?_) (fun f cdv A outer s H vs Q E hr h => ?_)
  · obtain ⟨x, pa, m, rfl, M, q⟩ := h
    rfl
  obtain ⟨x, pa, m, rfl, M, q⟩ := h
  have nd := sc_M_deeds.nd
  refine ⟨_, (pss_one (ps_ret (pe_callB call_len_seq rfl g.len PySem.boot_len (pa_cons (pe_fld (pv 0) rfl) pa_nil)))), ?_⟩
  obtain ⟨⟨dx, pv, tv, hx, hpv, htv⟩, xs, hpa, hP⟩ := id M
  have q1 := q H (Same.refl H)
  rw [← hP.len] at q1
  exact ⟨_, rfl, x, C, dx, _, _, rfl, hx, T.cl, T.nPast, mf_past, pa, _, rfl, .inl (SqL.of hpa), q1⟩
theorem ok_M_init (D : Di K mg C "Machine" "Machine.__init__" s_M_init P_M_init) (T : MT K C) (g : Gx mg) (c_check_plan : C8.Cal P w K mg base 3 "check_plan" spChPlan []) (c_check_stack : C8.Cal P w K mg base 3 "check_stack" spChStack []) (c_untouched : C8.Cal P w K mg base 1 "untouched" spUnt []) : C8.Mak P w K mg base 4 "Machine" C (spMInit C) [] := by
  refine D.mak sc_M_init (fun vs H Q E h => ?_) (fun f cdv A outer s H vs Q E hr h => ?_)
  · obtain ⟨x, dx, v, p, l, rfl, hx, hp, ok, hl, hs, q⟩ := h
    rfl
  obtain ⟨x, dx, v, p, l, rfl, hx, hp, ok, hl, hs, q⟩ := h
  have nd := sc_M_init.nd
  refine ⟨_, (pss_cons (ps_expr (C8.pe_c c_check_plan hr (by decide) rfl (pa_cons (pv 1) pa_nil)))
    (pss_cons (ps_expr (C8.pe_c c_check_stack hr (by decide) rfl (pa_cons (pv 1) (pa_cons (pv 2) pa_nil))))
    (pss_cons (ps_fld (pv 0) (pv 1) rfl)
    (pss_cons (ps_fld (pv 0) (pv 2) rfl)
    (pss_cons (ps_fld (pv 0) pe_int rfl)
    (pss_cons (ps_fld (pv 0) (C8.pe_c c_untouched hr (by decide) rfl (pa_cons (pv 1) pa_nil)) rfl)
    (pss_one (ps_fld (pv 0) (pe_lst pa_nil) rfl)))))))), ?_⟩
  refine ⟨_, rfl, v, p, rfl, hp, ok, fun H1 s1 => ?_⟩
  refine ⟨_, rfl, _, rfl, v, p, l, rfl, hp.mono s1, ok, hl, hs, fun H2 s2 => ?_⟩
  have s12 := s1.trans s2
  have hx2 := s12 _ _ hx
  have tx2 : ∀ {H' : Hp} {fs : List (Str × V)}, H' x = some (.ins C dx fs) → ∀ fs', Tups H' (upd H' x (.ins C dx fs')) := fun {H' fs} h fs' =>
    ⟨fun b ys e1 => by rw [upd_ne (ne_of e1 h (by intro z; cases z))]; exact e1, fun b o ys e1 => by rw [upd_ne (ne_of e1 h (by intro z; cases z))]; exact e1⟩
  refine ⟨_, rfl, _, rfl, x, C, dx, _, rfl, hx2, T.cl, T.nPlan, (show 0 < 1000 by decide), ?_⟩
  refine ⟨_, rfl, _, rfl, x, C, dx, _, rfl, upd_same, T.cl, T.nStack, (show 1 < 1000 by decide), ?_⟩
  refine ⟨_, rfl, x, C, dx, _, rfl, upd_same, T.cl, T.nSpent, ?_, ?_⟩
  · simp [putF, sy n_st_pl]
  have k3 : ∀ b o, H b = some o → b ≠ x → upd (upd (upd H2 x (.ins C dx (putF "_plan" v []))) x (.ins C dx (putF "_stack" (.str (tx l)) (putF "_plan" v [])))) x (.ins C dx (putF "_spent" (.int 0) (putF "_stack" (.str (tx l)) (putF "_plan" v [])))) b = some o := fun b o e n => by
    rw [upd_ne n, upd_ne n, upd_ne n]
    exact s12 _ _ e
  have hx3 : upd (upd (upd H2 x (.ins C dx (putF "_plan" v []))) x (.ins C dx (putF "_stack" (.str (tx l)) (putF "_plan" v [])))) x (.ins C dx (putF "_spent" (.int 0) (putF "_stack" (.str (tx l)) (putF "_plan" v [])))) x = some (.ins C dx (putF "_spent" (.int 0) (putF "_stack" (.str (tx l)) (putF "_plan" v [])))) := upd_same
  have t3 : Tups H (upd (upd (upd H2 x (.ins C dx (putF "_plan" v []))) x (.ins C dx (putF "_stack" (.str (tx l)) (putF "_plan" v [])))) x (.ins C dx (putF "_spent" (.int 0) (putF "_stack" (.str (tx l)) (putF "_plan" v []))))) :=
    (Tups.of s12).trans ((tx2 hx2 _).trans ((tx2 upd_same _).trans (tx2 upd_same _)))
  generalize upd (upd (upd H2 x (.ins C dx (putF "_plan" v []))) x (.ins C dx (putF "_stack" (.str (tx l)) (putF "_plan" v [])))) x (.ins C dx (putF "_spent" (.int 0) (putF "_stack" (.str (tx l)) (putF "_plan" v [])))) = H3 at k3 hx3 t3
  refine ⟨_, rfl, v, p, rfl, hp.tups t3, fun H4 v4 s4 h4 => ?_⟩
  have hx4 := s4 _ _ hx3
  refine ⟨_, rfl, x, C, dx, _, rfl, hx4, T.cl, T.nTriple, ?_, ?_⟩
  · simp [putF, sy n_st_pl, sy n_sp_pl, sy n_sp_st]
  have t5 := (tx2 hx4 (putF "_triple" v4 (putF "_spent" (.int 0) (putF "_stack" (.str (tx l)) (putF "_plan" v [])))))
  refine ⟨by show 0 ≤ sizeLine; decide, fun pa hpa => ?_⟩
  have hnx : x ≠ pa := ne_of_none upd_same hpa
  have npa : H pa = none := by
    cases e : H pa with
    | none => rfl
    | some o =>
      rw [upd_ne hnx.symm, s4 _ _ (k3 _ _ e hnx.symm)] at hpa
      cases hpa
  have s6 := Same.new hpa (.lst [])
  refine ⟨_, rfl, x, C, dx, _, rfl, s6 _ _ upd_same, T.cl, T.nPast, ?_, ?_⟩
  · simp [putF, sy n_st_pl, sy n_sp_pl, sy n_sp_st, sy n_tr_pl, sy n_tr_st, sy n_tr_sp]
  rw [mf_new v]
  refine q _ pa (fun b o e n => ?_) npa ⟨⟨dx, v, v4, upd_same, ?_, ?_⟩, [], ?_, rfl⟩
  · rw [upd_ne n]
    refine s6 _ _ ?_
    rw [upd_ne n]
    exact s4 _ _ (k3 _ _ e n)
  · exact hp.tups (t3.trans ((Tups.of s4).trans (t5.trans ((Tups.of s6).trans (tx2 (s6 _ _ upd_same) _)))))
  · exact h4.tups (t5.trans ((Tups.of s6).trans (tx2 (s6 _ _ upd_same) _)))
  · rw [upd_ne hnx.symm]
    exact upd_same
theorem told_gives {X : Cx} {ns : Nine} {CS D g0 : Addr} {cdg : Value} {i : Nat} {w q : Str} (g : Gx X.mg) (n : NineG X.mg ns CS) (T : TOne X.K ns CS D i) (hi : i < 9) (hw : nineN[i]? = some w) (n1 : w ≠ "BadPlan") (n2 : w ≠ "BadPair") (n3 : w ≠ "BadWork") (n4 : w ≠ "BadText") :
    LamX.GivesTo X N_law_told "_law_told" (defScope s_law_told) g0 cdg (defBody s_law_told) "_law_work_here" q (TT1 D w) := by
  intro f c' s H Q tl act hc h
  have nd := sc_law_told.nd
  refine ⟨_, pss_one (ps_try_as (X := (cxOf C8.CX0 X.prog X.w X.K X.mg X.base N_law_told "_law_told" (defScope s_law_told) g0 cdg X.A X.stack s H C8.E0).nox) (i := 1) (c := .ref CS)
      (tb := fun W D σ H => ∃ Ech : XK, (∀ cls d σ' H', Ech cls d H' → W cls d σ' H') ∧ σ[0]? = some (some (.ref f)) ∧ H c' = some (LamX.CodeO c' q) ∧ tl Ech H D.rt)
      (ts := fun a cls d Dd σ H => cls = .ref D ∧ d = none ∧ H a = none ∧ (∃ σ0 : L2.St, σ = σ0.set 1 (some (.ref a))) ∧ (∀ (H2 : Hp) (p : Addr), Same H H2 → H2 p = some (.tup [.str w, .int 0]) → Dd.rt (.ref p) H2))
      rfl rfl nd rfl rfl ⟨rfl, by decide, .inl n.sink⟩ LamX.takes0 (fun W pn xe tk _ => ?_) (fun a oe cls d pn hz hf => ?_)), ?_⟩
  · refine ⟨fun pins s' σ H' D I h' => ?_⟩
    obtain ⟨Ech, hW, h1, h2, h3⟩ := h'
    exact (pss_one (ps_ret (act W pn xe Ech _ _ tk hW))).run pins s' σ H' D I ⟨h1, h2, h3⟩
  · refine ⟨fun pins s' σ H' Dd I h' => ?_⟩
    obtain ⟨rfl, rfl, ha, ⟨σ0, rfl⟩, hr⟩ := h'
    obtain ⟨o0, o2, o3, o4, hσ⟩ : ∃ o0 o2 o3 o4 : Option V, σ0.set 1 (some (.ref a)) = [o0, some (.ref a), o2, o3, o4] := by
      have hl : (σ0.set 1 (some (.ref a))).length = 5 := I.len
      rw [List.length_set] at hl
      match σ0, hl with
      | [x0, x1, x2, x3, x4], _ => exact ⟨x0, x2, x3, x4, rfl⟩
    have hd : ∃ T : TS, PSs ((cxOf C8.CX0 X.prog X.w X.K X.mg X.base N_law_told "_law_told" (defScope s_law_told) g0 cdg X.A X.stack s H C8.E0).nox.suite a ((a, oe) :: pn)) (suiteOf (defBody s_law_told)) T ∧ T Dd (σ0.set 1 (some (.ref a))) H' := by
      refine ⟨_, (pss_cons (ps_set (i := 2) nd rfl (.inl rfl) (pe_lst (pa_cons (pe_callB (r := rIsE X.K D a) (call_isE T.ex hz hf) rfl g.isi b_isi (pa_cons (pv 1) (pa_cons (C8.pe_gc rfl n.BadCount) pa_nil))) (pa_cons (pe_callB (r := rIsE X.K D a) (call_isE T.ex hz hf) rfl g.isi b_isi (pa_cons (pv 1) (pa_cons (C8.pe_gc rfl n.BadPair) pa_nil))) (pa_cons (pe_callB (r := rIsE X.K D a) (call_isE T.ex hz hf) rfl g.isi b_isi (pa_cons (pv 1) (pa_cons (C8.pe_gc rfl n.BadPlan) pa_nil))) (pa_cons (pe_callB (r := rIsE X.K D a) (call_isE T.ex hz hf) rfl g.isi b_isi (pa_cons (pv 1) (pa_cons (C8.pe_gc rfl n.BadSign) pa_nil))) pa_nil))))))
    (pss_cons (ps_set (i := 2) nd rfl (.inl rfl) (pe_op op_cat (pv 2) (pe_lst (pa_cons (pe_callB (r := rIsE X.K D a) (call_isE T.ex hz hf) rfl g.isi b_isi (pa_cons (pv 1) (pa_cons (C8.pe_gc rfl n.BadStack) pa_nil))) (pa_cons (pe_callB (r := rIsE X.K D a) (call_isE T.ex hz hf) rfl g.isi b_isi (pa_cons (pv 1) (pa_cons (C8.pe_gc rfl n.BadSteps) pa_nil))) (pa_cons (pe_callB (r := rIsE X.K D a) (call_isE T.ex hz hf) rfl g.isi b_isi (pa_cons (pv 1) (pa_cons (C8.pe_gc rfl n.BadText) pa_nil))) pa_nil))))))
    (pss_cons (ps_set (i := 2) nd rfl (.inl rfl) (pe_op op_cat (pv 2) (pe_lst (pa_cons (pe_callB (r := rIsE X.K D a) (call_isE T.ex hz hf) rfl g.isi b_isi (pa_cons (pv 1) (pa_cons (C8.pe_gc rfl n.BadTriple) pa_nil))) (pa_cons (pe_callB (r := rIsE X.K D a) (call_isE T.ex hz hf) rfl g.isi b_isi (pa_cons (pv 1) (pa_cons (C8.pe_gc rfl n.BadWork) pa_nil))) pa_nil)))))
    (pss_cons (ps_if (PW.pt (pw_or (pt_cmpR op_ne (pe_bm PySem.F.plainAttrs_list PySem.F.slot_list_count PySem.F.type_list_count mt_count (pv 2) (pa_cons pe_bl pa_nil)) pe_int (nomark _)) (pw_or1 (pt_not (pt_val (pe_callB (r := rIsE X.K D a) (call_isE T.ex hz hf) rfl g.isi b_isi (pa_cons (pv 1) (pa_cons (pe_bltn (v := .ty "ValueError") rfl g.ValueError b_VE rfl) pa_nil)))))))) (pss_one (ps_ret (pe_tup (pa_cons pe_str (pa_cons pe_int pa_nil))))) pss_nil)
    (pss_cons (ps_set (i := 3) nd rfl (.inl rfl) (pe_lst (pa_cons pe_str (pa_cons pe_str (pa_cons pe_str (pa_cons pe_str (pa_cons pe_str (pa_cons pe_str (pa_cons pe_str (pa_cons pe_str (pa_cons pe_str pa_nil)))))))))))
    (pss_cons (ps_set (i := 4) nd rfl (.inl rfl) (pe_ix ix_list (pv 3) (pe_bm PySem.F.plainAttrs_list PySem.F.slot_list_index PySem.F.type_list_index mt_index (pv 2) (pa_cons pe_bl pa_nil)) (fun _ _ => rfl)))
    (pss_cons (ps_if (pt_cmpR op_eq (pv 4) pe_str (nomark _)) (pss_one ps1F) pss_nil)
    (pss_cons (ps_if (pt_cmpR op_in_seq (pv 4) (pe_tup (pa_cons pe_str (pa_cons pe_str pa_nil))) rfl) (pss_one ps1F) pss_nil)
    (pss_one (ps_ret (pe_tup (pa_cons (pv 4) (pa_cons (pe_ifExp (pt_cmpR op_eq (pv 4) pe_str (nomark _)) peF pe_int) pa_nil))))))))))))), ?_⟩
      rw [hσ]
      have s0 : Same H' H' := Same.refl H'
      refine ⟨_, rfl, .ref ns.c0, .ref ns.c0, _, rfl, fun u hu => hu, T.k0, ?_⟩
      refine ⟨_, rfl, .ref ns.c1, .ref ns.c1, _, rfl, fun u hu => hu, T.k1, ?_⟩
      refine ⟨_, rfl, .ref ns.c2, .ref ns.c2, _, rfl, fun u hu => hu, T.k2, ?_⟩
      refine ⟨_, rfl, .ref ns.c3, .ref ns.c3, _, rfl, fun u hu => hu, T.k3, ?_⟩
      refine ⟨by (first | (show _ ≤ sizeLine; decide) | (simp only [List.length_cons, List.length_nil]; decide)), fun l1 hNewl1 => ?_⟩
      generalize hGenl1 : upd _ l1 _ = H1
      obtain ⟨s1, h1⟩ := Same.ofG hNewl1 hGenl1
      replace s0 := s0.trans s1
      refine ⟨_, rfl, ?_⟩
      refine ⟨_, rfl, .ref ns.c4, .ref ns.c4, _, rfl, fun u hu => hu, T.k4, ?_⟩
      refine ⟨_, rfl, .ref ns.c5, .ref ns.c5, _, rfl, fun u hu => hu, T.k5, ?_⟩
      refine ⟨_, rfl, .ref ns.c6, .ref ns.c6, _, rfl, fun u hu => hu, T.k6, ?_⟩
      refine ⟨by (first | (show _ ≤ sizeLine; decide) | (simp only [List.length_cons, List.length_nil]; decide)), fun l2 hNewl2 => ?_⟩
      generalize hGenl2 : upd _ l2 _ = H2
      obtain ⟨s2, h2⟩ := Same.ofG hNewl2 hGenl2
      replace s0 := s0.trans s2
      replace h1 := s2 _ _ h1
      refine ⟨l1, l2, _, _, rfl, rfl, h1, h2, by show 7 ≤ sizeLine; decide, fun l3 hl3 => ?_⟩
      generalize hG3 : upd H2 l3 _ = H3
      obtain ⟨s3, h3⟩ := Same.ofG hl3 hG3
      replace s0 := s0.trans s3
      replace h1 := s3 _ _ h1
      replace h2 := s3 _ _ h2
      refine ⟨_, rfl, ?_⟩
      refine ⟨_, rfl, .ref ns.c7, .ref ns.c7, _, rfl, fun u hu => hu, T.k7, ?_⟩
      refine ⟨_, rfl, .ref ns.c8, .ref ns.c8, _, rfl, fun u hu => hu, T.k8, ?_⟩
      refine ⟨by (first | (show _ ≤ sizeLine; decide) | (simp only [List.length_cons, List.length_nil]; decide)), fun l4 hNewl4 => ?_⟩
      generalize hGenl4 : upd _ l4 _ = H4
      obtain ⟨s4, h4⟩ := Same.ofG hNewl4 hGenl4
      replace s0 := s0.trans s4
      replace h3 := s4 _ _ h3
      refine ⟨l3, l4, _, _, rfl, rfl, h3, h4, by show 9 ≤ sizeLine; decide, fun l5 hl5 => ?_⟩
      generalize hG5 : upd H4 l5 _ = H5
      obtain ⟨s5, h5⟩ := Same.ofG hl5 hG5
      replace s0 := s0.trans s5
      replace h3 := s5 _ _ h3
      replace h4 := s5 _ _ h4
      have h5 : H5 l5 = some (.lst ((nineB i).map V.bl)) := h5
      have nf : ((nineB i).map V.bl).all flatV = true := rfl
      refine ⟨_, rfl, .inl ⟨rfl, _, SqL.of h5⟩, l5, _, .bl true, rfl, rfl, SqL.of h5, rfl, nf, ?_⟩
      rw [nine_count i hi]
      refine ⟨rfl, _, rfl, iteNS rfl ?_⟩
      refine ⟨_, rfl, .ty "ValueError", .type "ValueError", _, rfl, fun u hu => hu, T.ve, ?_⟩
      refine ⟨_, rfl, iteF ?_⟩
      -- the word
      refine ⟨by (first | (show _ ≤ sizeLine; decide) | (simp only [List.length_cons, List.length_nil]; decide)), fun lw hNewlw => ?_⟩
      generalize hGenlw : upd _ lw _ = H6
      obtain ⟨s6, h6⟩ := Same.ofG hNewlw hGenlw
      replace s0 := s0.trans s6
      replace h5 := s6 _ _ h5
      have h6 : H6 lw = some (.lst (nineN.map V.str)) := h6
      refine ⟨_, rfl, _, rfl, .inl ⟨rfl, _, SqL.of h5⟩, l5, _, .bl true, i, .bl true, rfl, rfl, SqL.of h5, rfl, nf, by rw [List.getElem?_map, nine_at i hi]; rfl, rfl, fun m z' hm hz' => ?_, ?_⟩
      · rw [List.getElem?_map, nine_no i hi m hm] at hz'
        cases hz'
        rfl
      refine ⟨lw, _, ((i : Nat) : Int), .str w, rfl, rfl, SqL.of h6, atI_nat (by rw [List.getElem?_map, hw]; rfl), ?_⟩
      have vn : ∀ z : Str, w ≠ z → ¬ (V.str w = V.str z) := fun z h e => h (by injection e)
      refine ⟨_, rfl, rfl, _, rfl, iteDF (vn _ n1) ?_⟩
      refine ⟨_, rfl, ?_⟩
      refine ⟨by (first | (show _ ≤ sizeLine; decide) | (simp only [List.length_cons, List.length_nil]; decide)), fun lt hNewlt => ?_⟩
      generalize hGenlt : upd _ lt _ = H7
      obtain ⟨s7, h7⟩ := Same.ofG hNewlt hGenlt
      replace s0 := s0.trans s7
      replace h5 := s7 _ _ h5
      replace h6 := s7 _ _ h6
      have e0 : (if false = true then !L2.inV (V.str w) [.str "BadPair", .str "BadWork"] else L2.inV (V.str w) [.str "BadPair", .str "BadWork"]) = false := by
        have a1 : (("BadPair" : Str) == w) = false := beq_eq_false_iff_ne.mpr fun z => n2 z.symm
        have a2 : (("BadWork" : Str) == w) = false := beq_eq_false_iff_ne.mpr fun z => n3 z.symm
        show ((("BadPair" : Str) == w) || ((("BadWork" : Str) == w) || false)) = false
        rw [a1, a2]
        rfl
      refine ⟨lt, _, rfl, .inr (SqT.of h7), rfl, rfl, ?_⟩
      rw [e0]
      refine ⟨_, rfl, iteF ?_⟩
      refine ⟨_, rfl, _, rfl, rfl, _, rfl, iteDF (vn _ n4) ?_⟩
      refine ⟨by (first | (show _ ≤ sizeLine; decide) | (simp only [List.length_cons, List.length_nil]; decide)), fun lr hNewlr => ?_⟩
      generalize hGenlr : upd _ lr _ = H8
      obtain ⟨s8, h8⟩ := Same.ofG hNewlr hGenlr
      replace s0 := s0.trans s8
      exact hr H8 lr s0 h8
    obtain ⟨T1, h1, h2⟩ := hd
    exact h1.run pins s' _ H' Dd I h2
  · refine ⟨fun cls d H' => cls = .ref D ∧ d = none ∧ ∀ (H2 : Hp) (p : Addr), Same H' H2 → H2 p = some (.tup [.str w, .int 0]) → Q (.ref p) H2, fun cls d σ' H' ⟨e1, e2, e3⟩ => ?_, rfl, hc, h⟩
    subst e1 e2
    exact ⟨true, T.sink, fun _ a ha => ⟨rfl, rfl, ha, ⟨_, rfl⟩, e3⟩, fun z => by cases z⟩
theorem pe_told {X : Cx} {Tb : List (Addr × Str)} {ns : Nine} {CS D c PT : Addr} {i k : Nat} {w : Str} {params : Arguments} {body : Expr} {scope : Scope} {t : XK → TE} {p lpos pos : Pos} (Dt : Dn X.K X.mg "_law_told" s_law_told P_law_told) (hg : Gl X "_law_told") (g : Gx X.mg) (n : NineG X.mg ns CS) (T : TOne X.K ns CS D i)
    (hi : i < 9) (hw : nineN[i]? = some w) (n1 : w ≠ "BadPlan") (n2 : w ≠ "BadPair") (n3 : w ≠ "BadWork") (n4 : w ≠ "BadText")
    (TB : LamX.TabB X.base X.mg c PT) (hcode : X.env.code = .ref c) (hmT : (PT, X.env.qual ++ "<lambda>") ∈ Tb) (hu : ∀ p ∈ Tb, p.1 = PT → p.2 = X.env.qual ++ "<lambda>") (hr : Room (k + 2) X.A) (L : LamX.LamS X.env.scope scope) (hdef : defaultsOf params X.env = ([], []))
    (hbind : ∀ (q : Str) (cl : List (Str × Addr)) (pm cv ctv : Value), bindArgs (PySem.W.kla_fn "<lambda>" q params body scope cl pm cv ctv) ⟨[], []⟩ = pure [])
    (hbody : ∀ (A : Around) (outer : List Env) (s : Shared) (H : Hp) (E : XK) (f c' : Addr), Room k (A.deeper (LamX.lamEnv X scope s.heap.objs.size f c')) → PE (LamX.lamCx X A outer s H E scope f c') body (t E)) :
    PE X (.Call (.Name "_law_told" p) [.Lambda params body scope lpos] [] pos) (LamX.tLam Tb (TT1 D w) t) := by
  obtain ⟨f, fd, F, hm, b⟩ := Dt.ex
  have kp := F.kp
  obtain ⟨oc, od, kV, doc, pm, an, cdv, ct, osl, rfl, lk, hcd⟩ := F.ex
  exact LamX.pe_lamcall (a := "_law_work_here") hg hm kp lk hcd b sc_law_told rfl (.inl rfl) (told_gives g n T hi hw n1 n2 n3 n4) TB hcode hmT hu hr L hdef hbind hbody
def spChSignX (D : Addr) : Sp := fun vs H _ E => ∃ v p b, vs = [v, b] ∧ PlanAt H v p ∧ p.Ok ∧ BadSg p.many b ∧ ∀ H', Same H H' → E (.ref D) none H'
def spMPushX (C D : Addr) : Sp := fun vs H _ E => ∃ (x pa : Addr) (m : MS) (b : V), vs = [.ref x, b] ∧ MAt C H x pa m ∧ m.p.Ok ∧ BadSg m.p.many b ∧ ∀ H', Same H H' → E (.ref D) none H'
theorem okx_check_sign {D0 : Addr} (D : Dn K mg "check_sign" s_check_sign P_check_sign) (g : Gx mg) (e_BadSign : ErrC K mg "BadSign" D0) (c_signs_of : C8.Cal P w K mg base 1 "signs_of" spSigns []) : CalX P w K mg base 2 "check_sign" (spChSignX D0) := by
  refine D.calX sc_check_sign (fun vs H Q E h => ?_) (fun f cdv A outer s H vs Q E hr h => ?_)
  · obtain ⟨v, p, b, rfl, _⟩ := h
    rfl
  obtain ⟨v, p, b, rfl, hp, ok, ⟨hb1, hb2⟩, q⟩ := h
  have nd := sc_check_sign.nd
  have h4 := signs_len p.many
  refine ⟨_, (pss_one (ps_if (pt_cmpR op_notIn_seq (pv 1) (pe_callTy (call_listS rfl) rfl g.list b_list (pa_cons (C8.pe_c c_signs_of hr (by decide) rfl (pa_cons (pv 0) pa_nil)) pa_nil)) rfl) (pss_one (ps_raiseN rfl outX e_BadSign rfl)) pss_nil)), ?_⟩
  refine ⟨_, rfl, _, rfl, v, p, rfl, hp, ok, fun H1 s1 => ⟨_, rfl, by rw [tx_len]; exact sz (by omega), fun DD hD => ?_⟩⟩
  rw [tx_list]
  have sD := Same.new hD (.lst ((signs p.many).map fun c => V.str ⟨#[c]⟩))
  have hDD : upd H1 DD (.lst ((signs p.many).map fun c => V.str ⟨#[c]⟩)) DD = some (.lst ((signs p.many).map fun c => V.str (tx [c]))) := upd_same
  generalize upd H1 DD (.lst ((signs p.many).map fun c => V.str ⟨#[c]⟩)) = H2 at sD hDD
  refine ⟨DD, _, rfl, .inl (SqL.of hDD), hb1, flat_signs _, _, rfl, ?_⟩
  rw [if_pos rfl, hb2]
  exact iteT (q _ (s1.trans sD))
theorem okx_M_push {D0 : Addr} (D : Dm K C "push" "Machine.push" s_M_push P_M_push) (T : MT K C) (g : Gx mg) (x_check_sign : CalX P w K mg base 2 "check_sign" (spChSignX D0)) : MetX P w K mg base 3 C "push" (spMPushX C D0) := by
  refine D.metX T.cl sc_M_push (fun vs H Q E h => ?_) (fun f cdv A outer s H vs Q E hr h => ?_)
  · obtain ⟨x, pa, m, b, rfl, _⟩ := h
    rfl
  obtain ⟨x, pa, m, b, rfl, M, ok, hb, q⟩ := h
  have nd := sc_M_push.nd
  refine ⟨_, (pss_cons (ps_expr (pe_cX x_check_sign hr (by decide) rfl passX (pa_cons (pe_fld (pv 0) rfl) (pa_cons (pv 1) pa_nil)))) psF), ?_⟩
  obtain ⟨⟨dx, pv, tv, hx, hpv, htv⟩, xs, hpa, hP⟩ := id M
  exact ⟨_, rfl, x, C, dx, _, _, rfl, hx, T.cl, T.nPlan, mf_plan, _, rfl, pv, m.p, b, rfl, hpv, ok, hb, q⟩
theorem ok_law_price (D : Dn K mg "_law_price" s_law_price P_law_price) (g : Gx mg) : C8.Cal P w K mg base 1 "_law_price" spLPrice [] := by
  refine D.cal sc_law_price (fun vs H Q E h => ?_) (fun f cdv A outer s H vs Q E hr h => ?_)
  · obtain ⟨v, p, l, rfl, ⟨a, b, rfl, ha, hb⟩, ok, hl, hs, q⟩ := h
    rfl
  obtain ⟨v, p, l, rfl, ⟨a, b, rfl, ha, hb⟩, ok, hl, hs, q⟩ := h
  have nd := sc_law_price.nd
  refine ⟨_, (pss_one (ps_ret (pe_callB (cr_sum rfl) rfl g.sum b_sum (pa_cons (pe_lc (own := [("_law_sign", 2)]) rfl nd (pi_str (pv 1)) (blkOk_by (own := [("_law_sign", 2)]) (N := N_law_price) (sc := defScope s_law_price) (by decide +kernel)) (fun _ _ _ _ _ => (pg_name (i := 2) nd rfl (.inl rfl))) (fun _ _ _ _ _ => pts_nil) (fun _ _ _ _ _ => (pe_ifExp (pt_cmpR op_eq (pv 2) pe_str (nomark _)) (pe_ix (r := rIxT K) ix_tup (pv 0) pe_int (fun _ _ => rfl)) (pe_ix (r := rIxT K) ix_tup (pe_ix (r := rIxT K) ix_tup (pv 0) pe_int (fun _ _ => rfl)) (pe_m1 PySem.F.slot_str_index PySem.F.type_str_index mt_sindex pe_str (pv 2)) (fun _ _ => rfl))))) pa_nil)))), ?_⟩
  refine ⟨_, rfl, _, rfl, fun D hD => ?_⟩
  have hn : (tx l).cps.size = l.length := tx_len l
  refine lc_it (walk_str (z := tx l)) (fun i H2 => Same H H2 ∧ H2 D = some (.lst ((l.take i).map fun c => V.int (cst p c)))) ⟨Same.new hD _, upd_same⟩ (fun _ _ _ _ => trivial) ?_ ?_
  · rintro i x H2 H3 hi ⟨s2, h2⟩ ⟨rfl, c, hc, rfl⟩
    have hc' : l[i]? = some c := by
      rw [← hc]
      simp [tx]
    have fin : ∃ acc, H3 D = some (.lst acc) ∧ acc.length < sizeLine ∧ Same H (upd H3 D (.lst (acc ++ [V.int (cst p c)]))) ∧ upd H3 D (.lst (acc ++ [V.int (cst p c)])) D = some (.lst ((l.take (i + 1)).map fun c => V.int (cst p c))) := by
      refine ⟨_, h2, by rw [List.length_map, List.length_take]; exact szl (by omega), fun b o e => ?_, ?_⟩
      · rw [upd_ne (ne_of_none e hD)]
        exact s2 b o e
      · rw [upd_same, List.take_add_one, hc']
        simp
    refine ⟨rfl, ?_⟩
    refine ⟨_, rfl, rfl, _, rfl, ite2 (fun zc => ?_) (fun zc => ?_)⟩
    · have z' : c = 45 := by
        have z1 := of_decide_eq_true zc
        injection z1 with z2
        exact List.head_eq_of_cons_eq (str_inj.mp (z2.trans s_minus))
      have e : cst p c = p.pop := by unfold cst; rw [if_pos z']
      rw [e] at fin
      exact ⟨_, rfl, a, _, 3, _, rfl, rfl, SqT.of (s2 _ _ ha), rfl, fin⟩
    · have z' : ¬ c = 45 := fun y => by
        subst y
        exact zc (decide_eq_true (congrArg V.str s_minus.symm))
      have hcs : c ∈ signs p.many := (hs c (List.mem_of_getElem? hc')).resolve_left z'
      obtain ⟨hj, r, hocc⟩ := sign_ix hcs
      have hpl : c - 97 < p.pr.length := by
        rw [ok.pl]
        exact hj
      have e : cst p c = p.pr[c - 97] := by
        unfold cst
        rw [if_neg z', List.getD_eq_getElem?_getD, List.getElem?_eq_getElem hpl]
        rfl
      rw [e] at fin
      refine ⟨_, rfl, a, _, 2, _, rfl, rfl, SqT.of (s2 _ _ ha), rfl, ⟨_, rfl⟩, _, rfl, _, _, _, r, rfl, rfl, hocc, ?_⟩
      exact ⟨b, _, ((c - 97 : Nat) : Int), .int p.pr[c - 97], rfl, rfl, (PrAt.mono hb s2).sq, atI_nat (by rw [List.getElem?_map, List.getElem?_eq_getElem hpl]; rfl), fin⟩
  · rintro H2 ⟨s2, h2⟩
    rw [hn, List.take_of_length_le (Nat.le_refl _)] at h2
    exact ⟨D, l.map (cst p), rfl, SqL.of (by rw [h2, List.map_map]; rfl), q H2 s2⟩
open LamX NdefX
variable {T : List (Addr × Str)}
open LamX
def lamQk10 : Str := (("_law_deed" : Str) ++ ".<locals>.") ++ "<lambda>"
theorem ok_law_deed {cL PT CS D0 : Addr} {ns : Nine} (D : DnL K mg "_law_deed" s_law_deed P_law_deed cL) (TB : LamX.TabB base mg cL PT) (dt : Dn K mg "_law_told" s_law_told P_law_told) (nn : NineG mg ns CS) (tn : TOne K ns CS D0 3) (g : Gx mg) (c_law_take : C8.Cal P w K mg base 1 "_law_take" spTake []) (c_M_back : C8.Met P w K mg base 1 C "back" (spMBack C) []) (c_law_alike : C8.Cal P w K mg base 2 "_law_alike" (spAlike 2) []) (c_law_gone : C8.Cal P w K mg base 2 "_law_gone" spLGone []) (c_M_push : C8.Met P w K mg base 5 C "push" (spMPush C) []) (c_M_pop : C8.Met P w K mg base 5 C "pop" (spMPop C) []) (c_law_some : C8.Cal P w K mg base 10 "_law_some" (spLSome 8) []) (c_law_long : C8.Cal P w K mg base 8 "_law_long" (spLLong 8) []) (c_M_do : C8.Met P w K mg base 12 C "do" (spMDo C) []) (x_M_push : MetX P w K mg base 3 C "push" (spMPushX C D0)) : C8.Cal P w K mg base 13 "_law_deed" ((spLDeed C) [(PT, lamQk10)]) [] := by
  refine D.cal sc_law_deed (fun vs H Q E h => ?_) (fun f A outer s H vs Q E hr h => ?_)
  · obtain ⟨p, q, md, ql, x, pm, ns0, z, v, pl, first, past, m, rfl, d, dd, hn, hf, hT, kk⟩ := h
    rfl
  obtain ⟨p, q, md, ql, x, pm, ns0, z, v, pl, first, past, m, rfl, d, dd, hn, hf, hT, kk⟩ := h
  have nd := sc_law_deed.nd
  refine ⟨_, (pss_cons (ps_par (i := 3) (j := 4) (by rfl) nd rfl rfl (by decide) rfl rfl (pa_cons (pe_dget (hu1 hr) (pv 1) pe_str (fun _ _ => rfl)) (pa_cons (C8.pe_c c_law_take hr (by decide) rfl (pa_cons (pv 0) (pa_cons pe_int pa_nil))) pa_nil)) (by rfl))
    (pss_cons (ps_if (pt_cmpR op_lt (pv 4) pe_int (nomark _)) (pss_cons (ps_set (i := 5) nd rfl (.inl rfl) (pe_cmpR (op_neD hr.units) (pe_dget (hu1 hr) (pv 1) pe_str (fun _ _ => rfl)) (pe_lst pa_nil) (nomark _)))
    (pss_cons (ps_if (pt_val (pv 5)) (pss_one (ps_expr (pe_bm0 PySem.F.plainAttrs_list PySem.F.slot_list_pop PySem.F.type_list_pop mt_pop (pe_dget (hu1 hr) (pv 1) pe_str (fun _ _ => rfl))))) pss_nil)
    (pss_one (ps_ret (C8.pe_c c_law_alike hr (by decide) rfl (pa_cons (C8.pe_mt0 c_M_back hr (by decide) (pv 2)) (pa_cons (pv 5) pa_nil))))))) pss_nil)
    (pss_cons (ps_set (i := 6) nd rfl (.inl rfl) (C8.pe_c c_law_gone hr (by decide) rfl (pa_cons (pv 3) (pa_cons (pe_dget (hu1 hr) (pv 1) pe_str (fun _ _ => rfl)) (pa_cons (pe_join pe_str (pe_dget (hu1 hr) (pv 1) pe_str (fun _ _ => rfl))) pa_nil)))))
    (pss_cons (ps_if (pt_cmpR op_eq (pv 4) pe_int (nomark _)) (pss_cons (ps_set (i := 9) nd rfl (.inr rfl) (pe_ix ix_list (pe_lst (pa_cons pe_non (pa_cons pe_str (pa_cons pe_str (pa_cons pe_str (pa_cons pe_str (pa_cons pe_int (pa_cons pe_str pa_nil)))))))) (C8.pe_c c_law_take hr (by decide) rfl (pa_cons (pv 0) (pa_cons pe_int pa_nil))) (fun _ _ => rfl)))
    (pss_one (ps_ret (pe_cmpR (op_eqD hr.units) (pe_told (k := 10) dt rfl g nn tn (by decide) rfl (by decide +kernel) (by decide +kernel) (by decide +kernel) (by decide +kernel) TB rfl (List.mem_singleton.mpr rfl) (fun p hp _ => by rw [List.mem_singleton.mp hp] <;> rfl) hr (LamX.lamS_by (sc := defScope s_law_deed) (by decide +kernel)) rfl (fun _ _ _ _ _ => rfl) (fun A outer s H E f c' hr2 => (pe_mtL x_M_push hr2 (by decide) (pv 2) (pa_cons (pv 9) pa_nil)))) (pe_tup (pa_cons pe_str (pa_cons pe_int pa_nil))) (nomark _))))) pss_nil)
    (pss_cons (ps_if (pt_cmpR op_lt (pv 4) pe_int (nomark _)) (pss_cons (ps_set (i := 7) nd rfl (.inl rfl) (pe_ix ix_str pe_str (C8.pe_c c_law_take hr (by decide) rfl (pa_cons (pv 0) (pa_cons (pe_ix ix_tup (pv 3) pe_int (fun _ _ => rfl)) pa_nil))) (fun _ _ => rfl)))
    (pss_cons (ps_expr (pe_bm PySem.F.plainAttrs_list PySem.F.slot_list_append PySem.F.type_list_append mt_append (pe_dget (hu1 hr) (pv 1) pe_str (fun _ _ => rfl)) (pa_cons (pv 7) pa_nil)))
    (pss_one (ps_ret (C8.pe_c c_law_alike hr (by decide) rfl (pa_cons (C8.pe_mt c_M_push hr (by decide) (pv 2) (pa_cons (pv 7) pa_nil)) (pa_cons (pe_ifExp (pt_cmpR op_eq (pe_callB call_len_str rfl g.len PySem.boot_len (pa_cons (pv 6) pa_nil)) (pe_ix ix_tup (pv 3) pe_int (fun _ _ => rfl)) (nomark _)) (pe_ix ix_str (pv 6) pe_int (fun _ _ => rfl)) pe_non) pa_nil))))))) pss_nil)
    (pss_cons (ps_if (pt_cmpR op_lt (pv 4) pe_int (nomark _)) (pss_cons (ps_expr (pe_bm PySem.F.plainAttrs_list PySem.F.slot_list_append PySem.F.type_list_append mt_append (pe_dget (hu1 hr) (pv 1) pe_str (fun _ _ => rfl)) (pa_cons pe_str pa_nil)))
    (pss_one (ps_ret (C8.pe_c c_law_alike hr (by decide) rfl (pa_cons (C8.pe_mt0 c_M_pop hr (by decide) (pv 2)) (pa_cons (pe_ifExp (pt_cmpR op_ne (pv 6) pe_str (nomark _)) (pe_ix ix_str (pv 6) (pe_un un_neg pe_int) (fun _ _ => rfl)) pe_non) pa_nil)))))) pss_nil)
    (pss_cons (ps_set (i := 8) nd rfl (.inl rfl) (C8.pe_c c_law_some hr (by decide) rfl (pa_cons (pv 0) (pa_cons (pv 3) (pa_cons pe_int (pa_cons pe_int (pa_cons pe_int pa_nil)))))))
    (pss_cons (ps_expr (pe_bm PySem.F.plainAttrs_list PySem.F.slot_list_append PySem.F.type_list_append mt_append (pe_dget (hu1 hr) (pv 1) pe_str (fun _ _ => rfl)) (pa_cons (C8.pe_c c_law_long hr (by decide) rfl (pa_cons (pv 8) pa_nil)) pa_nil)))
    (pss_one (ps_ret (C8.pe_c c_law_alike hr (by decide) rfl (pa_cons (C8.pe_mt c_M_do hr (by decide) (pv 2) (pa_cons (pv 8) pa_nil)) (pa_cons (C8.pe_c c_law_gone hr (by decide) rfl (pa_cons (pv 3) (pa_cons (pv 6) (pa_cons (pe_ix ix_list (pe_dget (hu1 hr) (pv 1) pe_str (fun _ _ => rfl)) (pe_un un_neg pe_int) (fun _ _ => rfl)) pa_nil)))) pa_nil))))))))))))), ?_⟩
  have r9 : pl.room ≤ 9 := by rw [← dd.p]; exact dd.ok.p.r9
  refine ⟨_, rfl, md, _, rfl, d.gPlan, _, rfl, p, q, ns0, z, 10, rfl, d.B, by decide, p9 (by decide), fun way ns1 z1 H1 w0 w1 B1 k1 => ⟨_, _, rfl, ?_⟩⟩
  have d1 := d.box B1 k1
  have hT1 := Tabs.keep hT d.B k1
  have eN : (past.map fz').length = past.length := List.length_map ..
  refine ⟨_, rfl, _, _, rfl, rfl, _, rfl, ite2 (fun c => ?_) (fun c => ?_)⟩
  · -- taken back
    refine ⟨_, rfl, md, _, rfl, d1.gPast, ?_⟩
    refine ⟨by (first | (show _ ≤ sizeLine; decide) | (simp only [List.length_cons, List.length_nil]; decide)), fun D0 hNewD0 => ?_⟩
    generalize hGenD0 : upd _ D0 _ = H2
    obtain ⟨s2, h2⟩ := Same.ofG hNewD0 hGenD0
    have d2 := d1.same s2
    have hT2 := Tabs.same hT1 s2
    refine ne_nil d2.L h2 dd.lt ?_
    rcases List.eq_nil_or_concat past with e | ⟨past', s, e⟩
    · subst e
      refine ⟨_, rfl, _, rfl, iteF ?_⟩
      obtain ⟨dx, fs, ho, hno⟩ := d2.M.at
      refine ⟨_, rfl, x, dx, fs, rfl, ho, hno _ nf_back, x, pm, m, rfl, d2.M, fun hz H3 s3 => ?_, fun ps y e => ?_⟩
      · refine ⟨_, rfl, _, _, rfl, .inl ⟨rfl, trivial⟩, fun H4 s4 => ?_⟩
        exact kk _ _ _ _ H4 ((d2.same s3).same s4) dd (Nat.le_succ _) (Tabs.same (Tabs.same hT2 s3) s4)
      · have := dd.len
        rw [e] at this
        simp at this
    · rw [List.concat_eq_append] at e
      subst e
      have edue : (!decide (past' ++ [s] = [])) = true := by simp
      rw [edue]
      refine ⟨_, rfl, _, rfl, iteT ?_⟩
      have edl : ((past' ++ [s]).map fz').dropLast = past'.map fz' := by
        rw [List.map_append]
        exact List.dropLast_concat
      refine ⟨_, rfl, md, _, rfl, d2.gPast, .inl ⟨rfl, _, SqL.of d2.L⟩, ql, _, fz' s, rfl, rfl, d2.L, ?_, ?_⟩
      · rw [List.map_append, List.length_append]
        show (List.map fz' past' ++ [fz' s])[(List.map fz' past').length + 1 - 1]? = some (fz' s)
        rw [Nat.add_sub_cancel, List.getElem?_append_right (Nat.le_refl _), Nat.sub_self]
        rfl
      have hT3 := Tabs.upd (o := .lst (((past' ++ [s]).map fz').dropLast)) hT2 d2.L
      have d3 := d2.list (past' := past')
      rw [edl] at hT3 ⊢
      generalize upd H2 ql (.lst (past'.map fz')) = H3 at hT3 d3
      obtain ⟨dx, fs, ho, hno⟩ := d3.M.at
      refine ⟨_, rfl, x, dx, fs, rfl, ho, hno _ nf_back, x, pm, m, rfl, d3.M, fun hz H3 s3 => ?_, fun ps y e H4 k4 M4 => ?_⟩
      · have := dd.len
        rw [hz, List.length_append] at this
        simp at this
      · have dd4 := dd.back e
        have d4 := d3.mach M4 k4
        have hT4 := Tabs.keepM hT3 d3.M k4
        refine ⟨_, rfl, _, _, rfl, .inl ⟨rfl, trivial⟩, fun H5 s5 => ?_⟩
        exact kk _ _ _ _ H5 (d4.same s5) dd4 (by rw [List.length_append]; omega) (Tabs.same hT4 s5)
  -- the stack
  refine ⟨_, rfl, _, rfl, md, _, rfl, d1.gFirst, ?_⟩
  refine ⟨⟨_, rfl⟩, _, rfl, md, _, rfl, d1.gPast, ("" : Str), ql, past.map tx, rfl, rfl, .inl (SqL.of (by rw [d1.L, List.map_map]; rfl)), dd.join, ?_⟩
  rw [join_past]
  have okp : pl.Ok := dd.p ▸ dd.ok.p
  refine ⟨v, pl, first, past.flatten, rfl, d1.P, okp, dd.f1, fun H2 s2 => ?_⟩
  have d2 := d1.same s2
  have hT2 := Tabs.same hT1 s2
  refine ⟨_, rfl, rfl, _, rfl, ite2 (fun c2 => ?_) (fun c2 => ?_)⟩
  · -- refused
    refine ⟨by (first | (show _ ≤ sizeLine; decide) | (simp only [List.length_cons, List.length_nil]; decide)), fun D3 hNewD3 => ?_⟩
    generalize hGenD3 : upd _ D3 _ = H3
    obtain ⟨s3, h3⟩ := Same.ofG hNewD3 hGenD3
    have d3 := d2.same s3
    have hT3 := Tabs.same hT2 s3
    refine ⟨_, rfl, p, q, ns1, z1, 7, rfl, d3.B, by decide, p9 (by decide), fun r ns4 z4 H4 r0 r1 B4 k4 => ?_⟩
    have hf := d2.B.fresh hNewD3
    have h4 := k4 _ _ h3 hf.1 hf.2
    have d4 := d3.box B4 k4
    have hT4 := Tabs.keep hT3 d3.B k4
    obtain ⟨bad, hb, hbs⟩ := bad10 okp.m4 r0 r1
    refine ⟨D3, _, r, bad, rfl, rfl, SqL.of h4, hb, ?_⟩
    refine ⟨hT4, fun H5 e5 hT5 => ?_⟩
    have d5 := d4.ext e5
    obtain ⟨dx, fs, ho, hno⟩ := d5.M.at
    refine ⟨_, rfl, x, dx, fs, rfl, ho, hno _ nf_push, _, rfl, x, pm, m, bad, rfl, d5.M, dd.ok.p, by rw [dd.p]; exact hbs, fun H6 s6 => ⟨rfl, rfl, fun H7 lt s7 h7 => ?_⟩⟩
    have d7 := (d5.same s6).same s7
    have hT7 := Tabs.same (Tabs.same hT5 s6) s7
    refine ⟨by (first | (show _ ≤ sizeLine; decide) | (simp only [List.length_cons, List.length_nil]; decide)), fun t8 hNewt8 => ?_⟩
    generalize hGent8 : upd _ t8 _ = H8
    obtain ⟨s8, h8⟩ := Same.ofG hNewt8 hGent8
    exact eq_si (by decide +kernel) (s8 _ _ h7) h8 (kk _ _ _ _ H8 (d7.same s8) dd (Nat.le_succ _) (Tabs.same hT7 s8))
  have c2' : ¬ way = 2 := fun z => c2 (decide_eq_true (congrArg V.int z))
  obtain ⟨pa, pb, ev, hpa, hpb⟩ := id d2.P
  subst ev
  refine ⟨_, rfl, _, _, rfl, rfl, _, rfl, ite2 (fun c3 => ?_) (fun c3 => ?_)⟩
  · -- a push
    refine ⟨_, rfl, _, rfl, pa, _, 1, _, rfl, rfl, SqT.of hpa, rfl, p, q, ns1, z1, (pl.many : Int), rfl, d2.B, by have := okp.m1; omega, p9 (by have := okp.m4; omega), fun r ns3 z3 H3 r0 r1 B3 k3 => ?_⟩
    have d3 := d2.box B3 k3
    have hT3 := Tabs.keep hT2 d2.B k3
    obtain ⟨c, hc, hat⟩ := sign_at okp.m4 r0 r1
    refine ⟨("abcd" : Str), r, c, rfl, rfl, by rw [s_abcd, tx_len]; exact sz (by decide), hat, ?_⟩
    refine ⟨_, rfl, md, _, rfl, d3.gPast, .inl ⟨rfl, _, SqL.of d3.L⟩, _, rfl, ql, _, _, rfl, rfl, d3.L, by rw [eN]; exact szl (by omega), ?_⟩
    have d4 := d3.list (past' := past ++ [[c]])
    have hT4 := Tabs.upd (o := .lst ((past ++ [[c]]).map fz')) hT3 d3.L
    have eap : past.map fz' ++ [V.str ⟨#[c]⟩] = (past ++ [[c]]).map fz' := by
      rw [List.map_append]
      rfl
    rw [eap]
    generalize upd H3 ql (.lst ((past ++ [[c]]).map fz')) = H4 at d4 hT4
    have hcs : c = 45 ∨ c ∈ signs pl.many := .inr hc
    obtain ⟨dx, fs, ho, hno⟩ := d4.M.at
    refine ⟨_, rfl, x, dx, fs, rfl, ho, hno _ nf_push, _, rfl, x, pm, m, c, rfl, d4.M, dd.ok, by rw [dd.len]; omega, by rw [dd.p]; exact hc, fun H5 k5 M5 => ?_⟩
    have d5 := d4.mach M5 k5
    have hT5 := Tabs.keepM hT4 d4.M k5
    have dd5 := dd.add (s := [c]) (t := tstep m.p.room c) (z := cst m.p c) (by rw [dd.p]; exact (ttold_one okp.r1 hcs).symm) (by rw [dd.p]; exact (sprc_one _ _).symm) (fun y hy => by
      have e : y = c := by simpa using hy
      subst e
      exact hcs) (by show 1 ≤ 256; decide) (by omega)
    obtain ⟨pa5, pb5, ev5, hpa5, hpb5⟩ := id d5.P
    cases ev5
    have eroom : m.p.room = pl.room := by rw [dd.p]
    have glen : (gone pl.room first past.flatten).length ≤ pl.room := gone_len _ _ dd.f1
    rw [eroom, dd.l]
    refine ⟨_, rfl, _, rfl, by rw [tx_len]; exact sz (by omega), _, rfl, pa, _, 0, _, rfl, rfl, SqT.of hpa5, rfl, rfl, _, rfl, ite2 (fun c4 => ?_) (fun c4 => ?_)⟩
    · have e4 : (gone pl.room first past.flatten).length = pl.room := by
        have z1 := of_decide_eq_true c4
        rw [tx_len] at z1
        injection z1 with z2
        exact Int.ofNat.inj z2
      cases hg : gone pl.room first past.flatten with
      | nil =>
        rw [hg] at e4
        have := okp.r1
        simp at e4
        omega
      | cons c0 r0 =>
        rw [hg] at e4
        refine ⟨_, rfl, _, 0, c0, rfl, rfl, by rw [tx_len, e4]; exact sz (by omega), (show atI (c0 :: r0) ((0 : Nat) : Int) = some c0 from atI_nat rfl), ?_⟩
        rw [fallV_eq e4]
        exact ⟨_, _, rfl, .inl ⟨rfl, trivial⟩, fun H6 s6 => kk _ _ _ _ H6 (d5.same s6) dd5 (by rw [List.length_append]; exact Nat.le_refl _) (Tabs.same hT5 s6)⟩
    · have e4 : ¬ (gone pl.room first past.flatten).length = pl.room := fun z => c4 (decide_eq_true (by rw [tx_len, z]))
      rw [fallV_ne e4]
      exact ⟨_, _, rfl, .inl ⟨rfl, trivial⟩, fun H6 s6 => kk _ _ _ _ H6 (d5.same s6) dd5 (by rw [List.length_append]; exact Nat.le_refl _) (Tabs.same hT5 s6)⟩
  refine ⟨_, rfl, _, _, rfl, rfl, _, rfl, ite2 (fun c5 => ?_) (fun c5 => ?_)⟩
  · -- a pop
    refine ⟨_, rfl, md, _, rfl, d2.gPast, .inl ⟨rfl, _, SqL.of d2.L⟩, ql, _, _, rfl, rfl, d2.L, by rw [eN]; exact szl (by omega), ?_⟩
    have d4 := d2.list (past' := past ++ [[45]])
    have hT4 := Tabs.upd (o := .lst ((past ++ [[45]]).map fz')) hT2 d2.L
    have eap : past.map fz' ++ [V.str "-"] = (past ++ [[45]]).map fz' := by
      rw [List.map_append, s_minus]
      rfl
    rw [eap]
    generalize upd H2 ql (.lst ((past ++ [[45]]).map fz')) = H4 at d4 hT4
    obtain ⟨dx, fs, ho, hno⟩ := d4.M.at
    refine ⟨_, rfl, x, dx, fs, rfl, ho, hno _ nf_pop, x, pm, m, rfl, d4.M, dd.ok, by rw [dd.len]; omega, fun H5 k5 M5 => ?_⟩
    have d5 := d4.mach M5 k5
    have hT5 := Tabs.keepM hT4 d4.M k5
    have dd5 := dd.add (s := [45]) (t := tstep m.p.room 45) (z := cst m.p 45) (by rw [dd.p]; exact (ttold_one (many := pl.many) okp.r1 (.inl rfl)).symm) (by rw [dd.p]; exact (sprc_one _ _).symm) (fun y hy => by
      have e : y = 45 := by simpa using hy
      exact .inl e) (by show 1 ≤ 256; decide) (by omega)
    have glen : (gone pl.room first past.flatten).length ≤ pl.room := gone_len _ _ dd.f1
    rw [dd.l]
    rcases List.eq_nil_or_concat (gone pl.room first past.flatten) with e6 | ⟨L0, c0, e6⟩
    · rw [e6]
      refine ⟨_, rfl, rfl, _, rfl, ?_⟩
      rw [← s_empty]
      refine iteNS rfl ?_
      exact ⟨_, _, rfl, .inl ⟨rfl, trivial⟩, fun H6 s6 => kk _ _ _ _ H6 (d5.same s6) dd5 (by rw [List.length_append]; exact Nat.le_refl _) (Tabs.same hT5 s6)⟩
    · rw [List.concat_eq_append] at e6
      rw [e6] at glen ⊢
      have et : topV (L0 ++ [c0]) = .str (tx [c0]) := by
        unfold topV
        rw [List.getLast?_concat]
      have ene : (!decide (V.str (tx (L0 ++ [c0])) = V.str "")) = true := by
        rw [decide_eq_false fun z => ?_]
        · rfl
        · injection z with z
          have := str_inj.mp (z.trans s_empty)
          simp at this
      rw [et]
      refine ⟨_, rfl, rfl, _, rfl, ?_⟩
      rw [ene]
      refine iteT ?_
      refine ⟨_, rfl, _, rfl, _, _, c0, rfl, rfl, by rw [tx_len]; exact sz (by omega), atI_last L0 c0, ?_⟩
      exact ⟨_, _, rfl, .inl ⟨rfl, trivial⟩, fun H6 s6 => kk _ _ _ _ H6 (d5.same s6) dd5 (by rw [List.length_append]; exact Nat.le_refl _) (Tabs.same hT5 s6)⟩
  -- a work
  refine ⟨_, rfl, _, rfl, p, q, ns1, z1, .ref pa, pl, 4, 3, 60, rfl, d2.B, d2.P, okp, by decide, by decide, by decide, by decide, by decide, by decide, fun wk u ns3 z3 H3 can dep siz ctm hu B3 k3 => ?_⟩
  have d3 := d2.box B3 k3
  have hT3 := Tabs.keep hT2 d2.B k3
  have ctm4 := W.Tm_le (show 3 ≤ 4 by decide) wk ctm
  refine ⟨_, rfl, md, _, rfl, d3.gPast, .inl ⟨rfl, _, SqL.of d3.L⟩, _, rfl, u, wk, pl.many, rfl, hu, can, by omega, ctm4, by omega, fun H4 s4 => ?_⟩
  have d4 := d3.same s4
  have hT4 := Tabs.same hT3 s4
  refine ⟨ql, _, _, rfl, rfl, d4.L, by rw [eN]; exact szl (by omega), ?_⟩
  have d5 := d4.list (past' := past ++ [wk.lng])
  have hT5 := Tabs.upd (o := .lst ((past ++ [wk.lng]).map fz')) hT4 d4.L
  have tu5 : Tups H4 (upd H4 ql (.lst ((past ++ [wk.lng]).map fz'))) := Tups.lst d4.L
  have hu5 := (hu.tups (Tups.of s4)).tups tu5
  have eap : past.map fz' ++ [V.str (tx wk.lng)] = (past ++ [wk.lng]).map fz' := by
    rw [List.map_append]
    rfl
  rw [eap]
  generalize upd H4 ql (.lst ((past ++ [wk.lng]).map fz')) = H5 at d5 hT5 hu5
  have wok : WOk pl.many wk := ⟨can, siz, by omega⟩
  have elng : wk.tri pl.room = ttold pl.room wk.lng := W.tri_lng okp.r1 wk can
  have hlng : wk.lng.length ≤ 256 := by
    rw [← W.cnt_lng]
    have h1 := W.cnt_le wk ctm4
    have h2 : 4 ^ wk.dep ≤ 4 ^ 4 := Nat.pow_le_pow_right (by decide) dep
    have h3 : (4 : Nat) ^ 4 = 256 := by decide
    omega
  have glen : (gone pl.room first past.flatten).length ≤ pl.room := gone_len _ _ dd.f1
  obtain ⟨dx, fs, ho, hno⟩ := d5.M.at
  refine ⟨_, rfl, x, dx, fs, rfl, ho, hno _ nf_do, _, rfl, x, pm, m, u, wk, rfl, d5.M, dd.ok, by rw [dd.len]; omega, hu5, by rw [dd.p]; exact wok, fun H6 k6 M6 => ?_⟩
  have d6 := d5.mach M6 k6
  have hT6 := Tabs.keepM hT5 d5.M k6
  have dd6 := dd.add (s := wk.lng) (t := wk.tri m.p.room) (z := wk.prc (cst m.p)) (by rw [dd.p]; exact elng) (by rw [dd.p]; exact W.prc_lng _ wk) (W.lng_in wk can) hlng (by omega)
  have elast : atI ((past ++ [wk.lng]).map fz') (-1) = some (fz' wk.lng) := by
    rw [List.map_append]
    exact atI_last _ _
  refine ⟨_, rfl, _, rfl, _, rfl, md, _, rfl, d6.gPast, _, rfl, ql, _, _, fz' wk.lng, rfl, rfl, SqL.of d6.L, elast, ?_⟩
  refine ⟨.ref pa, pl, gone pl.room first past.flatten, wk.lng, rfl, d6.P, okp, glen, fun H7 s7 => ?_⟩
  have eby : V.str (tx (tby (wk.tri m.p.room) m.l)) = V.str (tx (gone pl.room (gone pl.room first past.flatten) wk.lng)) := by
    rw [dd.p, dd.l, elng, tby_told okp.r1 _ glen]
  rw [eby]
  exact ⟨_, _, rfl, .inl ⟨rfl, trivial⟩, fun H8 s8 => kk _ _ _ _ H8 ((d6.same s7).same s8) dd6 (by rw [List.length_append]; exact Nat.le_refl _) (Tabs.same (Tabs.same hT6 s7) s8)⟩
theorem alk_lst {H : Hp} {a b : Addr} {xs : List V} (ha : H a = some (.lst xs)) (hb : H b = some (.lst xs)) (hz : xs.length ≤ 10000) (hf : xs.all flatV = true) : Alk H 2 (.ref a) (.ref b) := by
  refine .inr ⟨a, b, xs, xs, rfl, rfl, .inr ⟨ha, hb⟩, rfl, hz, fun i x y e1 e2 => ?_⟩
  have e : x = y := Option.some.inj (e1.symm.trans e2)
  subst e
  have hx := List.all_eq_true.mp hf x (List.mem_of_getElem? e1)
  refine .inl ⟨rfl, ?_⟩
  cases x with
  | non => trivial
  | bl _ => trivial
  | int _ => trivial
  | str _ => trivial
  | _ => exact absurd (show false = true from hx) Bool.false_ne_true
theorem ok_law {f : Addr} {fd : FuncData} (F : L2.Fun K "law" "law" s_law f fd) (g : Gx mg) (c_law_begun : C8.Cal P w K mg base 1 "_law_begun" (spLBegun K) []) (c_law_plan : C8.Cal P w K mg base 2 "_law_plan" spLPlan []) (c_law_signs : C8.Cal P w K mg base 2 "_law_signs" spLSigns []) (c_M_init : C8.Mak P w K mg base 4 "Machine" C (spMInit C) []) (c_law_take : C8.Cal P w K mg base 1 "_law_take" spTake []) (c_law_deed : C8.Cal P w K mg base 13 "_law_deed" ((spLDeed C) T) []) (c_law_gone : C8.Cal P w K mg base 2 "_law_gone" spLGone []) (c_law_price : C8.Cal P w K mg base 1 "_law_price" spLPrice []) (c_M_stack : C8.Met P w K mg base 1 C "stack" (spMStack C) []) (c_M_spent : C8.Met P w K mg base 1 C "spent" (spMSpent C) []) (c_M_deeds : C8.Met P w K mg base 1 C "deeds" (spMDeeds C) []) (c_law_alike : C8.Cal P w K mg base 2 "_law_alike" (spAlike 2) []) (c_M_triple : C8.Met P w K mg base 1 C "triple" (spMTriple C) []) (c_law_by : C8.Cal P w K mg base 1 "_law_by" spLBy []) : FnOk P w K mg base CX0 14 f fd P_law (spLawT K T) := by
  refine F.ok sc_law (fun vs H Q E h => ?_) (fun cdv A outer s H vs Q E hr h => ?_)
  · obtain ⟨a, ns, rfl, hS, h63, hT, kk⟩ := h
    rfl
  obtain ⟨a, ns, rfl, hS, h63, hT, kk⟩ := h
  have nd := sc_law.nd
  refine ⟨_, (pss_cons (ps_set (i := 1) nd rfl (.inl rfl) (C8.pe_c c_law_begun hr (by decide) rfl (pa_cons (pv 0) pa_nil)))
    (pss_cons (ps_set (i := 2) nd rfl (.inl rfl) (C8.pe_c c_law_plan hr (by decide) rfl (pa_cons (pv 1) (pa_cons pe_int (pa_cons pe_int pa_nil)))))
    (pss_cons (ps_set (i := 3) nd rfl (.inl rfl) (pe_disp (pps_cons pe_str (pv 2) (pps_cons pe_str (C8.pe_c c_law_signs hr (by decide) rfl (pa_cons (pv 1) (pa_cons (pv 2) (pa_cons (pe_ix ix_tup (pv 2) pe_int (fun _ _ => rfl)) pa_nil)))) (pps_cons pe_str (pe_lst pa_nil) pps_nil))) (by rfl) (by rfl) (fun z => by cases z) (by decide)))
    (pss_cons (ps_par (i := 4) (j := 5) (by rfl) nd rfl rfl (by decide) rfl rfl (pa_cons (C8.pe_mk c_M_init hr (by decide) rfl (pa_cons (pv 2) (pa_cons (pe_dget (hu1 hr) (pv 3) pe_str (fun _ _ => rfl)) pa_nil))) (pa_cons (C8.pe_c c_law_signs hr (by decide) rfl (pa_cons (pv 1) (pa_cons (pv 2) (pa_cons (pe_ix ix_tup (pv 2) pe_int (fun _ _ => rfl)) pa_nil)))) pa_nil)) (by rfl))
    (pss_cons (ps_for PassesOwn.never rfl (pi_range1 (by rfl) g.range (pa_cons (C8.pe_c c_law_take hr (by decide) rfl (pa_cons (pv 1) (pa_cons pe_int pa_nil))) pa_nil)) (pg_name (i := 6) nd rfl (.inl rfl)) (pss_cons (ps_if (pt_not (pt_val (C8.pe_c c_law_deed hr (by decide) rfl (pa_cons (pv 1) (pa_cons (pv 3) (pa_cons (pv 4) pa_nil)))))) (pss_one (ps_ret pe_bl)) pss_nil)
    (pss_cons (ps_set (i := 7) nd rfl (.inl rfl) (pe_join pe_str (pe_dget (hu1 hr) (pv 3) pe_str (fun _ _ => rfl))))
    (pss_cons (ps_set (i := 8) nd rfl (.inl rfl) (pe_lst (pa_cons (C8.pe_c c_law_gone hr (by decide) rfl (pa_cons (pv 2) (pa_cons (pe_dget (hu1 hr) (pv 3) pe_str (fun _ _ => rfl)) (pa_cons (pv 7) pa_nil)))) (pa_cons (C8.pe_c c_law_price hr (by decide) rfl (pa_cons (pv 2) (pa_cons (pv 7) pa_nil))) (pa_cons (pe_callB call_len_seq rfl g.len PySem.boot_len (pa_cons (pe_dget (hu1 hr) (pv 3) pe_str (fun _ _ => rfl)) pa_nil)) pa_nil)))))
    (pss_cons (ps_for PassesOwn.never rfl (pi_range1 (by rfl) g.range (pa_cons pe_int pa_nil)) (pg_name (i := 9) nd rfl (.inl rfl)) (pss_one (ps_if (pt_not (pt_val (C8.pe_c c_law_alike hr (by decide) rfl (pa_cons (pe_lst (pa_cons (C8.pe_mt0 c_M_stack hr (by decide) (pv 4)) (pa_cons (C8.pe_mt0 c_M_spent hr (by decide) (pv 4)) (pa_cons (C8.pe_mt0 c_M_deeds hr (by decide) (pv 4)) pa_nil)))) (pa_cons (pv 8) pa_nil))))) (pss_one (ps_ret pe_bl)) pss_nil)))
    (pss_cons (ps_set (i := 10) nd rfl (.inl rfl) (C8.pe_mt0 c_M_triple hr (by decide) (pv 4)))
    (pss_one (ps_if (PW.pt (pw_or (pt_cmpR op_ne (C8.pe_c c_law_by hr (by decide) rfl (pa_cons (pv 10) (pa_cons (pe_dget (hu1 hr) (pv 3) pe_str (fun _ _ => rfl)) pa_nil))) (pe_ix ix_list (pv 8) pe_int (fun _ _ => rfl)) (nomark _)) (pw_or1 (pt_cmpR op_ne (C8.pe_c c_law_by hr (by decide) rfl (pa_cons (pv 10) (pa_cons (pv 5) pa_nil))) (C8.pe_c c_law_gone hr (by decide) rfl (pa_cons (pv 2) (pa_cons (pv 5) (pa_cons (pv 7) pa_nil)))) (nomark _))))) (pss_one (ps_ret pe_bl)) pss_nil))))))))
    (pss_one (ps_ret pe_bl))))))), ?_⟩
  refine ⟨_, rfl, a, ns, rfl, hS, h63, fun p q z H1 s1 B np nq => ?_⟩
  replace hT := Tabs.same hT s1
  -- the plan
  refine ⟨_, rfl, p, q, ns, z, 9, 4, rfl, B, by decide, by decide, by decide, by decide, fun pl v ns2 z2 H2 ok hR hM hp B2 k2 => ?_⟩
  replace hT := Tabs.keep hT B k2
  have r9 := ok.r9
  obtain ⟨pa, pb, rfl, hpa, hpb⟩ := id hp
  -- the dict
  refine fun md hmd => ?_
  have smd := Same.new hmd (.dK [])
  have hmd3 : upd H2 md (.dK []) md = some (.dK []) := upd_same
  generalize upd H2 md (.dK []) = H3 at smd hmd3
  replace hT := Tabs.same hT smd
  replace hp := hp.mono smd
  replace hpa := smd _ _ hpa
  replace B2 := B2.mono smd
  refine ⟨_, rfl, _, rfl, _, rfl, _, rfl, pa, _, 0, _, rfl, rfl, SqT.of hpa, rfl, p, q, ns2, z2, .ref pa, pl, pl.room, rfl, B2, hp, ok, by omega, fun first ns4 z4 H4 hf1 hf2 B4 k4 => ?_⟩
  have ep1 : md ≠ p := ne_of hmd3 B2.b (by intro z; cases z)
  have ep2 : md ≠ q := ne_of hmd3 B2.l (by intro z; cases z)
  have hmd4 := k4 _ _ hmd3 ep1 ep2
  replace hT := Tabs.keep hT B2 k4
  replace hp := hp.tups (k4.tups B2)
  replace hpa := (k4.tups B2).t _ _ hpa
  have B4' := B4
  refine ⟨by (first | (show _ ≤ sizeLine; decide) | (simp only [List.length_cons, List.length_nil]; decide)), fun ql hNewql => ?_⟩
  generalize hGenql : upd _ ql _ = H5
  obtain ⟨s5, hL⟩ := Same.ofG hNewql hGenql
  replace hT := Tabs.same hT s5
  replace hp := hp.mono s5
  replace hpa := s5 _ _ hpa
  replace B4 := B4.mono s5
  have hf5 := B4'.fresh hNewql
  have hmd5 := s5 _ _ hmd4
  refine ⟨hmd5, md0 (.ref pa) first ql, rfl, by show 3 ≤ 15; decide, ?_⟩
  have em : mergeK [] (md0 (.ref pa) first ql) = md0 (.ref pa) first ql := rfl
  rw [em]
  have tu := Tups.dK (o := .dK (md0 (.ref pa) first ql)) hmd5
  have nlm : ql ≠ md := ne_of hL hmd5 (by intro z; cases z)
  replace hT := tabs_updK (o := .dK (md0 (.ref pa) first ql)) hT hmd5
  replace hp := hp.tups tu
  replace B4 : BoxAt (upd H5 md (.dK (md0 (.ref pa) first ql))) p q ns4 z4 := ⟨by rw [upd_ne ep1.symm]; exact B4.b, by rw [upd_ne ep2.symm]; exact B4.l, B4.ne⟩
  replace hL : upd H5 md (.dK (md0 (.ref pa) first ql)) ql = some (.lst []) := by rw [upd_ne nlm]; exact hL
  replace hmd5 : upd H5 md (.dK (md0 (.ref pa) first ql)) md = some (.dK (md0 (.ref pa) first ql)) := upd_same
  generalize upd H5 md (.dK (md0 (.ref pa) first ql)) = H6 at hT hp B4 hL hmd5
  -- the machine
  have gF : DGet H6 md (.str "first") (some (.str (tx first))) := .inl ⟨_, .inr "first", .inl hmd5, rfl, rfl⟩
  refine ⟨_, rfl, _, rfl, md, _, rfl, gF, fun x dx hx hdx hne => ?_⟩
  have sx : Same H6 (upd (upd H6 dx (.own x)) x (.ins C dx [])) := made_same0 hx hdx
  refine ⟨x, dx, .ref pa, pl, first, rfl, upd_same, hp.mono sx, ok, hf1, hf2, fun H7 pm kk7 npm M => ⟨rfl, ?_⟩⟩
  have s7 : Same H6 H7 := made_same hx hdx hne kk7
  have npm6 : H6 pm = none := made_none hx hdx npm
  have fpm := B4.fresh npm6
  have nlp : ql ≠ pm := fun e => by
    rw [e, npm6] at hL
    cases hL
  replace hT := Tabs.same hT s7
  replace hp := hp.mono s7
  replace B4 := B4.mono s7
  replace hL := s7 _ _ hL
  have hmd7 := s7 _ _ hmd5
  have d0 : D10 C H7 p q md ql x pm ns4 z4 (.ref pa) pl first [] ⟨pl, first, 0, tunt pl.room, []⟩ := ⟨B4, hp, hmd7, hL, M, hf5.1, hf5.2, nlp, fpm.1, fpm.2⟩
  have dd0 : Deeds pl first [] ⟨pl, first, 0, tunt pl.room, []⟩ := Deeds.zero ok hf1 hf2
  obtain ⟨pa7, pb7, ev7, hpa7, hpb7⟩ := id hp
  cases ev7
  refine ⟨_, rfl, _, rfl, _, rfl, pa, _, 0, _, rfl, rfl, SqT.of hpa7, rfl, p, q, ns4, z4, .ref pa, pl, pl.room, rfl, B4, hp, ok, by omega, fun other ns8 z8 H8 ho1 ho2 B8 k8 => ?_⟩
  have d8 := d0.box B8 k8
  have hT8 := Tabs.keep hT B4 k8
  refine ⟨_, _, rfl, ?_⟩
  -- the deeds
  refine ⟨_, rfl, p, q, ns8, z8, 31, rfl, B8, by decide, p9 (by decide), fun nn0 ns9 z9 H9 r0 r1 B9 k9 => ?_⟩
  have d9 := d8.box B9 k9
  have hT9 := Tabs.keep hT8 B8 k9
  refine ⟨nn0, rfl, by omega, by omega, ?_⟩
  refine for_range (lo := 0) (fun i σ H10 => ∃ (o6 o7 o8 o9 o10 : Option V) (ns10 : List Int) (z10 : Int) (past : List (List Nat)) (m : MS), σ = [some (.ref a), some (.ref p), some (.ref pa), some (.ref md), some (.ref x), some (.str (tx other)), o6, o7, o8, o9, o10] ∧ D10 C H10 p q md ql x pm ns10 z10 (.ref pa) pl first past m ∧ Deeds pl first past m ∧ past.length ≤ i ∧ Tabs T H10)
    ⟨_, _, _, _, _, ns9, z9, [], _, rfl, d9, dd0, Nat.zero_le _, hT9⟩ ?_ (fun σ H10 _ => kk H10)
  rintro i σ H10 hi ⟨o6, o7, o8, o9, o10, ns10, z10, past, m, rfl, d10, dd, hn, hT10⟩
  refine ⟨_, rfl, _, rfl, _, rfl, p, q, md, ql, x, pm, ns10, z10, .ref pa, pl, first, past, m, rfl, d10, dd, by omega, hf2, hT10, fun ns11 z11 past11 m11 H11 d11 dd11 hn11 hT11 => ⟨_, rfl, iteF ?_⟩⟩
  refine ⟨⟨_, rfl⟩, _, rfl, md, _, rfl, d11.gPast, ("" : Str), ql, past11.map tx, rfl, rfl, .inl (SqL.of (by rw [d11.L, List.map_map]; rfl)), dd11.join, ?_⟩
  rw [join_past]
  have hflen := dd11.flen
  refine ⟨_, rfl, _, rfl, md, _, rfl, d11.gFirst, _, rfl, .ref pa, pl, first, past11.flatten, rfl, d11.P, ok, dd11.f1, fun H12 s12 => ?_⟩
  replace d11 := d11.same s12
  replace hT11 := Tabs.same hT11 s12
  refine ⟨_, rfl, _, rfl, .ref pa, pl, past11.flatten, rfl, d11.P, ok, by omega, dd11.flat, fun H13 s13 => ?_⟩
  replace d11 := d11.same s13
  replace hT11 := Tabs.same hT11 s13
  refine ⟨_, rfl, md, _, rfl, d11.gPast, ql, _, rfl, .inl (SqL.of d11.L), ?_⟩
  refine ⟨by (first | (show _ ≤ sizeLine; decide) | (simp only [List.length_cons, List.length_nil]; decide)), fun due hNewdue => ?_⟩
  generalize hGendue : upd _ due _ = H14
  obtain ⟨s14, hdue⟩ := Same.ofG hNewdue hGendue
  replace d11 := d11.same s14
  replace hT11 := Tabs.same hT11 s14
  rw [List.length_map] at hdue
  refine ⟨2, rfl, by decide, by decide, for_range (lo := 0) (n := 2) (fun j σ H15 => ∃ (o9' : Option V), σ = [some (.ref a), some (.ref p), some (.ref pa), some (.ref md), some (.ref x), some (.str (tx other)), some (.int (0 + (i : Int))), some (.str (tx past11.flatten)), some (.ref due), o9', o10] ∧ Same H14 H15) ⟨_, rfl, Same.refl _⟩ ?_ ?_⟩
  · rintro j σ H15 hj ⟨o9', rfl, s15⟩
    have d15 := d11.same s15
    have hdue15 := s15 _ _ hdue
    obtain ⟨dx1, fs1, ho1, hn1⟩ := d15.M.at
    refine ⟨_, rfl, x, dx1, fs1, rfl, ho1, hn1 _ nf_stack, x, pm, m11, rfl, d15.M, fun H16 s16 => ?_⟩
    have d16 := d15.same s16
    obtain ⟨dx2, fs2, ho2, hn2⟩ := d16.M.at
    refine ⟨_, rfl, x, dx2, fs2, rfl, ho2, hn2 _ nf_spent, x, pm, m11, rfl, d16.M, fun H17 s17 => ?_⟩
    have d17 := d16.same s17
    obtain ⟨dx3, fs3, ho3, hn3⟩ := d17.M.at
    refine ⟨_, rfl, x, dx3, fs3, rfl, ho3, hn3 _ nf_deeds, x, pm, m11, rfl, d17.M, fun H18 s18 => ?_⟩
    have s15_18 := s16.trans (s17.trans s18)
    have hdue18 := s15_18 _ _ hdue15
    refine ⟨by (first | (show _ ≤ sizeLine; decide) | (simp only [List.length_cons, List.length_nil]; decide)), fun now hNewnow => ?_⟩
    generalize hGennow : upd _ now _ = H19
    obtain ⟨s19, hnow⟩ := Same.ofG hNewnow hGennow
    replace hdue18 := s19 _ _ hdue18
    rw [dd11.l, dd11.z, dd11.len] at hnow
    refine ⟨_, rfl, .ref now, .ref due, rfl, alk_lst hnow hdue18 (by show 3 ≤ 10000; decide) rfl, fun H20 s20 => ⟨_, rfl, iteF ?_⟩⟩
    exact ⟨_, rfl, s15.trans (s15_18.trans (s19.trans s20))⟩
  rintro σ H15 ⟨o9', rfl, s15⟩
  replace hdue := s15 _ _ hdue
  replace d11 := d11.same s15
  replace hT11 := Tabs.same hT11 s15
  obtain ⟨dx4, fs4, ho4, hn4⟩ := d11.M.at
  refine ⟨_, rfl, x, dx4, fs4, rfl, ho4, hn4 _ nf_triple, x, pm, m11, rfl, d11.M, fun tv ht => ?_⟩
  have e11 : m11.t = ttold pl.room past11.flatten := dd11.t
  have etl : (m11.t).l.length ≤ 1000 := by
    have := dd11.ok.t.kl
    have e := dd11.p
    rw [e] at this
    omega
  refine ⟨_, rfl, _, rfl, md, _, rfl, d11.gFirst, tv, m11.t, first, rfl, ht, by have := dd11.f1; omega, etl, fun H16 s16 => ?_⟩
  replace hdue := s16 _ _ hdue
  replace d11 := d11.same s16
  replace hT11 := Tabs.same hT11 s16
  replace ht := ht.mono s16
  rw [e11, tby_told ok.r1 _ dd11.f1]
  refine ⟨_, rfl, due, _, 0, _, rfl, rfl, SqL.of hdue, rfl, ?_⟩
  refine ⟨rfl, _, rfl, iteNS rfl ?_⟩
  refine ⟨_, rfl, _, rfl, tv, m11.t, other, rfl, ht, by omega, etl, fun H17 s17 => ?_⟩
  replace hdue := s17 _ _ hdue
  replace d11 := d11.same s17
  replace hT11 := Tabs.same hT11 s17
  replace ht := ht.mono s17
  rw [e11, tby_told ok.r1 _ ho1]
  refine ⟨_, rfl, _, rfl, _, rfl, .ref pa, pl, other, past11.flatten, rfl, d11.P, ok, ho1, fun H18 s18 => ?_⟩
  replace hdue := s18 _ _ hdue
  replace d11 := d11.same s18
  replace hT11 := Tabs.same hT11 s18
  replace ht := ht.mono s18
  refine ⟨rfl, _, rfl, iteNS rfl ?_⟩
  exact ⟨_, _, _, _, _, ns11, z11, past11, m11, rfl, d11, dd11, by omega, hT11⟩
end
/-! ### the end -/
theorem gx_mk {K : PySem.W.Frag} {mg : Str → Option Value} {h : Heap} (X : K.In h) (G : h.Ns mainGlobals mg) {u0 : Value} (v0 : PySem.W.nsIn K mainGlobals "SIGNS" = some (some u0)) (r0 : RelV (.str (tx [97, 98, 99, 100])) u0) {u1 : Value} (v1 : PySem.W.nsIn K mainGlobals "POP_STEP" = some (some u1)) (r1 : RelV (.str (tx [45])) u1) {u2 : Value} (v2 : PySem.W.nsIn K mainGlobals "MOST_ROOM" = some (some u2)) (r2 : RelV (.int 9) u2) {u3 : Value} (v3 : PySem.W.nsIn K mainGlobals "MOST_PRICE" = some (some u3)) (r3 : RelV (.int 99) u3) {u4 : Value} (v4 : PySem.W.nsIn K mainGlobals "MOST_TIMES" = some (some u4)) (r4 : RelV (.int 1000000000000000000) u4) {u5 : Value} (v5 : PySem.W.nsIn K mainGlobals "MOST_WORKS" = some (some u5)) (r5 : RelV (.int 60) u5) {u6 : Value} (v6 : PySem.W.nsIn K mainGlobals "MOST_DEEP" = some (some u6)) (r6 : RelV (.int 8) u6) (z0 : PySem.W.nsIn K mainGlobals "isinstance" = some none) (z1 : PySem.W.nsIn K mainGlobals "bool" = some none) (z2 : PySem.W.nsIn K mainGlobals "int" = some none) (z3 : PySem.W.nsIn K mainGlobals "str" = some none) (z4 : PySem.W.nsIn K mainGlobals "tuple" = some none) (z5 : PySem.W.nsIn K mainGlobals "len" = some none) (z6 : PySem.W.nsIn K mainGlobals "all" = some none) (z7 : PySem.W.nsIn K mainGlobals "max" = some none) (z8 : PySem.W.nsIn K mainGlobals "min" = some none) (z9 : PySem.W.nsIn K mainGlobals "range" = some none) (z10 : PySem.W.nsIn K mainGlobals "list" = some none) (z11 : PySem.W.nsIn K mainGlobals "reversed" = some none) (z12 : PySem.W.nsIn K mainGlobals "sum" = some none) (z13 : PySem.W.nsIn K mainGlobals "abs" = some none) (z14 : PySem.W.nsIn K mainGlobals "ValueError" = some none) : Gx mg :=
  ⟨⟨_, PySem.W.mg_of X G v0, r0⟩, ⟨_, PySem.W.mg_of X G v1, r1⟩, ⟨_, PySem.W.mg_of X G v2, r2⟩, ⟨_, PySem.W.mg_of X G v3, r3⟩, ⟨_, PySem.W.mg_of X G v4, r4⟩, ⟨_, PySem.W.mg_of X G v5, r5⟩, ⟨_, PySem.W.mg_of X G v6, r6⟩, PySem.W.mg_none_of X G z0, PySem.W.mg_none_of X G z1, PySem.W.mg_none_of X G z2, PySem.W.mg_none_of X G z3, PySem.W.mg_none_of X G z4, PySem.W.mg_none_of X G z5, PySem.W.mg_none_of X G z6, PySem.W.mg_none_of X G z7, PySem.W.mg_none_of X G z8, PySem.W.mg_none_of X G z9, PySem.W.mg_none_of X G z10, PySem.W.mg_none_of X G z11, PySem.W.mg_none_of X G z12, PySem.W.mg_none_of X G z13, PySem.W.mg_none_of X G z14⟩
theorem all_mk {l : PySem.W.OpenLaw} {w : World} {K : PySem.W.Frag} {h : Heap} {mg : Str → Option Value} {fa fL cW PT C CS D0 : Addr} {ns : Nine} (X : K.In h) (G : h.Ns mainGlobals mg) (hfa : mg "law" = some (.ref fa))
    {od an : Option Addr} {sl : Array (Option Value)} {oc kV dc pm cd ct : Value}
    (aL : PySem.W.nsIn K mainGlobals "law" = some (some (.ref fL))) (lL : K.lookup fL = some ⟨oc, od, .func (PySem.W.fnOf "law" "law" (defArgs s_law) (defBody s_law) (defScope s_law) .none kV dc pm an cd ct), sl⟩) (cL : PySem.W.codeIn K cd "law" = true) (kL : PySem.W.keepIn K (.ref fL) = true)
    (g : Gx mg) (T : MT K C)
    (DT : Dn K mg "_law_told" s_law_told P_law_told) (nn : NineG mg ns CS) (tn : TOne K ns CS D0 3) (e_BadSign : ErrC K mg "BadSign" D0)
    (D_signs_of : Dn K mg "signs_of" s_signs_of P_signs_of)
    (D_is_number : Dn K mg "is_number" s_is_number P_is_number)
    (D_is_text_of : Dn K mg "is_text_of" s_is_text_of P_is_text_of)
    (D_are_prices : Dn K mg "are_prices" s_are_prices P_are_prices)
    (D_check_plan : Dn K mg "check_plan" s_check_plan P_check_plan)
    (D_is_stack : Dn K mg "is_stack" s_is_stack P_is_stack)
    (D_check_stack : Dn K mg "check_stack" s_check_stack P_check_stack)
    (D_without_top : Dn K mg "without_top" s_without_top P_without_top)
    (D_top_of : Dn K mg "top_of" s_top_of P_top_of)
    (D_stack_behind : Dn K mg "stack_behind" s_stack_behind P_stack_behind)
    (D_tidied : Dn K mg "tidied" s_tidied P_tidied)
    (D_untouched : Dn K mg "untouched" s_untouched P_untouched)
    (D_join_triples : Dn K mg "join_triples" s_join_triples P_join_triples)
    (D_triple_of_step : Dn K mg "triple_of_step" s_triple_of_step P_triple_of_step)
    (D_law_take : Dn K mg "_law_take" s_law_take P_law_take)
    (D_law_begun : Dn K mg "_law_begun" s_law_begun P_law_begun)
    (D_law_step : Dn K mg "_law_step" s_law_step P_law_step)
    (D_law_gone : Dn K mg "_law_gone" s_law_gone P_law_gone)
    (D_law_by : Dn K mg "_law_by" s_law_by P_law_by)
    (D_law_plan : Dn K mg "_law_plan" s_law_plan P_law_plan)
    (D_law_alike : Dn K mg "_law_alike" s_law_alike P_law_alike)
    (D_is_work_alone : Dn K mg "is_work_alone" s_is_work_alone P_is_work_alone)
    (D_works_within : Dn K mg "works_within" s_works_within P_works_within)
    (D_power_triple : Dn K mg "power_triple" s_power_triple P_power_triple)
    (D_price_of_step : Dn K mg "price_of_step" s_price_of_step P_price_of_step)
    (D_triple_of_work : Dn K mg "triple_of_work" s_triple_of_work P_triple_of_work)
    (D_price_of_work : Dn K mg "price_of_work" s_price_of_work P_price_of_work)
    (D_check_work : Dn K mg "check_work" s_check_work P_check_work)
    (D_law_signs : Dn K mg "_law_signs" s_law_signs P_law_signs)
    (D_law_work : Dn K mg "_law_work" s_law_work P_law_work)
    (D_law_tuples : Dn K mg "_law_tuples" s_law_tuples P_law_tuples)
    (D_law_long : Dn K mg "_law_long" s_law_long P_law_long)
    (D_law_some : Dn K mg "_law_some" s_law_some P_law_some)
    (D_check_sign : Dn K mg "check_sign" s_check_sign P_check_sign)
    (D_M_add_deed : Dm K C "_add_deed" "Machine._add_deed" s_M_add_deed P_M_add_deed)
    (D_M_add_step : Dm K C "_add_step" "Machine._add_step" s_M_add_step P_M_add_step)
    (D_M_do : Dm K C "do" "Machine.do" s_M_do P_M_do)
    (D_M_push : Dm K C "push" "Machine.push" s_M_push P_M_push)
    (D_M_pop : Dm K C "pop" "Machine.pop" s_M_pop P_M_pop)
    (D_M_back : Dm K C "back" "Machine.back" s_M_back P_M_back)
    (D_M_stack : Dm K C "stack" "Machine.stack" s_M_stack P_M_stack)
    (D_M_spent : Dm K C "spent" "Machine.spent" s_M_spent P_M_spent)
    (D_M_triple : Dm K C "triple" "Machine.triple" s_M_triple P_M_triple)
    (D_M_deeds : Dm K C "deeds" "Machine.deeds" s_M_deeds P_M_deeds)
    (D_M_init : Di K mg C "Machine" "Machine.__init__" s_M_init P_M_init)
    (D_law_price : Dn K mg "_law_price" s_law_price P_law_price)
    (D_law_deed : DnL K mg "_law_deed" s_law_deed P_law_deed cW) :
    ∃ fd : FuncData, (∀ (s : Shared) (v : Value), BindsTo s fd ⟨[v], []⟩ [("_law_script", v)]) ∧ ∀ base : Heap, K.In base → base.Ns mainGlobals mg → LamX.TabB base mg cW PT → FnOk l.prog w K mg base CX0 14 fa fd ["_law_script"] (spLawT K [(PT, lamQk10)]) := by
  have e := hfa.symm.trans (PySem.W.mg_of X G aL)
  cases e
  have F := fun_mk (st := s_law) lL cL kL
  refine ⟨PySem.W.fnOf "law" "law" (defArgs s_law) (defBody s_law) (defScope s_law) .none kV dc pm an cd ct, fun s v => .of_eq rfl, fun base _ _ TB => ?_⟩
  have c_signs_of := ok_signs_of (P := l.prog) (w := w) (base := base) D_signs_of g
  have c_is_number := ok_is_number (P := l.prog) (w := w) (base := base) D_is_number g
  have c_is_text_of := ok_is_text_of (P := l.prog) (w := w) (base := base) D_is_text_of g
  have c_are_prices := ok_are_prices (P := l.prog) (w := w) (base := base) D_are_prices g c_is_number
  have c_check_plan := ok_check_plan (P := l.prog) (w := w) (base := base) D_check_plan g c_is_number c_are_prices
  have c_is_stack := ok_is_stack (P := l.prog) (w := w) (base := base) D_is_stack g c_signs_of c_is_text_of
  have c_check_stack := ok_check_stack (P := l.prog) (w := w) (base := base) D_check_stack g c_is_stack
  have c_without_top := ok_without_top (P := l.prog) (w := w) (base := base) D_without_top g
  have c_top_of := ok_top_of (P := l.prog) (w := w) (base := base) D_top_of g
  have c_stack_behind := ok_stack_behind (P := l.prog) (w := w) (base := base) D_stack_behind g c_without_top c_top_of
  have c_tidied := ok_tidied (P := l.prog) (w := w) (base := base) D_tidied g
  have c_untouched := ok_untouched (P := l.prog) (w := w) (base := base) D_untouched g
  have c_join_triples := ok_join_triples (P := l.prog) (w := w) (base := base) D_join_triples g c_without_top c_top_of c_tidied
  have c_triple_of_step := ok_triple_of_step (P := l.prog) (w := w) (base := base) D_triple_of_step g c_tidied
  have c_law_take := ok_law_take (P := l.prog) (w := w) (base := base) D_law_take g
  have c_law_begun := ok_law_begun (P := l.prog) (w := w) (base := base) D_law_begun g
  have c_law_step := ok_law_step (P := l.prog) (w := w) (base := base) D_law_step g
  have c_law_gone := ok_law_gone (P := l.prog) (w := w) (base := base) D_law_gone g c_law_step
  have c_law_by := ok_law_by (P := l.prog) (w := w) (base := base) D_law_by g
  have c_law_plan := ok_law_plan (P := l.prog) (w := w) (base := base) D_law_plan g c_law_take
  have c_law_alike := ok_law_alike (P := l.prog) (w := w) (base := base) D_law_alike g 2
  have c_is_work_alone := ok_is_work_alone (P := l.prog) (w := w) (base := base) D_is_work_alone g c_is_number
  have c_works_within := ok_works_within (P := l.prog) (w := w) (base := base) D_works_within g
  have c_power_triple := ok_power_triple (P := l.prog) (w := w) (base := base) D_power_triple g c_untouched c_join_triples
  have c_price_of_step := ok_price_of_step (P := l.prog) (w := w) (base := base) D_price_of_step g
  have c_triple_of_work := ok_triple_of_work (P := l.prog) (w := w) (base := base) D_triple_of_work g c_triple_of_step c_power_triple c_untouched c_join_triples 8
  have c_price_of_work := ok_price_of_work (P := l.prog) (w := w) (base := base) D_price_of_work g c_price_of_step 8
  have c_check_work := ok_check_work (P := l.prog) (w := w) (base := base) D_check_work g c_signs_of c_is_work_alone c_works_within
  have c_law_signs := ok_law_signs (P := l.prog) (w := w) (base := base) D_law_signs g c_law_take
  have c_law_work := ok_law_work (P := l.prog) (w := w) (base := base) D_law_work g c_law_take 8
  have c_law_tuples := ok_law_tuples (P := l.prog) (w := w) (base := base) D_law_tuples g 8
  have c_law_long := ok_law_long (P := l.prog) (w := w) (base := base) D_law_long g 8
  have c_law_some := ok_law_some (P := l.prog) (w := w) (base := base) D_law_some g c_law_work c_law_tuples
  have c_check_sign := ok_check_sign (P := l.prog) (w := w) (base := base) D_check_sign g c_signs_of
  have c_M_add_deed := ok_M_add_deed (P := l.prog) (w := w) (base := base) D_M_add_deed T g c_stack_behind c_join_triples
  have c_M_add_step := ok_M_add_step (P := l.prog) (w := w) (base := base) D_M_add_step T g c_triple_of_step c_price_of_step c_M_add_deed
  have c_M_do := ok_M_do (P := l.prog) (w := w) (base := base) D_M_do T g c_check_work c_triple_of_work c_price_of_work c_M_add_deed
  have c_M_push := ok_M_push (P := l.prog) (w := w) (base := base) D_M_push T g c_check_sign c_M_add_step
  have c_M_pop := ok_M_pop (P := l.prog) (w := w) (base := base) D_M_pop T g c_M_add_step
  have c_M_back := ok_M_back (P := l.prog) (w := w) (base := base) D_M_back T g
  have c_M_stack := ok_M_stack (P := l.prog) (w := w) (base := base) D_M_stack T g
  have c_M_spent := ok_M_spent (P := l.prog) (w := w) (base := base) D_M_spent T g
  have c_M_triple := ok_M_triple (P := l.prog) (w := w) (base := base) D_M_triple T g
  have c_M_deeds := ok_M_deeds (P := l.prog) (w := w) (base := base) D_M_deeds T g
  have c_M_init := ok_M_init (P := l.prog) (w := w) (base := base) D_M_init T g c_check_plan c_check_stack c_untouched
  have c_law_price := ok_law_price (P := l.prog) (w := w) (base := base) D_law_price g
  have x_check_sign := okx_check_sign (P := l.prog) (w := w) (base := base) D_check_sign g e_BadSign c_signs_of
  have x_M_push := okx_M_push (P := l.prog) (w := w) (base := base) D_M_push T g x_check_sign
  have c_law_deed := ok_law_deed (P := l.prog) (w := w) (base := base) D_law_deed TB DT nn tn g c_law_take c_M_back c_law_alike c_law_gone c_M_push c_M_pop c_law_some c_law_long c_M_do x_M_push
  exact ok_law F g c_law_begun c_law_plan c_law_signs c_M_init c_law_take c_law_deed c_law_gone c_law_price c_M_stack c_M_spent c_M_deeds c_law_alike c_M_triple c_law_by
theorem mt_mk {K : PySem.W.Frag} {C : Addr} (pg : PySem.W.plainGet K C Str.empty = true) (hd : PySem.W.hasDictIn K C = true) (po : PySem.W.plainOver K C = true) (sa : PySem.W.findIn K (.ref C) "__setattr__" = some (some (.builtin "object.__setattr__"))) (n_plan : PySem.W.findIn K (.ref C) "_plan" = some none) (n_stack : PySem.W.findIn K (.ref C) "_stack" = some none) (n_spent : PySem.W.findIn K (.ref C) "_spent" = some none) (n_triple : PySem.W.findIn K (.ref C) "_triple" = some none) (n_past : PySem.W.findIn K (.ref C) "_past" = some none) : MT K C := ⟨⟨pg, hd, po, sa⟩, n_plan, n_stack, n_spent, n_triple, n_past⟩
theorem law_at {l : PySem.W.OpenLaw} {w : World} {K : PySem.W.Frag} {h : Heap} {mg : Str → Option Value} {fa cL PT : Addr} {k : Nat} (hE : h.get? PT = some { cls := .none, data := .fields #[] }) (hN : K.lookup PT = none) (hC : PySem.W.codeHdIn K cL PT = true) (KX : K.In h)
    (A : ∃ fd : FuncData, (∀ (s : Shared) (v : Value), BindsTo s fd ⟨[v], []⟩ [("_law_script", v)]) ∧ ∀ base : Heap, K.In base → base.Ns mainGlobals mg → LamX.TabB base mg cL PT → FnOk l.prog w K mg base CX0 k fa fd ["_law_script"] (spLawT K [(PT, lamQk10)])) : LamX.LawAtS l w K CX0 k 63 "_law_script" mg fa h := by
  obtain ⟨fd, hb, hF⟩ := A
  refine ⟨fd, [(cL, PT)], spLawT K [(PT, lamQk10)], fun p hp => ?_, fun p hp => ?_, fun p hp => ?_, hb, fun H a ns hl _ hH hS => ⟨a, ns, rfl, hS, hl, fun p hp => ?_, fun _ => rfl⟩, fun base b1 b2 b3 => hF base b1 b2 (b3 _ (List.mem_singleton.mpr rfl))⟩
  · rw [List.mem_singleton.mp hp]
    exact hE
  · rw [List.mem_singleton.mp hp]
    exact hN
  · rw [List.mem_singleton.mp hp]
    exact PySem.W.codeHd_of_K KX hC
  · rw [List.mem_singleton.mp hp]
    exact LamX.TabS.nil (hH _ (List.mem_singleton.mpr rfl))
theorem nine_mk {K : PySem.W.Frag} {mg : Str → Option Value} {h : Heap} {CS c0 c1 c2 c3 c4 c5 c6 c7 c8 : Addr} (X : K.In h) (G : h.Ns mainGlobals mg) (y0 : PySem.W.nsIn K mainGlobals "BadCount" = some (some (.ref c0))) (y1 : PySem.W.nsIn K mainGlobals "BadPair" = some (some (.ref c1))) (y2 : PySem.W.nsIn K mainGlobals "BadPlan" = some (some (.ref c2))) (y3 : PySem.W.nsIn K mainGlobals "BadSign" = some (some (.ref c3))) (y4 : PySem.W.nsIn K mainGlobals "BadStack" = some (some (.ref c4))) (y5 : PySem.W.nsIn K mainGlobals "BadSteps" = some (some (.ref c5))) (y6 : PySem.W.nsIn K mainGlobals "BadText" = some (some (.ref c6))) (y7 : PySem.W.nsIn K mainGlobals "BadTriple" = some (some (.ref c7))) (y8 : PySem.W.nsIn K mainGlobals "BadWork" = some (some (.ref c8))) (y9 : PySem.W.nsIn K mainGlobals "SinkError" = some (some (.ref CS))) : NineG mg ⟨c0, c1, c2, c3, c4, c5, c6, c7, c8⟩ CS :=
  ⟨⟨_, PySem.W.mg_of X G y0, rfl⟩, ⟨_, PySem.W.mg_of X G y1, rfl⟩, ⟨_, PySem.W.mg_of X G y2, rfl⟩, ⟨_, PySem.W.mg_of X G y3, rfl⟩, ⟨_, PySem.W.mg_of X G y4, rfl⟩, ⟨_, PySem.W.mg_of X G y5, rfl⟩, ⟨_, PySem.W.mg_of X G y6, rfl⟩, ⟨_, PySem.W.mg_of X G y7, rfl⟩, ⟨_, PySem.W.mg_of X G y8, rfl⟩, PySem.W.mg_of X G y9⟩
theorem tone_mk {K : PySem.W.Frag} {CS c0 c1 c2 c3 c4 c5 c6 c7 c8 : Addr} (hg : PySem.W.findIn K (.ref c3) "__getattribute__" = some (some (.builtin "BaseException.__getattribute__"))) (hk : PySem.W.findIn K (.ref c3) "__getattr__" = some none) (hs : PySem.W.subIn K (.ref c3) (.type "BaseException") = some true) (hd : PySem.W.hasDictIn K c3 = true) (ha : PySem.W.findIn K (.ref c3) "__class__" = some (some (.builtin "object.__class__")))
    (hn : PySem.W.specialIn K (.builtin "object.__class__") "__get__" = some (some (.builtin "getset_descriptor.__get__"))) (ht : PySem.W.takesIn K (.builtin "object.__class__") = some true) (hm : PySem.W.mroIn K c3 (.type "object") = some true)
    (s1 : PySem.W.subIn K (.ref CS) (.type "BaseException") = some true) (s2 : PySem.W.hasDictIn K CS = true) (s3 : PySem.W.typeIn K (.ref CS) = some (.type "type")) (s4 : PySem.W.subIn K (.ref c3) (.ref CS) = some true) (q0 : PySem.W.kitOne K (.ref c3) (.ref c0) = some false) (q1 : PySem.W.kitOne K (.ref c3) (.ref c1) = some false) (q2 : PySem.W.kitOne K (.ref c3) (.ref c2) = some false) (q3 : PySem.W.kitOne K (.ref c3) (.ref c3) = some true) (q4 : PySem.W.kitOne K (.ref c3) (.ref c4) = some false) (q5 : PySem.W.kitOne K (.ref c3) (.ref c5) = some false) (q6 : PySem.W.kitOne K (.ref c3) (.ref c6) = some false) (q7 : PySem.W.kitOne K (.ref c3) (.ref c7) = some false) (q8 : PySem.W.kitOne K (.ref c3) (.ref c8) = some false) (qv : PySem.W.kitOne K (.ref c3) (.type "ValueError") = some true) : TOne K ⟨c0, c1, c2, c3, c4, c5, c6, c7, c8⟩ CS c3 3 :=
  ⟨⟨hg, hk, hs, hd, ha, hn, ht, hm⟩, PySem.W.exm_ref s1 s2 s3 s4, q0, q1, q2, q3, q4, q5, q6, q7, q8, qv⟩
theorem err_mk {K : PySem.W.Frag} {mg : Str → Option Value} {h : Heap} {D : Addr} (X : K.In h) (G : h.Ns mainGlobals mg) (v : PySem.W.nsIn K mainGlobals "BadSign" = some (some (.ref D))) (xF : PySem.W.excIn K D [.type "ValueError", .type "Exception", .type "BaseException", .type "object"] "ValueError.__new__" = true) (kp : PySem.W.keepIn K (.ref D) = true) (sb : PySem.W.subIn K (.ref D) (.type "BaseException") = some true) (ty : PySem.W.typeIn K (.ref D) = some (.type "type")) : ErrC K mg "BadSign" D :=
  ⟨PySem.W.mg_of X G v, ⟨_, _, _, _, PySem.F.excBase_ValueError, xF⟩, kp, sb, ty⟩
end SK
open PySem PySem.W PyProof.Rows
set_option maxRecDepth 100000 in
set_option maxHeartbeats 0 in
theorem PySem.Challenge.cw_sinkstack_k10_machines_step_by_step_holds : PySem.Challenge.rw_sinkstack_k10_machines_step_by_step.Holds := by
  w_on; o_law; k_head; (case hw => w_witness2)
  k_fill
  refine LamX.walk_ofTs (n := 63) (k := 14) (x := "_law_script") (CX := fun _ => L2.CX0) rfl (by decide) rfl ⟨rfl, by decide, by decide⟩ (fun w h Y => PySem.W.km_in_of Y) ?F (fun _ _ _ _ _ z => z)
  case F =>
    intro w mg fa h Y KX G hmg
    have hT8 := PySem.W.km_tabs_of Y
    refine' SK.law_at (hT8 _ (List.mem_cons_self ..)) ?hN ?hC KX ?A
    case A =>
     refine' SK.all_mk KX G hmg ?aL ?lL ?cL ?kL (SK.gx_mk KX G ?v0 ?r0 ?v1 ?r1 ?v2 ?r2 ?v3 ?r3 ?v4 ?r4 ?v5 ?r5 ?v6 ?r6 ?z0 ?z1 ?z2 ?z3 ?z4 ?z5 ?z6 ?z7 ?z8 ?z9 ?z10 ?z11 ?z12 ?z13 ?z14) (SK.mt_mk ?pg ?hd ?po ?sa ?n_plan ?n_stack ?n_spent ?n_triple ?n_past) (SK.dn_mk KX G ?ta ?tl ?tc ?tk (fun _ _ _ _ _ _ us hl => match us, hl with | [_], _ => rfl)) (SK.nine_mk KX G ?y0 ?y1 ?y2 ?y3 ?y4 ?y5 ?y6 ?y7 ?y8 ?y9) (SK.tone_mk ?ohg ?ohk ?ohs ?ohd ?oha ?ohn ?oht ?ohm ?os1 ?os2 ?os3 ?os4 ?oq0 ?oq1 ?oq2 ?oq3 ?oq4 ?oq5 ?oq6 ?oq7 ?oq8 ?oqv) (SK.err_mk KX G ?ev ?ex ?ek ?es ?et)
      (SK.dn_mk KX G ?a0 ?l0 ?c0 ?k0 (fun _ _ _ _ _ _ us hl => match us, hl with | [_], _ => rfl))
      (SK.dn_mk KX G ?a1 ?l1 ?c1 ?k1 (fun _ _ _ _ _ _ us hl => match us, hl with | [_, _, _], _ => rfl))
      (SK.dn_mk KX G ?a2 ?l2 ?c2 ?k2 (fun _ _ _ _ _ _ us hl => match us, hl with | [_, _], _ => rfl))
      (SK.dn_mk KX G ?a3 ?l3 ?c3 ?k3 (fun _ _ _ _ _ _ us hl => match us, hl with | [_, _], _ => rfl))
      (SK.dn_mk KX G ?a4 ?l4 ?c4 ?k4 (fun _ _ _ _ _ _ us hl => match us, hl with | [_], _ => rfl))
      (SK.dn_mk KX G ?a5 ?l5 ?c5 ?k5 (fun _ _ _ _ _ _ us hl => match us, hl with | [_, _], _ => rfl))
      (SK.dn_mk KX G ?a6 ?l6 ?c6 ?k6 (fun _ _ _ _ _ _ us hl => match us, hl with | [_, _], _ => rfl))
      (SK.dn_mk KX G ?a7 ?l7 ?c7 ?k7 (fun _ _ _ _ _ _ us hl => match us, hl with | [_, _], _ => rfl))
      (SK.dn_mk KX G ?a8 ?l8 ?c8 ?k8 (fun _ _ _ _ _ _ us hl => match us, hl with | [_, _], _ => rfl))
      (SK.dn_mk KX G ?a9 ?l9 ?c9 ?k9 (fun _ _ _ _ _ _ us hl => match us, hl with | [_, _], _ => rfl))
      (SK.dn_mk KX G ?a10 ?l10 ?c10 ?k10 (fun _ _ _ _ _ _ us hl => match us, hl with | [_, _, _], _ => rfl))
      (SK.dn_mk KX G ?a11 ?l11 ?c11 ?k11 (fun _ _ _ _ _ _ us hl => match us, hl with | [_], _ => rfl))
      (SK.dn_mk KX G ?a12 ?l12 ?c12 ?k12 (fun _ _ _ _ _ _ us hl => match us, hl with | [_, _], _ => rfl))
      (SK.dn_mk KX G ?a13 ?l13 ?c13 ?k13 (fun _ _ _ _ _ _ us hl => match us, hl with | [_, _], _ => rfl))
      (SK.dn_mk KX G ?a14 ?l14 ?c14 ?k14 (fun _ _ _ _ _ _ us hl => match us, hl with | [_, _], _ => rfl))
      (SK.dn_mk KX G ?a15 ?l15 ?c15 ?k15 (fun _ _ _ _ _ _ us hl => match us, hl with | [_], _ => rfl))
      (SK.dn_mk KX G ?a16 ?l16 ?c16 ?k16 (fun _ _ _ _ _ _ us hl => match us, hl with | [_, _, _], _ => rfl))
      (SK.dn_mk KX G ?a17 ?l17 ?c17 ?k17 (fun _ _ _ _ _ _ us hl => match us, hl with | [_, _, _], _ => rfl))
      (SK.dn_mk KX G ?a18 ?l18 ?c18 ?k18 (fun _ _ _ _ _ _ us hl => match us, hl with | [_, _], _ => rfl))
      (SK.dn_mk KX G ?a19 ?l19 ?c19 ?k19 (fun _ _ _ _ _ _ us hl => match us, hl with | [_, _, _], _ => rfl))
      (SK.dn_mk KX G ?a20 ?l20 ?c20 ?k20 (fun _ _ _ _ _ _ us hl => match us, hl with | [_, _], _ => rfl))
      (SK.dn_mk KX G ?a21 ?l21 ?c21 ?k21 (fun _ _ _ _ _ _ us hl => match us, hl with | [_, _], _ => rfl))
      (SK.dn_mk KX G ?a22 ?l22 ?c22 ?k22 (fun _ _ _ _ _ _ us hl => match us, hl with | [_], _ => rfl))
      (SK.dn_mk KX G ?a23 ?l23 ?c23 ?k23 (fun _ _ _ _ _ _ us hl => match us, hl with | [_, _, _], _ => rfl))
      (SK.dn_mk KX G ?a24 ?l24 ?c24 ?k24 (fun _ _ _ _ _ _ us hl => match us, hl with | [_, _], _ => rfl))
      (SK.dn_mk KX G ?a25 ?l25 ?c25 ?k25 (fun _ _ _ _ _ _ us hl => match us, hl with | [_, _], _ => rfl))
      (SK.dn_mk KX G ?a26 ?l26 ?c26 ?k26 (fun _ _ _ _ _ _ us hl => match us, hl with | [_, _], _ => rfl))
      (SK.dn_mk KX G ?a27 ?l27 ?c27 ?k27 (fun _ _ _ _ _ _ us hl => match us, hl with | [_, _], _ => rfl))
      (SK.dn_mk KX G ?a28 ?l28 ?c28 ?k28 (fun _ _ _ _ _ _ us hl => match us, hl with | [_, _, _], _ => rfl))
      (SK.dn_mk KX G ?a29 ?l29 ?c29 ?k29 (fun _ _ _ _ _ _ us hl => match us, hl with | [_, _, _, _], _ => rfl))
      (SK.dn_mk KX G ?a30 ?l30 ?c30 ?k30 (fun _ _ _ _ _ _ us hl => match us, hl with | [_], _ => rfl))
      (SK.dn_mk KX G ?a31 ?l31 ?c31 ?k31 (fun _ _ _ _ _ _ us hl => match us, hl with | [_], _ => rfl))
      (SK.dn_mk KX G ?a32 ?l32 ?c32 ?k32 (fun _ _ _ _ _ _ us hl => match us, hl with | [_, _, _, _, _], _ => rfl))
      (SK.dn_mk KX G ?a33 ?l33 ?c33 ?k33 (fun _ _ _ _ _ _ us hl => match us, hl with | [_, _], _ => rfl))
      (SK.dm_mk ?a34 ?i34 ?l34 ?c34 ?k34 (fun _ _ _ _ _ _ us hl => match us, hl with | [_, _, _], _ => rfl))
      (SK.dm_mk ?a35 ?i35 ?l35 ?c35 ?k35 (fun _ _ _ _ _ _ us hl => match us, hl with | [_, _], _ => rfl))
      (SK.dm_mk ?a36 ?i36 ?l36 ?c36 ?k36 (fun _ _ _ _ _ _ us hl => match us, hl with | [_, _], _ => rfl))
      (SK.dm_mk ?a37 ?i37 ?l37 ?c37 ?k37 (fun _ _ _ _ _ _ us hl => match us, hl with | [_, _], _ => rfl))
      (SK.dm_mk ?a38 ?i38 ?l38 ?c38 ?k38 (fun _ _ _ _ _ _ us hl => match us, hl with | [_], _ => rfl))
      (SK.dm_mk ?a39 ?i39 ?l39 ?c39 ?k39 (fun _ _ _ _ _ _ us hl => match us, hl with | [_], _ => rfl))
      (SK.dm_mk ?a40 ?i40 ?l40 ?c40 ?k40 (fun _ _ _ _ _ _ us hl => match us, hl with | [_], _ => rfl))
      (SK.dm_mk ?a41 ?i41 ?l41 ?c41 ?k41 (fun _ _ _ _ _ _ us hl => match us, hl with | [_], _ => rfl))
      (SK.dm_mk ?a42 ?i42 ?l42 ?c42 ?k42 (fun _ _ _ _ _ _ us hl => match us, hl with | [_], _ => rfl))
      (SK.dm_mk ?a43 ?i43 ?l43 ?c43 ?k43 (fun _ _ _ _ _ _ us hl => match us, hl with | [_], _ => rfl))
      (SK.di_mk KX G ?aC ?mkC ?kC ?a44 ?i44 ?l44 ?c44 ?k44 (fun _ _ _ _ _ _ us hl => match us, hl with | [_, _, _], _ => rfl))
      (SK.dn_mk KX G ?a45 ?l45 ?c45 ?k45 (fun _ _ _ _ _ _ us hl => match us, hl with | [_, _], _ => rfl))
      (SK.dnL_mk KX G ?a46 ?l46 ?c46 ?k46 (fun _ _ _ _ _ _ us hl => match us, hl with | [_, _, _], _ => rfl))
     (case aL => k_is); (case lL => k_is); (case cL => k_is); (case kL => k_is)
     (case aC => k_is); (case mkC => k_is); (case kC => k_is)
     (case pg => k_is); (case hd => k_is); (case po => k_is); (case sa => k_is); (case n_plan => k_is); (case n_stack => k_is); (case n_spent => k_is); (case n_triple => k_is); (case n_past => k_is)
     (case ta => k_is); (case tl => k_is); (case tc => k_is); (case tk => k_is)
     (case y0 => k_is); (case y1 => k_is); (case y2 => k_is); (case y3 => k_is); (case y4 => k_is); (case y5 => k_is); (case y6 => k_is); (case y7 => k_is); (case y8 => k_is); (case y9 => k_is)
     (case ev => k_is); (case ex => k_exc); (case ek => k_is); (case es => k_is); (case et => k_is)
     (case ohg => k_is); (case ohk => k_is); (case ohs => k_is); (case ohd => k_is); (case oha => k_is); (case ohn => k_is); (case oht => k_is); (case ohm => k_is); (case os1 => k_is); (case os2 => k_is); (case os3 => k_is); (case os4 => k_is)
     (case oq0 => kit_is); (case oq1 => kit_is); (case oq2 => kit_is); (case oq3 => kit_is); (case oq4 => kit_is); (case oq5 => kit_is); (case oq6 => kit_is); (case oq7 => kit_is); (case oq8 => kit_is); (case oqv => kit_is)
     (case v0 => k_is); (case r0 => exact ⟨_, rfl⟩)
     (case v1 => k_is); (case r1 => exact ⟨_, rfl⟩)
     (case v2 => k_is); (case r2 => exact ⟨_, rfl⟩)
     (case v3 => k_is); (case r3 => exact ⟨_, rfl⟩)
     (case v4 => k_is); (case r4 => exact ⟨_, rfl⟩)
     (case v5 => k_is); (case r5 => exact ⟨_, rfl⟩)
     (case v6 => k_is); (case r6 => exact ⟨_, rfl⟩)
     (case z0 => k_is)
     (case z1 => k_is)
     (case z2 => k_is)
     (case z3 => k_is)
     (case z4 => k_is)
     (case z5 => k_is)
     (case z6 => k_is)
     (case z7 => k_is)
     (case z8 => k_is)
     (case z9 => k_is)
     (case z10 => k_is)
     (case z11 => k_is)
     (case z12 => k_is)
     (case z13 => k_is)
     (case z14 => k_is)
     (case a0 => k_is); (case l0 => k_is); (case c0 => k_is); (case k0 => k_is)
     (case a1 => k_is); (case l1 => k_is); (case c1 => k_is); (case k1 => k_is)
     (case a2 => k_is); (case l2 => k_is); (case c2 => k_is); (case k2 => k_is)
     (case a3 => k_is); (case l3 => k_is); (case c3 => k_is); (case k3 => k_is)
     (case a4 => k_is); (case l4 => k_is); (case c4 => k_is); (case k4 => k_is)
     (case a5 => k_is); (case l5 => k_is); (case c5 => k_is); (case k5 => k_is)
     (case a6 => k_is); (case l6 => k_is); (case c6 => k_is); (case k6 => k_is)
     (case a7 => k_is); (case l7 => k_is); (case c7 => k_is); (case k7 => k_is)
     (case a8 => k_is); (case l8 => k_is); (case c8 => k_is); (case k8 => k_is)
     (case a9 => k_is); (case l9 => k_is); (case c9 => k_is); (case k9 => k_is)
     (case a10 => k_is); (case l10 => k_is); (case c10 => k_is); (case k10 => k_is)
     (case a11 => k_is); (case l11 => k_is); (case c11 => k_is); (case k11 => k_is)
     (case a12 => k_is); (case l12 => k_is); (case c12 => k_is); (case k12 => k_is)
     (case a13 => k_is); (case l13 => k_is); (case c13 => k_is); (case k13 => k_is)
     (case a14 => k_is); (case l14 => k_is); (case c14 => k_is); (case k14 => k_is)
     (case a15 => k_is); (case l15 => k_is); (case c15 => k_is); (case k15 => k_is)
     (case a16 => k_is); (case l16 => k_is); (case c16 => k_is); (case k16 => k_is)
     (case a17 => k_is); (case l17 => k_is); (case c17 => k_is); (case k17 => k_is)
     (case a18 => k_is); (case l18 => k_is); (case c18 => k_is); (case k18 => k_is)
     (case a19 => k_is); (case l19 => k_is); (case c19 => k_is); (case k19 => k_is)
     (case a20 => k_is); (case l20 => k_is); (case c20 => k_is); (case k20 => k_is)
     (case a21 => k_is); (case l21 => k_is); (case c21 => k_is); (case k21 => k_is)
     (case a22 => k_is); (case l22 => k_is); (case c22 => k_is); (case k22 => k_is)
     (case a23 => k_is); (case l23 => k_is); (case c23 => k_is); (case k23 => k_is)
     (case a24 => k_is); (case l24 => k_is); (case c24 => k_is); (case k24 => k_is)
     (case a25 => k_is); (case l25 => k_is); (case c25 => k_is); (case k25 => k_is)
     (case a26 => k_is); (case l26 => k_is); (case c26 => k_is); (case k26 => k_is)
     (case a27 => k_is); (case l27 => k_is); (case c27 => k_is); (case k27 => k_is)
     (case a28 => k_is); (case l28 => k_is); (case c28 => k_is); (case k28 => k_is)
     (case a29 => k_is); (case l29 => k_is); (case c29 => k_is); (case k29 => k_is)
     (case a30 => k_is); (case l30 => k_is); (case c30 => k_is); (case k30 => k_is)
     (case a31 => k_is); (case l31 => k_is); (case c31 => k_is); (case k31 => k_is)
     (case a32 => k_is); (case l32 => k_is); (case c32 => k_is); (case k32 => k_is)
     (case a33 => k_is); (case l33 => k_is); (case c33 => k_is); (case k33 => k_is)
     (case a34 => k_is); (case i34 => k_is); (case l34 => k_is); (case c34 => k_is); (case k34 => k_is)
     (case a35 => k_is); (case i35 => k_is); (case l35 => k_is); (case c35 => k_is); (case k35 => k_is)
     (case a36 => k_is); (case i36 => k_is); (case l36 => k_is); (case c36 => k_is); (case k36 => k_is)
     (case a37 => k_is); (case i37 => k_is); (case l37 => k_is); (case c37 => k_is); (case k37 => k_is)
     (case a38 => k_is); (case i38 => k_is); (case l38 => k_is); (case c38 => k_is); (case k38 => k_is)
     (case a39 => k_is); (case i39 => k_is); (case l39 => k_is); (case c39 => k_is); (case k39 => k_is)
     (case a40 => k_is); (case i40 => k_is); (case l40 => k_is); (case c40 => k_is); (case k40 => k_is)
     (case a41 => k_is); (case i41 => k_is); (case l41 => k_is); (case c41 => k_is); (case k41 => k_is)
     (case a42 => k_is); (case i42 => k_is); (case l42 => k_is); (case c42 => k_is); (case k42 => k_is)
     (case a43 => k_is); (case i43 => k_is); (case l43 => k_is); (case c43 => k_is); (case k43 => k_is)
     (case a44 => k_is); (case i44 => k_is); (case l44 => k_is); (case c44 => k_is); (case k44 => k_is)
     (case a45 => k_is); (case l45 => k_is); (case c45 => k_is); (case k45 => k_is)
     (case a46 => k_is); (case l46 => k_is); (case c46 => k_is); (case k46 => k_is)
    (case hN => first | k_is | kernel_rfl)
    (case hC => first | kernel_rfl | k_is)
