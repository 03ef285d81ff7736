import PyProof.Rows.All
import Wide.All
import OpenK.AllK
import Wide.FinOn
import HandS.Base
import HandS.Call
import HandS.List
import HandS.Comp
import HandS.Ends
import HandS.Iter
import HandS.Text
import HandS.Words
import HandS.WordsList
import HandS.Codes
import HandS.IsInst
import HandS.Walk
import HandS.TupAny
import HandS.Wide
import HandS.Rev
import HandS.Replace
import HandS.Style
import KE.DataMinKey
import KE.KMinKey
import HandS.Lambda
import HandS.Nested
import HandS.Strs
import HandS.TupLe
import KE.KAssignIn
import HandS.ExcOwn
import HandS.ExcIs
import HandS.ExcField
import HandS.WordsExc
import HandS.SortRule
import HandS.SortInts
import HandS.Deep
import HandS.ExcInit
import HandS.FStr
import KE.KExcSuper
import KE.KExcIs
import KE.KDflt
import HandS.TupMul
import KE.KNestM
import KE.KLam
import HandS.EndTab
import KE.RegKIsAll
import PyProof.ExcBaseAll.ValueError
import PySem.Challenge.RW_sinkstack_k12_calls_refused
set_option Elab.async false
set_option linter.all false
set_option maxRecDepth 100000
set_option maxHeartbeats 4000000
/-! the mathematics of triples, over lists of numbers -/
namespace SK
def tp (k : Nat) (l : List Nat) : List Nat := l.drop (l.length - k)
def ct (g : Nat) (l : List Nat) : List Nat := l.take (l.length - g)
structure Tr where
  g : Nat
  k : Nat
  l : List Nat
def tby (t : Tr) (x : List Nat) : List Nat := tp t.k (ct t.g x) ++ t.l
def tidy (g k : Nat) (l : List Nat) : Tr := if k = 0 then ⟨0, 0, l⟩ else ⟨g, k, l⟩
def tjoin (t u : Tr) : Tr := tidy (t.g + (u.g - t.l.length)) (min (t.k - (u.g - t.l.length)) (u.k - (ct u.g t.l).length)) (tp u.k (ct u.g t.l) ++ u.l)
def tstep (room c : Nat) : Tr := if c = 45 then tidy 1 (room - 1) [] else ⟨0, room - 1, [c]⟩
def tunt (room : Nat) : Tr := ⟨0, room, []⟩
def ttold (room : Nat) (s : List Nat) : Tr := s.foldl (fun t c => tjoin t (tstep room c)) (tunt room)
def step (room : Nat) (x : List Nat) (c : Nat) : List Nat := if c = 45 then ct 1 x else tp room (x ++ [c])
def gone (room : Nat) (x : List Nat) (s : List Nat) : List Nat := s.foldl (step room) x
def signs (n : Nat) : List Nat := [97, 98, 99, 100].take n
structure TrOk (room many : Nat) (t : Tr) : Prop where
  gk : t.g + t.k ≤ room
  kl : t.k + t.l.length ≤ room
  z : t.k = 0 → t.g = 0
  s : ∀ c ∈ t.l, c ∈ signs many
theorem len_tp (k : Nat) (l : List Nat) : (tp k l).length = min k l.length := by
  unfold tp
  rw [List.length_drop]
  omega
theorem len_ct (g : Nat) (l : List Nat) : (ct g l).length = l.length - g := by
  unfold ct
  rw [List.length_take]
  omega
theorem tp_all {k : Nat} {l : List Nat} (h : l.length ≤ k) : tp k l = l := by
  unfold tp
  rw [Nat.sub_eq_zero_of_le h, List.drop_zero]
theorem tp_zero (l : List Nat) : tp 0 l = [] := by
  unfold tp
  rw [Nat.sub_zero, List.drop_length]
theorem ct_zero (l : List Nat) : ct 0 l = l := by
  unfold ct
  rw [Nat.sub_zero, List.take_length]
theorem ct_all {g : Nat} {l : List Nat} (h : l.length ≤ g) : ct g l = [] := by
  unfold ct
  rw [Nat.sub_eq_zero_of_le h, List.take_zero]
theorem tp_tp (a b : Nat) (l : List Nat) : tp a (tp b l) = tp (min a b) l := by
  unfold tp
  rw [List.drop_drop, List.length_drop]
  congr 1
  omega
theorem ct_ct (a b : Nat) (l : List Nat) : ct a (ct b l) = ct (b + a) l := by
  unfold ct
  rw [List.take_take, List.length_take]
  congr 1
  omega
theorem ct_tp (d k : Nat) (l : List Nat) : ct d (tp k l) = tp (k - d) (ct d l) := by
  unfold ct tp
  rw [List.length_drop, List.length_take, List.drop_take]
  by_cases h : l.length ≤ k
  · have e1 : l.length - k = 0 := by omega
    have e2 : min (l.length - d) l.length - (k - d) = 0 := by omega
    rw [e1, e2, List.drop_zero, Nat.sub_zero, Nat.sub_zero]
  · by_cases h2 : d ≤ k
    · have e2 : min (l.length - d) l.length - (k - d) = l.length - k := by omega
      rw [e2]
      congr 1
      omega
    · have e1 : l.length - (l.length - k) - d = 0 := by omega
      have e2 : l.length - d - (min (l.length - d) l.length - (k - d)) = 0 := by omega
      rw [e1, e2, List.take_zero, List.take_zero]
theorem ct_app_le {g : Nat} {a b : List Nat} (h : g ≤ b.length) : ct g (a ++ b) = a ++ ct g b := by
  unfold ct
  rw [List.length_append, List.take_append]
  have e1 : a.length + b.length - g - a.length = b.length - g := by omega
  rw [e1, List.take_of_length_le (by omega)]
theorem ct_app_ge {g : Nat} {a b : List Nat} (h : b.length ≤ g) : ct g (a ++ b) = ct (g - b.length) a := by
  unfold ct
  rw [List.length_append, List.take_append]
  have e1 : a.length + b.length - g - a.length = 0 := by omega
  rw [e1, List.take_zero, List.append_nil]
  congr 1
  omega
theorem tp_app (k : Nat) (a b : List Nat) : tp k (a ++ b) = tp (k - b.length) a ++ tp k b := by
  unfold tp
  rw [List.length_append, List.drop_append]
  have e1 : a.length + b.length - k - a.length = b.length - k := by omega
  by_cases h : b.length ≤ k
  · have e2 : a.length + b.length - k = a.length - (k - b.length) := by omega
    rw [e1, e2]
  · have e2 : a.length ≤ a.length + b.length - k := by omega
    have e3 : a.length - (k - b.length) = a.length := by omega
    rw [e1, e3, List.drop_eq_nil_of_le e2, List.drop_length]
theorem tby_tidy (g k : Nat) (l x : List Nat) : tby (tidy g k l) x = tby ⟨g, k, l⟩ x := by
  unfold tidy
  by_cases h : k = 0
  · rw [if_pos h]
    subst h
    simp only [tby, tp_zero]
  · rw [if_neg h]
theorem tby_join (t u : Tr) (x : List Nat) : tby (tjoin t u) x = tby u (tby t x) := by
  unfold tjoin
  rw [tby_tidy]
  simp only [tby]
  by_cases h : u.g ≤ t.l.length
  · have e : u.g - t.l.length = 0 := by omega
    rw [ct_app_le h, tp_app, tp_tp, e, Nat.add_zero, Nat.sub_zero, Nat.min_comm, List.append_assoc]
  · have h' : t.l.length ≤ u.g := by omega
    have e : ct u.g t.l = [] := ct_all h'
    rw [ct_app_ge h', e, ct_tp, ct_ct, tp_tp]
    simp only [List.length_nil, Nat.sub_zero]
    rw [tp_all (l := []) (by simp), List.nil_append, Nat.min_comm]
theorem tidy_ok {room many g k : Nat} {l : List Nat} (h1 : 0 < k → g + k ≤ room) (h2 : k + l.length ≤ room) (h3 : ∀ c ∈ l, c ∈ signs many) : TrOk room many (tidy g k l) := by
  unfold tidy
  by_cases h : k = 0
  · rw [if_pos h]
    exact ⟨by simp, by subst h; simpa using h2, fun _ => rfl, h3⟩
  · rw [if_neg h]
    exact ⟨h1 (by omega), h2, fun z => absurd z h, h3⟩
theorem mem_tp {k c : Nat} {l : List Nat} (h : c ∈ tp k l) : c ∈ l := List.mem_of_mem_drop h
theorem mem_ct {k c : Nat} {l : List Nat} (h : c ∈ ct k l) : c ∈ l := List.mem_of_mem_take h
theorem tjoin_ok {room many : Nat} {t u : Tr} (a : TrOk room many t) (b : TrOk room many u) : TrOk room many (tjoin t u) := by
  have := a.gk
  have := a.kl
  have := b.gk
  have := b.kl
  unfold tjoin
  refine tidy_ok (fun h => ?_) ?_ fun c hc => ?_
  · omega
  · rw [List.length_append, len_tp]
    omega
  · rcases List.mem_append.mp hc with h | h
    · exact a.s c (mem_ct (mem_tp h))
    · exact b.s c h
theorem tunt_ok {room many : Nat} : TrOk room many (tunt room) := ⟨by simp [tunt], by simp [tunt], fun _ => rfl, fun c h => by simp [tunt] at h⟩
theorem tstep_ok {room many c : Nat} (hr : 1 ≤ room) (hc : c = 45 ∨ c ∈ signs many) : TrOk room many (tstep room c) := by
  unfold tstep
  by_cases h : c = 45
  · rw [if_pos h]
    exact tidy_ok (fun _ => by omega) (by simp) fun c h => by simp at h
  · rw [if_neg h]
    refine ⟨by simp, by simp; omega, fun _ => rfl, fun d hd => ?_⟩
    have e : d = c := by simpa using hd
    subst e
    exact hc.resolve_left h
theorem ttold_ok {room many : Nat} (hr : 1 ≤ room) : ∀ (s : List Nat) (t : Tr), TrOk room many t → (∀ c ∈ s, c = 45 ∨ c ∈ signs many) → TrOk room many (s.foldl (fun t c => tjoin t (tstep room c)) t)
  | [], _, h, _ => h
  | c :: r, t, h, hs => ttold_ok hr r _ (tjoin_ok h (tstep_ok hr (hs c (List.mem_cons_self ..)))) fun d hd => hs d (List.mem_cons_of_mem _ hd)
theorem tby_step {room c : Nat} {x : List Nat} (hr : 1 ≤ room) (hx : x.length ≤ room) : tby (tstep room c) x = step room x c := by
  unfold tstep step
  by_cases h : c = 45
  · rw [if_pos h, if_pos h, tby_tidy]
    simp only [tby, List.append_nil]
    exact tp_all (by rw [len_ct]; omega)
  · rw [if_neg h, if_neg h, tp_app]
    simp only [tby, ct_zero, List.length_singleton]
    congr 1
    exact (tp_all (by simpa using hr)).symm
theorem step_len {room c : Nat} {x : List Nat} (hx : x.length ≤ room) : (step room x c).length ≤ room := by
  unfold step
  by_cases h : c = 45
  · rw [if_pos h, len_ct]
    omega
  · rw [if_neg h, len_tp]
    omega
theorem gone_len {room : Nat} : ∀ (s x : List Nat), x.length ≤ room → (gone room x s).length ≤ room
  | [], _, h => h
  | c :: r, x, h => gone_len r (step room x c) (step_len h)
theorem tby_fold {room : Nat} (hr : 1 ≤ room) : ∀ (s : List Nat) (t : Tr) (x y : List Nat), (tby t x).length ≤ room → tby (s.foldl (fun t c => tjoin t (tstep room c)) t) x = gone room (tby t x) s
  | [], _, _, _, _ => rfl
  | c :: r, t, x, y, h => by
    have e := tby_fold hr r (tjoin t (tstep room c)) x y (by rw [tby_join, tby_step hr h]; exact step_len h)
    rw [tby_join, tby_step hr h] at e
    exact e
theorem tby_unt {room : Nat} {x : List Nat} (hx : x.length ≤ room) : tby (tunt room) x = x := by
  simp only [tby, tunt, ct_zero, List.append_nil]
  exact tp_all hx
theorem tby_told {room : Nat} (hr : 1 ≤ room) (s : List Nat) {x : List Nat} (hx : x.length ≤ room) : tby (ttold room s) x = gone room x s := by
  have e := tby_fold hr s (tunt room) x [] (by rw [tby_unt hx]; exact hx)
  rw [tby_unt hx] at e
  exact e
end SK
namespace SK
open PySem PySem.Spec PyProof.Rows L2
/-! ### tuples whose object is known to have no dict -/
/-- a tuple, its object plain -/
def TupF (H : Hp) (a : Addr) (xs : List V) : Prop := ∃ ob : Obj, ob.dict = none ∧ H a = some (.frz ob (.tup xs))
theorem TupF.sq {K : PySem.W.Frag} {H : Hp} {a : Addr} {xs : List V} (h : TupF H a xs) : SqT K H a xs := by
  obtain ⟨ob, _, e⟩ := h
  exact .inl (.inr ⟨ob, e⟩)
section
variable {X : Cx} {es : List Expr} {t : TA} {pos cpos apos : Pos}
def tTupF (t : TA) : TE := fun σ H Q => t σ H fun xs H1 => xs.length ≤ sizeLine ∧ ∀ (p : Addr) (ob : Obj), ob.dict = none → H1 p = none → Q (.ref p) (upd H1 p (.frz ob (.tup xs)))
theorem tupF_ok {P : Program} {w : World} {H : Hp} {h : Heap} {us : List Value} {xs : List V} (r : Vals xs us) (z : xs.length ≤ sizeLine) : ObjOk P w H (h.push { cls := .type "tuple", data := .seq us.toArray }) h.objs.size (.frz { cls := .type "tuple", data := .seq us.toArray } (.tup xs)) :=
  ⟨Heap.get?_push_size _ rfl, z, us, r, ⟨_, Heap.get?_push_size _ rfl, rfl, _, rfl⟩⟩
theorem pe_tupF {x1} (h : PA X es t) : PE X (.Tuple es x1 pos) (tTupF t) := by
  refine ⟨fun pins s σ H Q I hq => ?_⟩
  refine wpAny_Tuple_spliced (thn (h.run pos pins s σ H _ I hq) fun us s1 ⟨xs, H1, I1, r, z, q⟩ => ⟨by rw [← r.length]; exact z, ?_⟩)
  have hf : H1 s1.heap.objs.size = none := I1.hok.fresh (Nat.le_refl _)
  exact ⟨.ref s1.heap.objs.size, upd H1 s1.heap.objs.size (.frz { cls := .type "tuple", data := .seq us.toArray } (.tup xs)), I1.laid (t' := s1.toks) (fun b u e => Heap.get?_push_of_some _ e) (Nat.le_refl _) (tupF_ok r z), rfl, q _ _ rfl hf⟩
theorem call_tupleF : CallR X (.type "tuple") (fun xs H Q => ∃ p ys, xs = [.ref p] ∧ SqL X.K H p ys ∧ ∀ (l : Addr) (ob : Obj), ob.dict = none → H l = none → Q (.ref l) (upd H l (.frz ob (.tup ys)))) := by
  intro pins s σ H xs us Q I r h
  obtain ⟨p, ys, rfl, hq, q⟩ := h
  obtain ⟨u, rfl, rx⟩ := vals1 r
  cases rx
  obtain ⟨its, r', pl, hz⟩ := I.list hq
  have hlen := r'.length
  refine call_tuple_list pl.isList (fun h' kp => ?_) (by simp only [List.size_toArray] <;> omega)
  have I1 : Inv X pins σ H { s with heap := h' } := I.kept (t' := s.toks) kp
  have I2 : Inv X pins σ (upd H h'.objs.size (.frz { cls := .type "tuple", data := .seq its.toArray } (.tup ys))) { s with heap := h'.push { cls := .type "tuple", data := .seq its.toArray } } :=
    I1.laid (t' := s.toks) (fun b o e => Heap.get?_push_of_some _ e) (Nat.le_refl _) (tupF_ok r' hz)
  exact ⟨.ref h'.objs.size, _, I2, rfl, q _ _ rfl (I1.hok.fresh (Nat.le_refl _))⟩
/-- t + u, t not empty -/
def rCatF (K : PySem.W.Frag) : R2 := fun x y H Q => ∃ a b xs ys, x = .ref a ∧ y = .ref b ∧ SqT K H a xs ∧ SqT K H b ys ∧ xs ≠ [] ∧ xs.length + ys.length ≤ sizeLine ∧
  (ys = [] → Q (.ref a) H) ∧ (ys ≠ [] → ∀ (p : Addr) (ob : Obj), ob.dict = none → H p = none → Q (.ref p) (upd H p (.frz ob (.tup (xs ++ ys)))))
theorem op_catF : OpR X (binaryOp .Add) (rCatF X.K) := by
  intro pins s σ H x y v u Q I rx ry h
  obtain ⟨a, b, xs, ys, rfl, rfl, ha, hb, hx, hz, q1, q2⟩ := h
  cases rx
  cases ry
  obtain ⟨its, r1, p1, _⟩ := I.tuple ha
  obtain ⟨its2, r2, p2, _⟩ := I.tuple hb
  refine HT.cat_tup p1 p2 (fun z => hx (r1.nil_iff.mp z)) (fun z => ⟨.ref a, H, I, rfl, q1 (r2.nil_iff.mp z)⟩) (fun z => ?_) (by rw [← r1.length, ← r2.length]; exact hz)
  exact ⟨.ref s.heap.objs.size, _, I.laid (t' := s.toks) (fun b ob q => Heap.get?_push_of_some _ q) (Nat.le_refl _) (tupF_ok (r1.append r2) (by rw [List.length_append]; exact hz)), rfl, q2 (fun w => z (r2.nil_iff.mpr w)) _ _ rfl (I.hok.fresh (Nat.le_refl _))⟩
/-- a method of such a tuple -/
def tBMT (r : V → List V → Hp → VK → Prop) (to : TE) (t : TA) : TE := fun σ H Q => to σ H fun x H1 => (∃ a xs, x = .ref a ∧ TupF H1 a xs) ∧ t σ H1 fun vs H2 => r x vs H2 Q
theorem pe_bmT {name : Str} {id : String} {o e : Expr} {to : TE} {r : V → List V → Hp → VK → Prop} (pa : PlainAttrs "tuple") (slot : Slot "tuple" name id) (hty : typeOf (.builtin id) = pure (.type "method_descriptor")) (hm : MtR X id r) (ho : PE X o to) (ha : PA X (e :: es) t)
    (hbase : attributeBase o name X.env (eval o X.env) = eval o X.env := by rfl)
    (hfew : ((backTo cpos (starEach (e :: es) X.env)).all (fun x => !x.1) && (backToKw cpos (keywordEach [] X.env)).all (fun x => x.1.isSome)
      && decide ((e :: es).length + ([] : List Keyword).length + (if ([] : List Keyword).isEmpty then 0 else 1) < 30)) = true := by rfl)
    (hline : (apos.endLine == cpos.line) = true := by rfl) (hs : starEach (e :: es) X.env = (false, eval e X.env) :: starEach es X.env := by rfl) (hplain : (backTo cpos (starEach es X.env)).any (·.1) = false := by rfl) :
    PE X (.Call (.Attribute o name apos) (e :: es) [] cpos) (tBMT r to t) := by
  refine ⟨fun pins s σ H Q I h => ?_⟩
  refine wpAny_Call_method_late hbase hfew hline rfl (thn (ho.run pins s σ H _ I h) fun v s1 ⟨x, H1, I1, r1, ty, q1⟩ => ?_)
  obtain ⟨a, xs, rfl, ob, hd, hH⟩ := ty
  cases r1
  obtain ⟨hob, hz, its, rv, hit⟩ := I1.hok a _ hH
  obtain ⟨o', ho', hc, _⟩ := hit
  rw [hob] at ho'
  cases ho'
  refine ⟨"tuple", id, pa, slot, hty, ⟨ob, hob, hc⟩, fun b e => ?_, ?_⟩
  · cases e
    exact ⟨ob, hob, hd⟩
  have hA := ha.run cpos pins s1 σ H1 _ I1 q1
  rw [hs] at hA ⊢
  refine Calls.callWith_builtin (by show (false || (backTo cpos (starEach es X.env)).any (·.1)) = false; rw [hplain] <;> rfl) (Calls.evalArgs_plain ?_)
  exact thn hA fun us s2 ⟨vs, H2, I2, r2, q2⟩ => hm pins s2 σ H2 (.ref a) vs (.ref a) us Q I2 rfl r2 q2
end
end SK
namespace SK
open PySem PySem.Spec PyProof.Rows L2
/-! ### a def of the module, by its name -/
structure Dn (K : PySem.W.Frag) (mg : Str → Option Value) (x : Str) (st : Stmt) (ps : List Str) : Prop where
  ex : ∃ (f : Addr) (fd : FuncData), L2.Fun K x x st f fd ∧ mg x = some (.ref f) ∧ Binds K fd ps []
abbrev Cal := @C8.Cal
section
variable {P : Program} {w : World} {K : PySem.W.Frag} {mg : Str → Option Value} {base : Heap}
theorem Dn.cal {x : Str} {st : Stmt} {N ps : List Str} {k : Nat} {sp : Sp} (D : Dn K mg x st ps) (S : FnScope N ps (defScope st)) (len : ∀ vs H Q E, sp vs H Q E → vs.length = ps.length)
    (hbody : ∀ (f : Addr) (cdv : Value) (A : Around) (outer : List Env) (s : Shared) (H : Hp) (vs : List V) (Q : VK) (E : XK), Room k (A.deeper (envOfC x (defScope st) s.heap.objs.size f cdv)) → sp vs H Q E →
      ∃ t, PSs (cxOf CX0 P w K mg base N x (defScope st) f cdv A outer s H E).nox (defBody st) t ∧ t { nx := fun _ H' => Q .non H', rt := Q } (start N vs) H) : C8.Cal P w K mg base (k + 1) x sp [] := by
  obtain ⟨f, fd, F, hm, b⟩ := D.ex
  exact ⟨f, fd, ps, [], F.ok S len (fun cdv A outer s H vs Q E => hbody f cdv A outer s H vs Q E), hm, F.kp, b, .nil⟩
theorem dn_mk {x : Str} {st : Stmt} {ps : List Str} {h : Heap} {f : Addr} {oc : Value} {od an : Option Addr} {osl : Array (Option Value)} {kV doc pm cd ct : Value} (X : K.In h) (G : h.Ns mainGlobals mg)
    (a : PySem.W.nsIn K mainGlobals x = some (some (.ref f))) (l : K.lookup f = some ⟨oc, od, .func (PySem.W.fnOf x x (defArgs st) (defBody st) (defScope st) .none kV doc pm an cd ct), osl⟩)
    (c : PySem.W.codeIn K cd x = true) (k : PySem.W.keepIn K (.ref f) = true)
    (hb : ∀ (kV doc pm : Value) (an : Option Addr) (cdv ct : Value) (us : List Value), us.length = ps.length → bindArgs (PySem.W.fnOf x x (defArgs st) (defBody st) (defScope st) .none kV doc pm an cdv ct) ⟨us, []⟩ = pure (ps.zip us)) : Dn K mg x st ps := by
  have F := fun_mk (st := st) l c k
  exact ⟨f, _, F, PySem.W.mg_of X G a, F.binds hb⟩
end
/-! ### heaps -/
theorem Same.new {H : Hp} {p : Addr} (h : H p = none) (o : HO) : Same H (upd H p o) := fun b u q => by rw [upd_ne (ne_of_none q h)]; exact q
theorem sz {n : Nat} (h : n ≤ 100000) : n ≤ sizeLine := Nat.le_trans h (by decide)
theorem szl {n : Nat} (h : n < 100000) : n < sizeLine := Nat.lt_of_lt_of_le h (by decide)
/-! ### texts -/
def tx (l : List Nat) : Str := ⟨l.toArray⟩
theorem tx_len (l : List Nat) : (tx l).length = l.length := by
  show l.toArray.size = _
  rw [List.size_toArray]
theorem tx_list (l : List Nat) : (tx l).cps.toList = l := rfl
theorem tx_app (a b : List Nat) : tx a ++ tx b = tx (a ++ b) := by
  show Str.append _ _ = _
  unfold Str.append tx
  simp
theorem cut_tx (l : List Nat) (lo hi : Option Int) : cutS (tx l) lo hi = tx ((l.drop (HT.sIx l.length 0 lo)).take (HT.sIx l.length l.length hi - HT.sIx l.length 0 lo)) := by
  unfold cutS
  rw [tx_len, tx_list]
  rfl
theorem cut_to {l : List Nat} {n : Nat} (h : n ≤ l.length) : cutS (tx l) none (some (n : Int)) = tx (l.take n) := by
  rw [cut_tx, HT.sIx_none, HT.sIx_nat, List.drop_zero, Nat.sub_zero, Nat.min_eq_left h]
theorem cut_from {l : List Nat} {n : Nat} (h : n ≤ l.length) : cutS (tx l) (some (n : Int)) none = tx (l.drop n) := by
  rw [cut_tx, HT.sIx_none, HT.sIx_nat, Nat.min_eq_left h, List.take_of_length_le (by rw [List.length_drop]; exact Nat.le_refl _)]
theorem cut_back {l : List Nat} {n : Nat} (h : 0 < n) : cutS (tx l) (some (-(n : Int))) none = tx (l.drop (l.length - n)) := by
  have e : HT.sIx l.length 0 (some (-(n : Int))) = l.length - n := by
    show (if (-(n : Int)) < 0 then (-(n : Int) + (l.length : Int)).toNat else _) = _
    rw [if_pos (by omega)]
    omega
  rw [cut_tx, HT.sIx_none, e, List.take_of_length_le (by rw [List.length_drop]; exact Nat.le_refl _)]
theorem cut_but {l : List Nat} {n : Nat} (h : 0 < n) : cutS (tx l) none (some (-(n : Int))) = tx (l.take (l.length - n)) := by
  have e : HT.sIx l.length l.length (some (-(n : Int))) = l.length - n := by
    show (if (-(n : Int)) < 0 then (-(n : Int) + (l.length : Int)).toNat else _) = _
    rw [if_pos (by omega)]
    omega
  rw [cut_tx, HT.sIx_none, e, List.drop_zero, Nat.sub_zero]
theorem str_inj {a b : List Nat} : tx a = tx b ↔ a = b := by
  constructor
  · intro h
    have := congrArg (fun z : Str => z.cps.toList) h
    simpa [tx] using this
  · intro h
    rw [h]
/-! ### plans and triples as they stand in the heap -/
structure Pl where
  room : Nat
  many : Nat
  pr : List Int
  pop : Int
structure Pl.Ok (p : Pl) : Prop where
  r1 : 1 ≤ p.room
  r9 : p.room ≤ 9
  m1 : 1 ≤ p.many
  m4 : p.many ≤ 4
  pl : p.pr.length = p.many
  pr : ∀ x ∈ p.pr, 1 ≤ x ∧ x ≤ 99
  q1 : 1 ≤ p.pop
  q9 : p.pop ≤ 99
/-- the prices as they stand -/
def PrAt (H : Hp) (b : Addr) (p : Pl) : Prop := TupF H b (p.pr.map V.int)
theorem PrAt.mono {H H' : Hp} {b : Addr} {p : Pl} (h : PrAt H b p) (s : Same H H') : PrAt H' b p := by
  obtain ⟨ob, h1, h2⟩ := h
  exact ⟨ob, h1, s _ _ h2⟩
theorem PrAt.ty {K : PySem.W.Frag} {H : Hp} {b : Addr} {p : Pl} (h : PrAt H b p) : TyX K H (.ref b) (.type "tuple") := by
  obtain ⟨ob, h1, h2⟩ := h
  exact .fTuple h2
def PlanAt (H : Hp) (v : V) (p : Pl) : Prop := ∃ a b, v = .ref a ∧ H a = some (.tup [.int p.room, .int p.many, .ref b, .int p.pop]) ∧ PrAt H b p
def TripAt (H : Hp) (v : V) (t : Tr) : Prop := ∃ a, v = .ref a ∧ H a = some (.tup [.int t.g, .int t.k, .str (tx t.l)])
theorem PlanAt.mono {H H' : Hp} {v : V} {p : Pl} (h : PlanAt H v p) (e : Same H H') : PlanAt H' v p := by
  obtain ⟨a, b, h1, h2, h3⟩ := h
  exact ⟨a, b, h1, e _ _ h2, h3.mono e⟩
theorem TripAt.mono {H H' : Hp} {v : V} {t : Tr} (h : TripAt H v t) (e : Same H H') : TripAt H' v t := by
  obtain ⟨a, h1, h2⟩ := h
  exact ⟨a, h1, e _ _ h2⟩
theorem signs_len (n : Nat) : (signs n).length ≤ 4 := by
  unfold signs
  rw [List.length_take]
  exact Nat.min_le_right ..
/-! ### kinds of values -/
theorem ty_int {K : PySem.W.Frag} {H : Hp} {i : Int} : TyX K H (.int i) (.type "int") := .base (.int i)
theorem ty_str {K : PySem.W.Frag} {H : Hp} {i : Str} : TyX K H (.str i) (.type "str") := .base (.str i)
theorem ty_tup {K : PySem.W.Frag} {H : Hp} {a : Addr} {xs : List V} (h : H a = some (.tup xs)) : TyX K H (.ref a) (.type "tuple") := .base (.tup h)
theorem ty_lst {K : PySem.W.Frag} {H : Hp} {a : Addr} {xs : List V} (h : H a = some (.lst xs)) : TyX K H (.ref a) (.type "list") := .base (.lst h)
theorem ty_non {K : PySem.W.Frag} {H : Hp} : TyX K H .non (.type "NoneType") := .base .non
theorem ty_bl {K : PySem.W.Frag} {H : Hp} {b : Bool} : TyX K H (.bl b) (.type "bool") := .base (.bl b)
theorem k_int_int : kitB "int" "int" = some true := by decide +kernel
theorem k_int_bool : kitB "int" "bool" = some false := by decide +kernel
theorem k_int_tup : kitB "int" "tuple" = some false := by decide +kernel
theorem k_int_lst : kitB "int" "list" = some false := by decide +kernel
theorem k_str_str : kitB "str" "str" = some true := by decide +kernel
theorem k_str_bool : kitB "str" "bool" = some false := by decide +kernel
theorem k_str_int : kitB "str" "int" = some false := by decide +kernel
theorem k_tup_tup : kitB "tuple" "tuple" = some true := by decide +kernel
theorem k_tup_int : kitB "tuple" "int" = some false := by decide +kernel
theorem k_tup_bool : kitB "tuple" "bool" = some false := by decide +kernel
theorem k_tup_str : kitB "tuple" "str" = some false := by decide +kernel
theorem k_tup_lst : kitB "tuple" "list" = some false := by decide +kernel
theorem k_lst_lst : kitB "list" "list" = some true := by decide +kernel
theorem k_lst_tup : kitB "list" "tuple" = some false := by decide +kernel
theorem k_lst_int : kitB "list" "int" = some false := by decide +kernel
theorem k_lst_bool : kitB "list" "bool" = some false := by decide +kernel
theorem k_lst_str : kitB "list" "str" = some false := by decide +kernel
theorem k_bool_bool : kitB "bool" "bool" = some true := by decide +kernel
theorem k_bool_int : kitB "bool" "int" = some true := by decide +kernel
theorem b_isi : bootBuiltins "isinstance" = some (.builtin "isinstance") := by decide +kernel
theorem b_all : bootBuiltins "all" = some (.builtin "all") := by decide +kernel
theorem b_max : bootBuiltins "max" = some (.builtin "max") := by decide +kernel
theorem b_min : bootBuiltins "min" = some (.builtin "min") := by decide +kernel
theorem b_bool : bootBuiltins "bool" = some (.type "bool") := by decide +kernel
theorem b_int : bootBuiltins "int" = some (.type "int") := by decide +kernel
theorem b_str : bootBuiltins "str" = some (.type "str") := by decide +kernel
theorem b_tuple : bootBuiltins "tuple" = some (.type "tuple") := by decide +kernel
theorem b_list : bootBuiltins "list" = some (.type "list") := by decide +kernel
theorem s_empty : ("" : Str) = tx [] := by decide +kernel
theorem s_minus : ("-" : Str) = tx [45] := by decide +kernel
theorem s_abcd : ("abcd" : Str) = tx [97, 98, 99, 100] := by decide +kernel
/-! ### promises of the program's defs -/
/-- hands back this value, all that stood stands -/
def giv (v : V) (H : Hp) (Q : VK) : Prop := ∀ H', Same H H' → Q v H'
def spSigns : Sp := fun vs H Q _ => ∃ v p, vs = [v] ∧ PlanAt H v p ∧ p.Ok ∧ giv (.str (tx (signs p.many))) H Q
def spNum : Sp := fun vs H Q _ => ∃ i lo hi : Int, vs = [.int i, .int lo, .int hi] ∧ giv (.bl (decide (lo ≤ i ∧ i ≤ hi))) H Q
def spTextOf : Sp := fun vs H Q _ => ∃ l sg : List Nat, vs = [.str (tx l), .str (tx sg)] ∧ l.length ≤ 10000 ∧ giv (.bl (decide (∀ c ∈ l, c ∈ sg))) H Q
def spChPlan : Sp := fun vs H Q _ => ∃ v p, vs = [v] ∧ PlanAt H v p ∧ p.Ok ∧ giv .non H Q
def spPrices : Sp := fun vs H Q _ => ∃ b p, vs = [.ref b, .int (p : Pl).many] ∧ PrAt H b p ∧ p.Ok ∧ giv (.bl true) H Q
def spChStack : Sp := fun vs H Q _ => ∃ v p l, vs = [v, .str (tx l)] ∧ PlanAt H v p ∧ p.Ok ∧ l.length ≤ p.room ∧ (∀ c ∈ l, c ∈ signs p.many) ∧ giv .non H Q
def spIsStack : Sp := fun vs H Q _ => ∃ v p l, vs = [v, .str (tx l)] ∧ PlanAt H v p ∧ p.Ok ∧ l.length ≤ p.room ∧ (∀ c ∈ l, c ∈ signs p.many) ∧ giv (.bl true) H Q
def spChSteps : Sp := fun vs H Q _ => ∃ v p l, vs = [v, .str (tx l)] ∧ PlanAt H v p ∧ p.Ok ∧ l.length ≤ 10000 ∧ (∀ c ∈ l, c = 45 ∨ c ∈ signs p.many) ∧ giv .non H Q
def spChTriple : Sp := fun vs H Q _ => ∃ v p u t, vs = [v, u] ∧ PlanAt H v p ∧ p.Ok ∧ TripAt H u t ∧ TrOk p.room p.many t ∧ giv .non H Q
def spIsTriple : Sp := fun vs H Q _ => ∃ v p u t, vs = [v, u] ∧ PlanAt H v p ∧ p.Ok ∧ TripAt H u t ∧ TrOk p.room p.many t ∧ giv (.bl true) H Q
/-- a new triple -/
def givT (t : Tr) (H : Hp) (Q : VK) : Prop := ∀ H' v, Same H H' → TripAt H' v t → Q v H'
def spWithout : Sp := fun vs H Q _ => ∃ (l : List Nat) (n : Nat), vs = [.str (tx l), .int n] ∧ l.length ≤ 10000 ∧ giv (.str (tx (ct n l))) H Q
def spTop : Sp := fun vs H Q _ => ∃ (l : List Nat) (n : Nat), vs = [.str (tx l), .int n] ∧ l.length ≤ 10000 ∧ giv (.str (tx (tp n l))) H Q
def spBehind : Sp := fun vs H Q _ => ∃ u t l, vs = [u, .str (tx l)] ∧ TripAt H u t ∧ l.length ≤ 1000 ∧ (t : Tr).l.length ≤ 1000 ∧ giv (.str (tx (tby t l))) H Q
def spTidied : Sp := fun vs H Q _ => ∃ (g k : Nat) (l : List Nat), vs = [.int g, .int k, .str (tx l)] ∧ givT (tidy g k l) H Q
def spJoin : Sp := fun vs H Q _ => ∃ a b t u, vs = [a, b] ∧ TripAt H a t ∧ TripAt H b u ∧ (t : Tr).l.length ≤ 1000 ∧ (u : Tr).l.length ≤ 1000 ∧ givT (tjoin t u) H Q
def spUnt : Sp := fun vs H Q _ => ∃ v p, vs = [v] ∧ PlanAt H v p ∧ givT (tunt p.room) H Q
def spTStep : Sp := fun vs H Q _ => ∃ v p c, vs = [v, .str (tx [c])] ∧ PlanAt H v p ∧ p.Ok ∧ givT (tstep p.room c) H Q
def spTSteps : Sp := fun vs H Q _ => ∃ v p l, vs = [v, .str (tx l)] ∧ PlanAt H v p ∧ p.Ok ∧ (∀ c ∈ l, c = 45 ∨ c ∈ signs p.many) ∧ givT (ttold p.room l) H Q
def spToldSteps : Sp := fun vs H Q _ => ∃ v p l, vs = [v, .str (tx l)] ∧ PlanAt H v p ∧ p.Ok ∧ l.length ≤ 10000 ∧ (∀ c ∈ l, c = 45 ∨ c ∈ signs p.many) ∧ givT (ttold p.room l) H Q
def spDone : Sp := fun vs H Q _ => ∃ v p u t l, vs = [v, u, .str (tx l)] ∧ PlanAt H v p ∧ p.Ok ∧ TripAt H u t ∧ TrOk p.room p.many t ∧ l.length ≤ p.room ∧ (∀ c ∈ l, c ∈ signs p.many) ∧ giv (.str (tx (tby t l))) H Q
end SK
namespace SK
open PySem PySem.Spec PyProof.Rows L2
/-! ### the box of draws -/
structure BoxAt (H : Hp) (p q : Addr) (ns : List Int) (z : Int) : Prop where
  b : H p = some (.lst [.ref q, .int z])
  l : H q = some (.lst (ns.map V.int))
  ne : p ≠ q
/-- all but the box stands -/
def Keep (p q : Addr) (H H' : Hp) : Prop := ∀ b o, H b = some o → b ≠ p → b ≠ q → H' b = some o
theorem Keep.refl (p q : Addr) (H : Hp) : Keep p q H H := fun _ _ h _ _ => h
theorem Keep.trans {p q : Addr} {H H1 H2 : Hp} (a : Keep p q H H1) (b : Keep p q H1 H2) : Keep p q H H2 := fun c o h h1 h2 => b c o (a c o h h1 h2) h1 h2
theorem Keep.of {p q : Addr} {H H' : Hp} (s : Same H H') : Keep p q H H' := fun b o h _ _ => s b o h
theorem BoxAt.mono {H H' : Hp} {p q : Addr} {ns : List Int} {z : Int} (h : BoxAt H p q ns z) (s : Same H H') : BoxAt H' p q ns z := ⟨s _ _ h.b, s _ _ h.l, h.ne⟩
theorem BoxAt.no {H : Hp} {p q : Addr} {ns : List Int} {z : Int} (h : BoxAt H p q ns z) {b : Addr} {o : HO} (e : H b = some o) (ho : ∀ xs, o ≠ .lst xs) : b ≠ p ∧ b ≠ q :=
  ⟨ne_of e h.b (ho _), ne_of e h.l (ho _)⟩
theorem Keep.tup {p q : Addr} {H H' : Hp} {ns : List Int} {z : Int} (k : Keep p q H H') (h : BoxAt H p q ns z) {a : Addr} {xs : List V} (e : H a = some (.tup xs)) : H' a = some (.tup xs) :=
  k a _ e (h.no e fun _ => by intro z; cases z).1 (h.no e fun _ => by intro z; cases z).2
theorem PlanAt.keep {p q : Addr} {H H' : Hp} {ns : List Int} {z : Int} {v : V} {pl : Pl} (h : PlanAt H v pl) (b : BoxAt H p q ns z) (k : Keep p q H H') : PlanAt H' v pl := by
  obtain ⟨a, c, e, h1, h2⟩ := h
  obtain ⟨ob, h3, h4⟩ := h2
  exact ⟨a, c, e, k.tup b h1, ob, h3, k _ _ h4 (b.no h4 fun _ => by intro z; cases z).1 (b.no h4 fun _ => by intro z; cases z).2⟩
theorem TripAt.keep {p q : Addr} {H H' : Hp} {ns : List Int} {z : Int} {v : V} {t : Tr} (h : TripAt H v t) (b : BoxAt H p q ns z) (k : Keep p q H H') : TripAt H' v t := by
  obtain ⟨a, e, h1⟩ := h
  exact ⟨a, e, k.tup b h1⟩
/-- a list made later than the box -/
theorem BoxAt.fresh {H : Hp} {p q D : Addr} {ns : List Int} {z : Int} (h : BoxAt H p q ns z) (e : H D = none) : D ≠ p ∧ D ≠ q := by
  constructor
  · intro x
    subst x
    rw [h.b] at e
    cases e
  · intro x
    subst x
    rw [h.l] at e
    cases e
/-- a draw -/
def spTake : Sp := fun vs H Q _ => ∃ (p q : Addr) (ns : List Int) (z n : Int), vs = [.ref p, .int n] ∧ BoxAt H p q ns z ∧ 0 < n ∧ n < 2 ^ 9000 ∧
  ∀ (r : Int) (ns' : List Int) (z' : Int) (H' : Hp), 0 ≤ r → r < n → BoxAt H' p q ns' z' → Keep p q H H' → Q (.int r) H'
theorem shp : ∀ ns : List Int, SeqAt.shaped (.list (ns.map PyData.int)) = true := by
  have h1 : ∀ ns : List Int, PyData.canLayAll0 (ns.map PyData.int) = true := fun ns => by
    induction ns with
    | nil => rfl
    | cons n r ih =>
      show (PyData.canLay0 (.int n) && PyData.canLayAll0 (r.map PyData.int)) = true
      rw [ih]
      rfl
  have h2 : ∀ ns : List Int, PyData.depthAll (ns.map PyData.int) = 0 := fun ns => by
    induction ns with
    | nil => rfl
    | cons n r ih =>
      show max (PyData.depth (.int n)) (PyData.depthAll (r.map PyData.int)) = 0
      rw [ih]
      rfl
  intro ns
  show (PyData.canLayAll0 (ns.map PyData.int) && decide (PyData.depthAll (ns.map PyData.int) + 1 ≤ 64)) = true
  rw [h1, h2]
  rfl
theorem dpAll {K : PySem.W.Frag} {H : Hp} : ∀ ns : List Int, DpAll K H (ns.map V.int) (ns.map PyData.int)
  | [] => .nil
  | n :: r => .cons (.int n) (dpAll r)
theorem fmod_in {x n : Int} (h : 0 < n) : 0 ≤ x.fmod n ∧ x.fmod n < n := by
  rw [Int.fmod_eq_emod_of_nonneg _ (by omega)]
  exact ⟨Int.emod_nonneg _ (by omega), Int.emod_lt_of_pos _ h⟩
theorem divW {i j : Int} (h : 0 < j) (h2 : j < 2 ^ 9000) : CDivW i j := wide_div (b := 9000) h (by
  have e : ((j.natAbs : Nat) : Int) = j := Int.natAbs_of_nonneg (by omega)
  have e2 : ((j.natAbs : Nat) : Int) < ((2 ^ 9000 : Nat) : Int) := by
    rw [e]
    exact_mod_cast h2
  exact Int.ofNat_lt.mp e2) (by decide) (by decide)
theorem p9 {n : Int} (h : n ≤ 2000000000000000000) : n < 2 ^ 9000 := Int.lt_of_le_of_lt h (by decide +kernel)
theorem at0 {x : V} {r : List V} : atI (x :: r) 0 = some x := atI_nat (j := 0) rfl
theorem ix0 {x : V} {r : List V} : ixN (x :: r).length 0 = some 0 := by
  unfold ixN
  simp
theorem sq0 {x : V} {r : List V} : seqIndex? 0 (x :: r).length = some 0 := by
  unfold seqIndex?
  simp
/-! ### what is alike -/
def Sc : V → Prop
  | .non => True
  | .bl _ => True
  | .int _ => True
  | .str _ => True
  | _ => False
def Alk (H : Hp) : Nat → V → V → Prop
  | 0, _, _ => False
  | n + 1, v, w => (v = w ∧ Sc v) ∨ ∃ (a b : Addr) (xs ys : List V), v = .ref a ∧ w = .ref b ∧ ((H a = some (.tup xs) ∧ H b = some (.tup ys)) ∨ (H a = some (.lst xs) ∧ H b = some (.lst ys))) ∧ xs.length = ys.length ∧ ys.length ≤ 10000 ∧
      ∀ (i : Nat) (x y : V), xs[i]? = some x → ys[i]? = some y → Alk H n x y
theorem Alk.mono {H H' : Hp} (s : Same H H') : ∀ {n : Nat} {v w : V}, Alk H n v w → Alk H' n v w
  | 0, _, _, h => h
  | n + 1, v, w, h => by
    rcases h with h | ⟨a, b, xs, ys, h1, h2, h3, h4, h5, h6⟩
    · exact .inl h
    · refine .inr ⟨a, b, xs, ys, h1, h2, ?_, h4, h5, fun i x y e1 e2 => Alk.mono s (h6 i x y e1 e2)⟩
      rcases h3 with ⟨u1, u2⟩ | ⟨u1, u2⟩
      · exact .inl ⟨s _ _ u1, s _ _ u2⟩
      · exact .inr ⟨s _ _ u1, s _ _ u2⟩
def spAlike (n : Nat) : Sp := fun vs H Q _ => ∃ v w, vs = [v, w] ∧ Alk H n v w ∧ giv (.bl true) H Q
theorem alk_trip {H : Hp} {n : Nat} {v w : V} {t : Tr} (hv : TripAt H v t) (hw : TripAt H w t) : Alk H (n + 2) v w := by
  obtain ⟨a, rfl, ha⟩ := hv
  obtain ⟨b, rfl, hb⟩ := hw
  refine .inr ⟨a, b, _, _, rfl, rfl, .inl ⟨ha, hb⟩, rfl, by show 3 ≤ 10000; decide, fun i x y e1 e2 => ?_⟩
  have e : x = y := Option.some.inj (e1.symm.trans e2)
  subst e
  refine .inl ⟨rfl, ?_⟩
  match i, e1 with
  | 0, e1 => cases e1; trivial
  | 1, e1 => cases e1; trivial
  | 2, e1 => cases e1; trivial
/-! ### the law's own promises -/
def spLStep : Sp := fun vs H Q _ => ∃ v p l c, vs = [v, .str (tx l), .str (tx [c])] ∧ PlanAt H v p ∧ p.Ok ∧ l.length ≤ 1000 ∧ giv (.str (tx (step p.room l c))) H Q
def spLGone : Sp := fun vs H Q _ => ∃ v p l s, vs = [v, .str (tx l), .str (tx s)] ∧ PlanAt H v p ∧ p.Ok ∧ l.length ≤ p.room ∧ giv (.str (tx (gone p.room l s))) H Q
def spLPlan : Sp := fun vs H Q _ => ∃ (p q : Addr) (ns : List Int) (z : Int) (r s : Nat), vs = [.ref p, .int r, .int s] ∧ BoxAt H p q ns z ∧ 1 ≤ r ∧ r ≤ 9 ∧ 1 ≤ s ∧ s ≤ 4 ∧
  ∀ (pl : Pl) (v : V) (ns' : List Int) (z' : Int) (H' : Hp), pl.Ok → pl.room ≤ r → pl.many ≤ s → PlanAt H' v pl → BoxAt H' p q ns' z' → Keep p q H H' → Q v H'
def spLSteps : Sp := fun vs H Q _ => ∃ (p q : Addr) (ns : List Int) (z : Int) (v : V) (pl : Pl) (n : Nat), vs = [.ref p, v, .int n] ∧ BoxAt H p q ns z ∧ PlanAt H v pl ∧ pl.Ok ∧ n ≤ 1000 ∧
  ∀ (l : List Nat) (ns' : List Int) (z' : Int) (H' : Hp), l.length ≤ n → (∀ c ∈ l, c = 45 ∨ c ∈ signs pl.many) → BoxAt H' p q ns' z' → Keep p q H H' → Q (.str (tx l)) H'
def spLSigns : Sp := fun vs H Q _ => ∃ (p q : Addr) (ns : List Int) (z : Int) (v : V) (pl : Pl) (n : Nat), vs = [.ref p, v, .int n] ∧ BoxAt H p q ns z ∧ PlanAt H v pl ∧ pl.Ok ∧ n ≤ 1000 ∧
  ∀ (l : List Nat) (ns' : List Int) (z' : Int) (H' : Hp), l.length ≤ n → (∀ c ∈ l, c ∈ signs pl.many) → BoxAt H' p q ns' z' → Keep p q H H' → Q (.str (tx l)) H'
def spLTriple : Sp := fun vs H Q _ => ∃ (p q : Addr) (ns : List Int) (z : Int) (v : V) (pl : Pl), vs = [.ref p, v] ∧ BoxAt H p q ns z ∧ PlanAt H v pl ∧ pl.Ok ∧
  ∀ (t : Tr) (u : V) (ns' : List Int) (z' : Int) (H' : Hp), TrOk pl.room pl.many t → TripAt H' u t → BoxAt H' p q ns' z' → Keep p q H H' → Q u H'
def spLBy : Sp := fun vs H Q _ => ∃ u t l, vs = [u, .str (tx l)] ∧ TripAt H u t ∧ l.length ≤ 1000 ∧ (t : Tr).l.length ≤ 1000 ∧ giv (.str (tx (tby t l))) H Q
def spLBegun (K : PySem.W.Frag) : Sp := fun vs H Q _ => ∃ (a : Addr) (ns : List Int), vs = [.ref a] ∧ SqL K H a (ns.map V.int) ∧ ns.length ≤ 63 ∧
  ∀ (p q : Addr) (z : Int) (H' : Hp), Same H H' → BoxAt H' p q ns z → H p = none → H q = none → Q (.ref p) H'
/-- all texts of so many signs, in turn; all stacks -/
def lay (many : Nat) : Nat → List (List Nat)
  | 0 => [[]]
  | n + 1 => (lay many n).flatMap fun l => (signs many).map fun c => l ++ [c]
def stk (many : Nat) : Nat → List (List Nat)
  | 0 => [[]]
  | n + 1 => stk many n ++ lay many (n + 1)
def spLStacks : Sp := fun vs H Q _ => ∃ v p, vs = [v] ∧ PlanAt H v p ∧ p.Ok ∧ ∀ (D : Addr) (H' : Hp), Same H H' → H D = none → H' D = some (.lst ((stk p.many p.room).map fun l => V.str (tx l))) → Q (.ref D) H'
def spLaw (K : PySem.W.Frag) : Sp := fun vs H Q _ => ∃ (a : Addr) (ns : List Int), vs = [.ref a] ∧ SqL K H a (ns.map V.int) ∧ ns.length ≤ 63 ∧ ∀ H', Q (.bl true) H'
theorem lay_len (many : Nat) : ∀ n, (lay many n).length = (signs many).length ^ n
  | 0 => rfl
  | n + 1 => by
    have h : ∀ xs : List (List Nat), (xs.flatMap fun l => (signs many).map fun c => l ++ [c]).length = xs.length * (signs many).length := fun xs => by
      induction xs with
      | nil => simp
      | cons x r ih =>
        rw [List.flatMap_cons, List.length_append, ih, List.length_map, List.length_cons, Nat.succ_mul, Nat.add_comm]
    show ((lay many n).flatMap _).length = _
    rw [h, lay_len many n, Nat.pow_succ]
theorem lay_le (many : Nat) {n : Nat} (h : n ≤ 9) : (lay many n).length ≤ 262144 := by
  rw [lay_len]
  have h1 := signs_len many
  calc (signs many).length ^ n ≤ 4 ^ n := Nat.pow_le_pow_left h1 n
    _ ≤ 4 ^ 9 := Nat.pow_le_pow_right (by decide) h
    _ = 262144 := by decide
theorem stk_le (many : Nat) : ∀ {n : Nat}, n ≤ 9 → (stk many n).length ≤ (n + 1) * 262144
  | 0, _ => by show 1 ≤ _; omega
  | n + 1, h => by
    have h1 := stk_le many (n := n) (by omega)
    have h2 := lay_le many h
    show (stk many n ++ lay many (n + 1)).length ≤ _
    rw [List.length_append]
    omega
theorem lay_mem {many : Nat} : ∀ {n : Nat} {l : List Nat}, l ∈ lay many n → l.length = n ∧ ∀ c ∈ l, c ∈ signs many
  | 0, l, h => by
    have e : l = [] := by simpa [lay] using h
    subst e
    exact ⟨rfl, fun c hc => by simp at hc⟩
  | n + 1, l, h => by
    obtain ⟨k, hk, h2⟩ := List.mem_flatMap.mp (show l ∈ (lay many n).flatMap _ from h)
    obtain ⟨c, hc, rfl⟩ := List.mem_map.mp h2
    obtain ⟨h3, h4⟩ := lay_mem hk
    refine ⟨by simp [h3], fun d hd => ?_⟩
    rcases List.mem_append.mp hd with h5 | h5
    · exact h4 d h5
    · have : d = c := by simpa using h5
      subst this
      exact hc
theorem stk_mem {many : Nat} : ∀ {n : Nat} {l : List Nat}, l ∈ stk many n → l.length ≤ n ∧ ∀ c ∈ l, c ∈ signs many
  | 0, l, h => by
    have := lay_mem (many := many) (n := 0) h
    exact ⟨Nat.le_of_eq this.1, this.2⟩
  | n + 1, l, h => by
    rcases List.mem_append.mp (show l ∈ stk many n ++ lay many (n + 1) from h) with h1 | h1
    · have := stk_mem h1
      exact ⟨by omega, this.2⟩
    · have := lay_mem h1
      exact ⟨Nat.le_of_eq this.1, this.2⟩
end SK
/-! works, their triples, their steps; the mathematics -/
namespace SK
/-! ### triples are told apart by what they do -/
theorem len_tby (t : Tr) (x : List Nat) : (tby t x).length = min t.k (x.length - t.g) + t.l.length := by
  simp only [tby]
  rw [List.length_append, len_tp, len_ct]
theorem tr_ext {room many : Nat} {t u : Tr} (a : TrOk room many t) (b : TrOk room many u) {c : Nat} (h : ∀ s, s ≤ room → tby t (List.replicate s c) = tby u (List.replicate s c)) : t = u := by
  have h0 := h 0 (Nat.zero_le _)
  have hl : t.l = u.l := by
    simp only [tby, List.replicate_zero, ct, tp, List.length_nil, List.take_nil, List.drop_nil, List.nil_append] at h0
    exact h0
  have hn : ∀ s, s ≤ room → min t.k (s - t.g) = min u.k (s - u.g) := fun s hs => by
    have e := congrArg List.length (h s hs)
    rw [len_tby, len_tby, List.length_replicate, hl] at e
    omega
  have := a.gk
  have := b.gk
  have ht := a.z
  have hu := b.z
  have hk : t.k = u.k := by
    have e := hn room (Nat.le_refl _)
    omega
  have hg : t.g = u.g := by
    by_cases h1 : t.k = 0
    · have := ht h1
      have := hu (by omega)
      omega
    · have e1 := hn (t.g + 1) (by omega)
      have e2 := hn (u.g + 1) (by omega)
      omega
  cases t
  cases u
  simp only at hl hk hg
  subst hl hk hg
  rfl
theorem tjoin_assoc {room many : Nat} {t u v : Tr} (a : TrOk room many t) (b : TrOk room many u) (c : TrOk room many v) : tjoin (tjoin t u) v = tjoin t (tjoin u v) :=
  tr_ext (c := 97) (tjoin_ok (tjoin_ok a b) c) (tjoin_ok a (tjoin_ok b c)) fun s _ => by rw [tby_join, tby_join, tby_join, tby_join]
theorem tby_len {room many : Nat} {t : Tr} (a : TrOk room many t) (x : List Nat) : (tby t x).length ≤ room := by
  rw [len_tby]
  have := a.kl
  omega
theorem tunt_left {room many : Nat} {t : Tr} (a : TrOk room many t) : tjoin (tunt room) t = t :=
  tr_ext (c := 97) (tjoin_ok tunt_ok a) a fun s hs => by rw [tby_join, tby_unt (by rw [List.length_replicate]; exact hs)]
theorem tunt_right {room many : Nat} {t : Tr} (a : TrOk room many t) : tjoin t (tunt room) = t :=
  tr_ext (c := 97) (tjoin_ok a tunt_ok) a fun s hs => by rw [tby_join, tby_unt (tby_len a _)]
/-- done so often -/
def tpw (room : Nat) (t : Tr) : Nat → Tr
  | 0 => tunt room
  | n + 1 => tjoin (tpw room t n) t
theorem tpw_ok {room many : Nat} {t : Tr} (a : TrOk room many t) : ∀ n, TrOk room many (tpw room t n)
  | 0 => tunt_ok
  | n + 1 => tjoin_ok (tpw_ok a n) a
theorem tpw_add {room many : Nat} {t : Tr} (a : TrOk room many t) (m : Nat) : ∀ n, tpw room t (m + n) = tjoin (tpw room t m) (tpw room t n)
  | 0 => (tunt_right (tpw_ok a m)).symm
  | n + 1 => by
    show tjoin (tpw room t (m + n)) t = tjoin (tpw room t m) (tjoin (tpw room t n) t)
    rw [tpw_add a m n, tjoin_assoc (tpw_ok a m) (tpw_ok a n) a]
theorem tpw_one {room many : Nat} {t : Tr} (a : TrOk room many t) : tpw room t 1 = t := tunt_left a
theorem tpw_two {room many : Nat} {t : Tr} (a : TrOk room many t) : ∀ n, tpw room (tjoin t t) n = tpw room t (2 * n)
  | 0 => rfl
  | n + 1 => by
    have e : 2 * (n + 1) = 2 * n + 2 := by omega
    have e2 : tpw room t 2 = tjoin t t := by
      show tjoin (tpw room t 1) t = _
      rw [tpw_one a]
    rw [e, tpw_add a, e2]
    show tjoin (tpw room (tjoin t t) n) (tjoin t t) = _
    rw [tpw_two a n]
/-- one turn of the doubling -/
theorem tpw_odd {room many : Nat} {t u : Tr} {n : Nat} (a : TrOk room many t) (b : TrOk room many u) (h : n % 2 = 1) : tjoin u (tpw room t n) = tjoin (tjoin u t) (tpw room (tjoin t t) (n / 2)) := by
  have e : n = 1 + 2 * (n / 2) := by omega
  rw [tpw_two a, tjoin_assoc b a (tpw_ok a _)]
  congr 1
  have e3 : tpw room t n = tpw room t (1 + 2 * (n / 2)) := by rw [← e]
  rw [e3, tpw_add a, tpw_one a]
theorem tpw_even {room many : Nat} {t u : Tr} {n : Nat} (a : TrOk room many t) (h : n % 2 = 0) : tjoin u (tpw room t n) = tjoin u (tpw room (tjoin t t) (n / 2)) := by
  rw [tpw_two a]
  have e : n = 2 * (n / 2) := by omega
  have e3 : tpw room t n = tpw room t (2 * (n / 2)) := by rw [← e]
  rw [e3]
/-! ### steps one behind another -/
theorem ttold_from {room many : Nat} {u : Tr} (hr : 1 ≤ room) (b : TrOk room many u) : ∀ (s : List Nat), (∀ c ∈ s, c = 45 ∨ c ∈ signs many) → ∀ t, TrOk room many t → s.foldl (fun t c => tjoin t (tstep room c)) (tjoin u t) = tjoin u (s.foldl (fun t c => tjoin t (tstep room c)) t)
  | [], _, _, _ => rfl
  | c :: r, hs, t, a => by
    have hc := tstep_ok (room := room) (many := many) hr (hs c (List.mem_cons_self ..))
    have ih := ttold_from hr b r (fun d hd => hs d (List.mem_cons_of_mem _ hd)) (tjoin t (tstep room c)) (tjoin_ok a hc)
    show r.foldl _ (tjoin (tjoin u t) (tstep room c)) = tjoin u (r.foldl _ (tjoin t (tstep room c)))
    rw [tjoin_assoc b a hc, ih]
theorem ttold_ok' {room many : Nat} (hr : 1 ≤ room) {s : List Nat} (hs : ∀ c ∈ s, c = 45 ∨ c ∈ signs many) : TrOk room many (ttold room s) := ttold_ok hr s _ tunt_ok hs
theorem ttold_app {room many : Nat} (hr : 1 ≤ room) {a b : List Nat} (ha : ∀ c ∈ a, c = 45 ∨ c ∈ signs many) (hb : ∀ c ∈ b, c = 45 ∨ c ∈ signs many) : ttold room (a ++ b) = tjoin (ttold room a) (ttold room b) := by
  have e : ttold room (a ++ b) = b.foldl (fun t c => tjoin t (tstep room c)) (ttold room a) := by
    unfold ttold
    rw [List.foldl_append]
  have h := ttold_from hr (ttold_ok' hr ha) b hb (tunt room) tunt_ok
  rw [tunt_right (ttold_ok' hr ha)] at h
  rw [e, h]
  rfl
theorem ttold_one {room many c : Nat} (hr : 1 ≤ room) (hc : c = 45 ∨ c ∈ signs many) : ttold room [c] = tstep room c := by
  show tjoin (tunt room) (tstep room c) = _
  exact tunt_left (tstep_ok (many := many) hr hc)
/-! ### works -/
mutual
inductive W where
  | push (c : Nat)
  | pop
  | row (ws : Ws)
  | times (n : Nat) (w : W)
inductive Ws where
  | nil
  | cons (w : W) (r : Ws)
end
mutual
def W.siz : W → Nat
  | .push _ => 1
  | .pop => 1
  | .row ws => 1 + ws.siz
  | .times _ w => 1 + w.siz
def Ws.siz : Ws → Nat
  | .nil => 0
  | .cons w r => w.siz + r.siz
end
mutual
def W.dep : W → Nat
  | .push _ => 1
  | .pop => 1
  | .row ws => 1 + ws.dep
  | .times _ w => 1 + w.dep
def Ws.dep : Ws → Nat
  | .nil => 0
  | .cons w r => max w.dep r.dep
end
mutual
def W.lng : W → List Nat
  | .push c => [c]
  | .pop => [45]
  | .row ws => ws.lng
  | .times n w => (List.replicate n w.lng).flatten
def Ws.lng : Ws → List Nat
  | .nil => []
  | .cons w r => w.lng ++ r.lng
end
mutual
/-- how many steps -/
def W.cnt : W → Nat
  | .push _ => 1
  | .pop => 1
  | .row ws => ws.cnt
  | .times n w => n * w.cnt
def Ws.cnt : Ws → Nat
  | .nil => 0
  | .cons w r => w.cnt + r.cnt
end
mutual
def W.prc (f : Nat → Int) : W → Int
  | .push c => f c
  | .pop => f 45
  | .row ws => ws.prc f
  | .times n w => (n : Int) * w.prc f
def Ws.prc (f : Nat → Int) : Ws → Int
  | .nil => 0
  | .cons w r => w.prc f + r.prc f
end
mutual
def W.tri (room : Nat) : W → Tr
  | .push c => tstep room c
  | .pop => tstep room 45
  | .row ws => ws.tri room (tunt room)
  | .times n w => tpw room (w.tri room) n
def Ws.tri (room : Nat) : Ws → Tr → Tr
  | .nil, t => t
  | .cons w r, t => r.tri room (tjoin t (w.tri room))
end
def Ws.len : Ws → Nat
  | .nil => 0
  | .cons _ r => r.len + 1
mutual
/-- can be: signs of the plan, counts to 10 ** 18 -/
def W.Can (many : Nat) : W → Prop
  | .push c => c ∈ signs many
  | .pop => True
  | .row ws => ws.len ≤ 1000 ∧ ws.Can many
  | .times n w => n ≤ 1000000000000000000 ∧ w.Can many
def Ws.Can (many : Nat) : Ws → Prop
  | .nil => True
  | .cons w r => w.Can many ∧ r.Can many
end
mutual
/-- few in a row, nothing done more often than so -/
def W.Tm (t : Nat) : W → Prop
  | .push _ => True
  | .pop => True
  | .row ws => ws.len ≤ 3 ∧ ws.Tm t
  | .times n w => n ≤ t ∧ w.Tm t
def Ws.Tm (t : Nat) : Ws → Prop
  | .nil => True
  | .cons w r => w.Tm t ∧ r.Tm t
end
mutual
theorem W.cnt_le : ∀ w : W, w.Tm 4 → w.cnt ≤ 4 ^ w.dep
  | .push _, _ => by show 1 ≤ 4 ^ 1; decide
  | .pop, _ => by show 1 ≤ 4 ^ 1; decide
  | .row ws, h => by
    have e := Ws.cnt_le ws h.2
    have e2 : ws.len * 4 ^ ws.dep ≤ 3 * 4 ^ ws.dep := Nat.mul_le_mul_right _ h.1
    show ws.cnt ≤ 4 ^ (1 + ws.dep)
    rw [Nat.pow_add]
    omega
  | .times n w, h => by
    have e := W.cnt_le w h.2
    show n * w.cnt ≤ 4 ^ (1 + w.dep)
    rw [Nat.pow_add]
    exact Nat.mul_le_mul h.1 e
theorem Ws.cnt_le : ∀ ws : Ws, ws.Tm 4 → ws.cnt ≤ ws.len * 4 ^ ws.dep
  | .nil, _ => Nat.zero_le _
  | .cons w r, h => by
    have e1 := W.cnt_le w h.1
    have e2 := Ws.cnt_le r h.2
    show w.cnt + r.cnt ≤ (r.len + 1) * 4 ^ (max w.dep r.dep)
    have p1 : 4 ^ w.dep ≤ 4 ^ (max w.dep r.dep) := Nat.pow_le_pow_right (by decide) (Nat.le_max_left ..)
    have p2 : r.len * 4 ^ r.dep ≤ r.len * 4 ^ (max w.dep r.dep) := Nat.mul_le_mul_left _ (Nat.pow_le_pow_right (by decide) (Nat.le_max_right ..))
    rw [Nat.succ_mul]
    omega
end
mutual
theorem W.siz_pos : ∀ w : W, 1 ≤ w.siz
  | .push _ => Nat.le_refl _
  | .pop => Nat.le_refl _
  | .row ws => by show 1 ≤ 1 + ws.siz; omega
  | .times _ w => by show 1 ≤ 1 + w.siz; omega
end
mutual
theorem W.dep_pos : ∀ w : W, 1 ≤ w.dep
  | .push _ => Nat.le_refl _
  | .pop => Nat.le_refl _
  | .row ws => by show 1 ≤ 1 + ws.dep; omega
  | .times _ w => by show 1 ≤ 1 + w.dep; omega
end
mutual
theorem W.tri_ok {room many : Nat} (hr : 1 ≤ room) : ∀ w : W, w.Can many → TrOk room many (w.tri room)
  | .push c, h => tstep_ok hr (.inr h)
  | .pop, _ => tstep_ok hr (.inl rfl)
  | .row ws, h => Ws.tri_ok hr ws _ h.2 tunt_ok
  | .times n w, h => tpw_ok (W.tri_ok hr w h.2) n
theorem Ws.tri_ok {room many : Nat} (hr : 1 ≤ room) : ∀ (ws : Ws) (t : Tr), ws.Can many → TrOk room many t → TrOk room many (ws.tri room t)
  | .nil, _, _, a => a
  | .cons w r, t, h, a => Ws.tri_ok hr r _ h.2 (tjoin_ok a (W.tri_ok hr w h.1))
end
mutual
theorem W.lng_in {many : Nat} : ∀ w : W, w.Can many → ∀ c ∈ w.lng, c = 45 ∨ c ∈ signs many
  | .push c, h, d, hd => by
    have e : d = c := by simpa [W.lng] using hd
    subst e
    exact .inr h
  | .pop, _, d, hd => .inl (by simpa [W.lng] using hd)
  | .row ws, h, d, hd => Ws.lng_in ws h.2 d hd
  | .times n w, h, d, hd => by
    obtain ⟨l, hl, hd⟩ := List.mem_flatten.mp (show d ∈ (List.replicate n w.lng).flatten from hd)
    have e := List.eq_of_mem_replicate hl
    subst e
    exact W.lng_in w h.2 d hd
theorem Ws.lng_in {many : Nat} : ∀ ws : Ws, ws.Can many → ∀ c ∈ ws.lng, c = 45 ∨ c ∈ signs many
  | .nil, _, d, hd => by simp [Ws.lng] at hd
  | .cons w r, h, d, hd => by
    rcases List.mem_append.mp (show d ∈ w.lng ++ r.lng from hd) with h1 | h1
    · exact W.lng_in w h.1 d h1
    · exact Ws.lng_in r h.2 d h1
end
mutual
theorem W.tri_lng {room many : Nat} (hr : 1 ≤ room) : ∀ w : W, w.Can many → w.tri room = ttold room w.lng
  | .push c, h => (ttold_one (many := many) hr (.inr h)).symm
  | .pop, _ => (ttold_one (many := many) hr (.inl rfl)).symm
  | .row ws, h => by
    have e := Ws.tri_lng (many := many) hr ws (tunt room) h.2 tunt_ok
    rw [tunt_left (ttold_ok' hr (Ws.lng_in ws h.2))] at e
    exact e
  | .times n w, h => by
    have e := W.tri_lng hr w h.2
    have hin := W.lng_in w h.2
    have hok := W.tri_ok (room := room) hr w h.2
    show tpw room (w.tri room) n = ttold room (List.replicate n w.lng).flatten
    have k : ∀ n, tpw room (w.tri room) n = ttold room (List.replicate n w.lng).flatten ∧ ∀ c ∈ (List.replicate n w.lng).flatten, c = 45 ∨ c ∈ signs many := fun n => by
      induction n with
      | zero => exact ⟨rfl, fun c hc => by simp at hc⟩
      | succ n ih =>
        have e2 : (List.replicate (n + 1) w.lng).flatten = (List.replicate n w.lng).flatten ++ w.lng := by
          rw [List.replicate_succ', List.flatten_append]
          simp
        have h2 : ∀ c ∈ (List.replicate (n + 1) w.lng).flatten, c = 45 ∨ c ∈ signs many := fun c hc => by
          rw [e2] at hc
          rcases List.mem_append.mp hc with h3 | h3
          · exact ih.2 c h3
          · exact hin c h3
        refine ⟨?_, h2⟩
        show tjoin (tpw room (w.tri room) n) (w.tri room) = _
        rw [e2, ttold_app (many := many) hr ih.2 hin, ih.1, ← e]
    exact (k n).1
theorem Ws.tri_lng {room many : Nat} (hr : 1 ≤ room) : ∀ (ws : Ws) (t : Tr), ws.Can many → TrOk room many t → ws.tri room t = tjoin t (ttold room ws.lng)
  | .nil, t, _, a => (tunt_right a).symm
  | .cons w r, t, h, a => by
    have e1 := W.tri_lng (many := many) hr w h.1
    have o1 := W.tri_ok (room := room) hr w h.1
    have e2 := Ws.tri_lng hr r (tjoin t (w.tri room)) h.2 (tjoin_ok a o1)
    show r.tri room (tjoin t (w.tri room)) = tjoin t (ttold room (w.lng ++ r.lng))
    rw [e2, ttold_app (many := many) hr (W.lng_in w h.1) (Ws.lng_in r h.2), ← e1, tjoin_assoc a o1 (ttold_ok' hr (Ws.lng_in r h.2))]
end
mutual
theorem W.cnt_lng : ∀ w : W, w.cnt = w.lng.length
  | .push _ => rfl
  | .pop => rfl
  | .row ws => Ws.cnt_lng ws
  | .times n w => by
    have e := W.cnt_lng w
    show n * w.cnt = (List.replicate n w.lng).flatten.length
    rw [List.length_flatten, List.map_replicate, List.sum_replicate_nat, e]
theorem Ws.cnt_lng : ∀ ws : Ws, ws.cnt = ws.lng.length
  | .nil => rfl
  | .cons w r => by
    have e1 := W.cnt_lng w
    have e2 := Ws.cnt_lng r
    show w.cnt + r.cnt = (w.lng ++ r.lng).length
    rw [List.length_append, e1, e2]
end
/-- what steps cost -/
def sprc (f : Nat → Int) (l : List Nat) : Int := (l.map f).sum
theorem sprc_app (f : Nat → Int) (a b : List Nat) : sprc f (a ++ b) = sprc f a + sprc f b := by
  unfold sprc
  rw [List.map_append, List.sum_append]
mutual
theorem W.prc_lng (f : Nat → Int) : ∀ w : W, w.prc f = sprc f w.lng
  | .push c => by simp [W.prc, W.lng, sprc]
  | .pop => by simp [W.prc, W.lng, sprc]
  | .row ws => Ws.prc_lng f ws
  | .times n w => by
    have e := W.prc_lng f w
    show (n : Int) * w.prc f = sprc f (List.replicate n w.lng).flatten
    have k : ∀ n : Nat, (n : Int) * w.prc f = sprc f (List.replicate n w.lng).flatten := fun n => by
      induction n with
      | zero => simp [sprc]
      | succ n ih =>
        rw [List.replicate_succ, List.flatten_cons, sprc_app, ← ih, ← e, Int.natCast_succ, Int.add_mul, Int.one_mul, Int.add_comm]
    exact k n
theorem Ws.prc_lng (f : Nat → Int) : ∀ ws : Ws, ws.prc f = sprc f ws.lng
  | .nil => rfl
  | .cons w r => by
    have e1 := W.prc_lng f w
    have e2 := Ws.prc_lng f r
    show w.prc f + r.prc f = sprc f (w.lng ++ r.lng)
    rw [sprc_app, e1, e2]
end
end SK
namespace SK
open PySem PySem.Spec PyProof.Rows L2
/-! ### two rules: list(text), text * int -/
theorem call_listS {X : Cx} (hc : X.calm = true) : CallR X (.type "list") (fun xs H Q => ∃ z : Str, xs = [.str z] ∧ z.length ≤ sizeLine ∧ ∀ l, H l = none → Q (.ref l) (upd H l (.lst (z.cps.toList.map fun c => V.str ⟨#[c]⟩)))) := by
  intro pins s σ H xs us Q I r h
  obtain ⟨z, rfl, hz, q⟩ := h
  obtain ⟨u, rfl, rx⟩ := vals1 r
  obtain ⟨t, rfl⟩ := rx
  have hn : z.cps.size ≤ sizeLine := hz
  refine PySem.call_list_str (I.ok.hd hc) z t (fun h' tk acc' c' kp e hi => ?_) hn
  have hlen : z.cps.toList.length = z.cps.size := Array.length_toList
  have rv : Vals (z.cps.toList.map fun c => V.str ⟨#[c]⟩) acc'.toList := by
    obtain ⟨h1, h2⟩ := hi
    have hx : ∀ (cs : List Nat) (as : List Value), as.length = cs.length → (∀ (j : Nat) (v : Value), as[j]? = some v → ∃ c u, cs[j]? = some c ∧ v = .str ⟨#[c]⟩ u) → Vals (cs.map fun c => V.str ⟨#[c]⟩) as := by
      intro cs
      induction cs with
      | nil =>
        intro as hl _
        have e : as = [] := List.length_eq_zero_iff.mp hl
        subst e
        exact .nil
      | cons c r ih =>
        intro as hl ha
        cases as with
        | nil => cases hl
        | cons v vs =>
          obtain ⟨c', u, e1, e2⟩ := ha 0 v rfl
          cases e1
          subst e2
          exact .cons ⟨u, rfl⟩ (ih vs (Nat.succ.inj hl) fun j v hj => ha (j + 1) v hj)
    refine hx _ _ ?_ fun j v hj => ?_
    · rw [Array.length_toList, h1, hlen]
    · rw [Array.getElem?_toList] at hj
      obtain ⟨c, u, e1, e2⟩ := h2 j v hj
      exact ⟨c, u, by rw [Array.getElem?_toList]; exact e1, e2⟩
  exact ⟨.ref s.heap.objs.size, _, I.laid (t' := tk) kp (Nat.le_refl _) (show ObjOk X.prog X.w _ h' _ (.lst _) from ⟨by rw [List.length_map, hlen]; exact hn, acc'.toList, c', rv, by simpa using e⟩), rfl, q _ (I.hok.fresh (Nat.le_refl _))⟩
theorem mulOk {z : Str} {n : Nat} (h : z.length * n ≤ 16777216) (hn : n ≤ 1000000000000000000) : MulOk z (n : Int) := by
  have hp : (2 : Int) ^ 63 = 9223372036854775808 := by decide
  refine ⟨?_, fun h1 h2 => ?_, fun h1 h2 => ?_⟩
  · rw [hp]
    rw [Bool.or_eq_false_iff]
    exact ⟨decide_eq_false (by omega), decide_eq_false (by omega)⟩
  · rw [hp]
    have h' : (z.length : Int) * (n : Int) ≤ 16777216 := by
      have h0 := Int.ofNat_le.mpr h
      rw [Int.natCast_mul] at h0
      exact h0
    have h3 : (z.length : Int) ≤ (9223372036854775808 - 1 : Int) / (n : Int) := Int.le_ediv_of_mul_le (by omega) (by omega)
    omega
  · rw [Int.toNat_natCast]
    unfold Builtin.Str.tooLong
    have h4 : z.length * n ≤ sizeLine := h
    simp only [gt_iff_lt, decide_eq_false_iff_not]
    omega
theorem foldl_reps (l : List Nat) : ∀ (n : Nat) (acc : Array Nat), (List.replicate n l.toArray).foldl (· ++ ·) acc = acc ++ ((List.replicate n l).flatten).toArray
  | 0, acc => by simp
  | n + 1, acc => by
    rw [List.replicate_succ, List.foldl_cons, foldl_reps l n, List.replicate_succ, List.flatten_cons]
    simp
theorem mul_tx (l : List Nat) (n : Nat) : Txt.mul (tx l) (n : Int) = tx (List.replicate n l).flatten := by
  unfold Txt.mul
  by_cases h : (n : Int) < 1
  · have e : n = 0 := by omega
    subst e
    rw [if_pos h]
    rfl
  · rw [if_neg h]
    by_cases h2 : ((n : Int) == 1 || (tx l).length == 0) = true
    · rw [if_pos h2]
      rw [Bool.or_eq_true] at h2
      rcases h2 with h2 | h2
      · have e : n = 1 := by
          have := eq_of_beq h2
          omega
        subst e
        simp
      · have e : l = [] := by
          have := eq_of_beq h2
          rw [tx_len] at this
          exact List.length_eq_zero_iff.mp this
        subst e
        simp
    · rw [if_neg h2]
      have e := foldl_reps l n #[]
      show (⟨(List.replicate (n : Int).toNat l.toArray).foldl (· ++ ·) #[]⟩ : Str) = _
      rw [Int.toNat_natCast, e]
      simp [tx]
/-- text * int -/
def rMulS : R2 := fun x y H Q => ∃ (l : List Nat) (n : Nat), x = .str (tx l) ∧ y = .int n ∧ l.length * n ≤ 16777216 ∧ n ≤ 1000000000000000000 ∧ Q (.str (tx (List.replicate n l).flatten)) H
theorem op_mulS {X : Cx} : OpR X (binaryOp .Mult) rMulS := by
  intro pins s σ H x y v u Q I rx ry h
  obtain ⟨l, n, rfl, rfl, hz, hn, q⟩ := h
  obtain ⟨t, rfl⟩ := rx
  obtain ⟨t', rfl⟩ := ry
  refine SB.mul (mulOk (by rw [tx_len]; exact hz) hn) fun t'' k => ?_
  rw [mul_tx]
  exact ⟨.str (tx (List.replicate n l).flatten), H, I.tok _, ⟨_, rfl⟩, q⟩
theorem join_tx (ls : List (List Nat)) : Txt.join (tx []) (ls.map tx) = tx ls.flatten := by
  have h : ∀ (r : List (List Nat)) (acc : Array Nat), (r.map tx).foldl (fun (acc : Array Nat) (p : Str) => acc ++ (tx []).cps ++ p.cps) acc = acc ++ r.flatten.toArray := by
    intro r
    induction r with
    | nil =>
      intro acc
      simp
    | cons x r ih =>
      intro acc
      rw [List.map_cons, List.foldl_cons, ih, List.flatten_cons]
      simp [tx]
  show Builtin.Str.glued (tx []) (ls.map tx) = _
  unfold Builtin.Str.glued
  cases ls with
  | nil => rfl
  | cons x r =>
    have e := h r x.toArray
    show (⟨(r.map tx).foldl (fun (acc : Array Nat) (p : Str) => acc ++ (tx []).cps ++ p.cps) x.toArray⟩ : Str) = _
    rw [e]
    simp [tx]
theorem b_sum : bootBuiltins "sum" = some (.builtin "sum") := by decide +kernel
/-! ### tuples stand -/
structure Tups (H H' : Hp) : Prop where
  t : ∀ (b : Addr) (xs : List V), H b = some (.tup xs) → H' b = some (.tup xs)
  f : ∀ (b : Addr) (o : Obj) (xs : List V), H b = some (.frz o (.tup xs)) → H' b = some (.frz o (.tup xs))
instance {H H' : Hp} : CoeFun (Tups H H') (fun _ => ∀ (b : Addr) (xs : List V), H b = some (.tup xs) → H' b = some (.tup xs)) := ⟨Tups.t⟩
theorem Tups.refl (H : Hp) : Tups H H := ⟨fun _ _ h => h, fun _ _ _ h => h⟩
theorem Tups.of {H H' : Hp} (s : Same H H') : Tups H H' := ⟨fun b xs h => s b _ h, fun b o xs h => s b _ h⟩
theorem Tups.trans {H H1 H2 : Hp} (a : Tups H H1) (b : Tups H1 H2) : Tups H H2 := ⟨fun c xs h => b.t c xs (a.t c xs h), fun c o xs h => b.f c o xs (a.f c o xs h)⟩
theorem Keep.tups {p q : Addr} {H H' : Hp} {ns : List Int} {z : Int} (k : Keep p q H H') (B : BoxAt H p q ns z) : Tups H H' := ⟨fun _ _ h => k.tup B h, fun b o xs h => k _ _ h (B.no h fun _ => by intro z; cases z).1 (B.no h fun _ => by intro z; cases z).2⟩
theorem Tups.lst {H : Hp} {a : Addr} {xs ys : List V} (h : H a = some (.lst xs)) : Tups H (upd H a (.lst ys)) := ⟨fun b zs e => by
  rw [upd_ne (ne_of e h (by intro z; cases z))]
  exact e, fun b o zs e => by
  rw [upd_ne (ne_of e h (by intro z; cases z))]
  exact e⟩
theorem PlanAt.tups {H H' : Hp} {v : V} {p : Pl} (h : PlanAt H v p) (e : Tups H H') : PlanAt H' v p := by
  obtain ⟨a, b, h1, h2, ob, h3, h4⟩ := h
  exact ⟨a, b, h1, e.t _ _ h2, ob, h3, e.f _ _ _ h4⟩
theorem TripAt.tups {H H' : Hp} {v : V} {t : Tr} (h : TripAt H v t) (e : Tups H H') : TripAt H' v t := by
  obtain ⟨a, h1, h2⟩ := h
  exact ⟨a, h1, e _ _ h2⟩
/-! ### works as they stand in the heap -/
mutual
def WAt (H : Hp) : W → V → Prop
  | .push c, v => ∃ a, v = .ref a ∧ H a = some (.tup [.str "push", .str (tx [c])])
  | .pop, v => ∃ a, v = .ref a ∧ H a = some (.tup [.str "pop"])
  | .row ws, v => ∃ a b vs, v = .ref a ∧ H a = some (.tup [.str "row", .ref b]) ∧ H b = some (.tup vs) ∧ WsAt H ws vs
  | .times n w, v => ∃ a u, v = .ref a ∧ H a = some (.tup [.str "times", .int (n : Int), u]) ∧ WAt H w u
def WsAt (H : Hp) : Ws → List V → Prop
  | .nil, vs => vs = []
  | .cons w r, vs => ∃ v s, vs = v :: s ∧ WAt H w v ∧ WsAt H r s
end
mutual
theorem WAt.tups {H H' : Hp} (e : Tups H H') : ∀ {w : W} {v : V}, WAt H w v → WAt H' w v
  | .push c, v, h => by
    obtain ⟨a, h1, h2⟩ := h
    exact ⟨a, h1, e _ _ h2⟩
  | .pop, v, h => by
    obtain ⟨a, h1, h2⟩ := h
    exact ⟨a, h1, e _ _ h2⟩
  | .row ws, v, h => by
    obtain ⟨a, b, vs, h1, h2, h3, h4⟩ := h
    exact ⟨a, b, vs, h1, e _ _ h2, e _ _ h3, WsAt.tups e h4⟩
  | .times n w, v, h => by
    obtain ⟨a, u, h1, h2, h3⟩ := h
    exact ⟨a, u, h1, e _ _ h2, WAt.tups e h3⟩
theorem WsAt.tups {H H' : Hp} (e : Tups H H') : ∀ {ws : Ws} {vs : List V}, WsAt H ws vs → WsAt H' ws vs
  | .nil, vs, h => h
  | .cons w r, vs, h => by
    obtain ⟨v, s, h1, h2, h3⟩ := h
    exact ⟨v, s, h1, WAt.tups e h2, WsAt.tups e h3⟩
end
def Ws.list : Ws → List W
  | .nil => []
  | .cons w r => w :: r.list
theorem Ws.len_list : ∀ ws : Ws, ws.list.length = ws.len
  | .nil => rfl
  | .cons w r => by
    show r.list.length + 1 = r.len + 1
    rw [r.len_list]
theorem WsAt.len {H : Hp} : ∀ {ws : Ws} {vs : List V}, WsAt H ws vs → vs.length = ws.list.length
  | .nil, vs, h => by
    cases h
    rfl
  | .cons w r, vs, h => by
    obtain ⟨v, s, rfl, h2, h3⟩ := h
    show s.length + 1 = r.list.length + 1
    rw [h3.len]
theorem WsAt.get {H : Hp} : ∀ {ws : Ws} {vs : List V}, WsAt H ws vs → ∀ {i : Nat} {x : V}, vs[i]? = some x → ∃ w, ws.list[i]? = some w ∧ WAt H w x
  | .nil, vs, h, i, x, e => by
    cases h
    cases e
  | .cons w r, vs, h, i, x, e => by
    obtain ⟨v, s, rfl, h2, h3⟩ := h
    cases i with
    | zero =>
      cases e
      exact ⟨w, rfl, h2⟩
    | succ i => exact h3.get (i := i) e
theorem Ws.siz_list : ∀ ws : Ws, ws.siz = (ws.list.map W.siz).sum
  | .nil => rfl
  | .cons w r => by
    show w.siz + r.siz = (w.siz :: r.list.map W.siz).sum
    rw [List.sum_cons, r.siz_list]
theorem Ws.cnt_list : ∀ ws : Ws, ws.cnt = (ws.list.map W.cnt).sum
  | .nil => rfl
  | .cons w r => by
    show w.cnt + r.cnt = (w.cnt :: r.list.map W.cnt).sum
    rw [List.sum_cons, r.cnt_list]
theorem Ws.prc_list (f : Nat → Int) : ∀ ws : Ws, ws.prc f = (ws.list.map (W.prc f)).sum
  | .nil => rfl
  | .cons w r => by
    show w.prc f + r.prc f = (w.prc f :: r.list.map (W.prc f)).sum
    rw [List.sum_cons, r.prc_list]
theorem Ws.lng_list : ∀ ws : Ws, ws.lng = (ws.list.map W.lng).flatten
  | .nil => rfl
  | .cons w r => by
    show w.lng ++ r.lng = (w.lng :: r.list.map W.lng).flatten
    rw [List.flatten_cons, r.lng_list]
theorem Ws.tri_list (room : Nat) : ∀ (ws : Ws) (t : Tr), ws.tri room t = ws.list.foldl (fun t w => tjoin t (w.tri room)) t
  | .nil, _ => rfl
  | .cons w r, t => r.tri_list room (tjoin t (w.tri room))
theorem Ws.dep_mem : ∀ {ws : Ws} {w : W}, w ∈ ws.list → w.dep ≤ ws.dep
  | .nil, w, h => by cases h
  | .cons w' r, w, h => by
    show w.dep ≤ max w'.dep r.dep
    rcases List.mem_cons.mp h with h | h
    · subst h
      exact Nat.le_max_left ..
    · exact Nat.le_trans (Ws.dep_mem h) (Nat.le_max_right ..)
theorem Ws.can_mem {many : Nat} : ∀ {ws : Ws} {w : W}, ws.Can many → w ∈ ws.list → w.Can many
  | .nil, w, _, h => by cases h
  | .cons w' r, w, c, h => by
    rcases List.mem_cons.mp h with h | h
    · subst h
      exact c.1
    · exact Ws.can_mem c.2 h
theorem Ws.tm_mem {t : Nat} : ∀ {ws : Ws} {w : W}, ws.Tm t → w ∈ ws.list → w.Tm t
  | .nil, w, _, h => by cases h
  | .cons w' r, w, c, h => by
    rcases List.mem_cons.mp h with h | h
    · subst h
      exact c.1
    · exact Ws.tm_mem c.2 h
theorem Ws.cnt_mem : ∀ {ws : Ws} {w : W}, w ∈ ws.list → w.cnt ≤ ws.cnt
  | .nil, w, h => by cases h
  | .cons w' r, w, h => by
    show w.cnt ≤ w'.cnt + r.cnt
    rcases List.mem_cons.mp h with h | h
    · subst h
      omega
    · have := Ws.cnt_mem h
      omega
theorem s_push : ¬ (("push" : Str) = "pop") := by decide +kernel
theorem s_pu_ro : ¬ (("push" : Str) = "row") := by decide +kernel
theorem s_pu_ti : ¬ (("push" : Str) = "times") := by decide +kernel
theorem s_po_pu : ¬ (("pop" : Str) = "push") := by decide +kernel
theorem s_po_ro : ¬ (("pop" : Str) = "row") := by decide +kernel
theorem s_po_ti : ¬ (("pop" : Str) = "times") := by decide +kernel
theorem s_ro_pu : ¬ (("row" : Str) = "push") := by decide +kernel
theorem s_ro_po : ¬ (("row" : Str) = "pop") := by decide +kernel
theorem s_ro_ti : ¬ (("row" : Str) = "times") := by decide +kernel
theorem s_ti_pu : ¬ (("times" : Str) = "push") := by decide +kernel
theorem s_ti_po : ¬ (("times" : Str) = "pop") := by decide +kernel
theorem s_ti_ro : ¬ (("times" : Str) = "row") := by decide +kernel
theorem vne {a b : Str} (h : ¬ a = b) : ¬ (V.str a = V.str b) := fun z => by
  injection z with z
  exact h z
theorem sign_at {M : Nat} {r : Int} (hm : M ≤ 4) (r0 : 0 ≤ r) (r1 : r < (M : Int)) : ∃ c : Nat, c ∈ signs M ∧ atI (("abcd" : Str).cps.toList) r = some c := by
  obtain ⟨R, rfl⟩ : ∃ R : Nat, r = (R : Int) := ⟨r.toNat, by omega⟩
  have hR : R < M := by omega
  have h3 : R < ([97, 98, 99, 100] : List Nat).length := by show R < 4; omega
  refine ⟨([97, 98, 99, 100] : List Nat)[R], ?_, ?_⟩
  · unfold signs
    exact List.mem_take_iff_getElem.mpr ⟨R, by rw [Nat.lt_min]; exact ⟨hR, h3⟩, rfl⟩
  · exact atI_nat (by rw [s_abcd]; exact List.getElem?_eq_getElem h3)
/-- what a work is made of -/
def W.within : W → Ws
  | .push _ => .nil
  | .pop => .nil
  | .row ws => ws
  | .times _ w => .cons w .nil
structure WOk (many : Nat) (w : W) : Prop where
  can : w.Can many
  siz : w.siz ≤ 60
  dep : w.dep ≤ 8
/-- what a step costs -/
def cst (p : Pl) (c : Nat) : Int := if c = 45 then p.pop else p.pr.getD (c - 97) 0
/-! ### promises -/
def spAlone : Sp := fun vs H Q _ => ∃ (w : W) (v : V) (D : Addr) (many : Nat), vs = [v, .ref D] ∧ WAt H w v ∧ H D = some (.lst ((signs many).map fun c => V.str (tx [c]))) ∧ w.Can many ∧ giv (.bl true) H Q
def spWithin : Sp := fun vs H Q _ => ∃ (w : W) (v : V), vs = [v] ∧ WAt H w v ∧ ∀ (H' : Hp) (u : Addr) (xs : List V), Same H H' → H' u = some (.tup xs) → WsAt H' w.within xs → Q (.ref u) H'
def spChWork : Sp := fun vs H Q _ => ∃ v p u w, vs = [v, u] ∧ PlanAt H v p ∧ p.Ok ∧ WAt H w u ∧ WOk p.many w ∧ giv .non H Q
def spTri (n : Nat) : Sp := fun vs H Q _ => ∃ v p u w, vs = [v, u] ∧ PlanAt H v p ∧ p.Ok ∧ WAt H w u ∧ w.Can p.many ∧ w.dep ≤ n ∧ givT (w.tri p.room) H Q
def spPower : Sp := fun vs H Q _ => ∃ (v : V) (p : Pl) (u : V) (t : Tr) (n : Nat), vs = [v, u, .int n] ∧ PlanAt H v p ∧ p.Ok ∧ TripAt H u t ∧ TrOk p.room p.many t ∧ n ≤ 1000000000000000000 ∧ givT (tpw p.room t n) H Q
def spTold : Sp := fun vs H Q _ => ∃ v p u w, vs = [v, u] ∧ PlanAt H v p ∧ p.Ok ∧ WAt H w u ∧ WOk p.many w ∧ givT (w.tri p.room) H Q
def spRun : Sp := fun vs H Q _ => ∃ v p u w l, vs = [v, u, .str (tx l)] ∧ PlanAt H v p ∧ p.Ok ∧ WAt H w u ∧ WOk p.many w ∧ l.length ≤ p.room ∧ (∀ c ∈ l, c ∈ signs p.many) ∧ giv (.str (tx (tby (w.tri p.room) l))) H Q
def spPStep : Sp := fun vs H Q _ => ∃ v p c, vs = [v, .str (tx [c])] ∧ PlanAt H v p ∧ p.Ok ∧ (c = 45 ∨ c ∈ signs p.many) ∧ giv (.int (cst p c)) H Q
def spPWork (n : Nat) : Sp := fun vs H Q _ => ∃ v p u w, vs = [v, u] ∧ PlanAt H v p ∧ p.Ok ∧ WAt H w u ∧ w.Can p.many ∧ w.dep ≤ n ∧ giv (.int (w.prc (cst p))) H Q
def spCost : Sp := fun vs H Q _ => ∃ v p u w, vs = [v, u] ∧ PlanAt H v p ∧ p.Ok ∧ WAt H w u ∧ WOk p.many w ∧ giv (.int (w.prc (cst p))) H Q
def spLTuples (n : Nat) : Sp := fun vs H Q _ => ∃ u w many, vs = [u] ∧ WAt H w u ∧ (w : W).Can many ∧ w.dep ≤ n ∧ giv (.int ((w : W).siz : Int)) H Q
def spLCount (n : Nat) : Sp := fun vs H Q _ => ∃ u w many, vs = [u] ∧ WAt H w u ∧ (w : W).Can many ∧ w.dep ≤ n ∧ giv (.int ((w : W).cnt : Int)) H Q
def spLLong (n : Nat) : Sp := fun vs H Q _ => ∃ u w many, vs = [u] ∧ WAt H w u ∧ (w : W).Can many ∧ w.dep ≤ n ∧ w.Tm 4 ∧ w.dep ≤ 8 ∧ giv (.str (tx w.lng)) H Q
def spLWork (n : Nat) : Sp := fun vs H Q _ => ∃ (p q : Addr) (ns : List Int) (z : Int) (v : V) (pl : Pl) (m tm : Nat), vs = [.ref p, v, .int (m : Int), .int (tm : Int)] ∧ BoxAt H p q ns z ∧ PlanAt H v pl ∧ pl.Ok ∧ 1 ≤ m ∧ m ≤ n ∧ tm ≤ 1000000000000000000 ∧
  ∀ (w : W) (u : V) (ns' : List Int) (z' : Int) (H' : Hp), w.Can pl.many → w.dep ≤ m → w.Tm tm → WAt H' w u → BoxAt H' p q ns' z' → Keep p q H H' → Q u H'
def spLSome (n : Nat) : Sp := fun vs H Q _ => ∃ (p q : Addr) (ns : List Int) (z : Int) (v : V) (pl : Pl) (m tm lim : Nat), vs = [.ref p, v, .int (m : Int), .int (tm : Int), .int (lim : Int)] ∧ BoxAt H p q ns z ∧ PlanAt H v pl ∧ pl.Ok ∧ 1 ≤ m ∧ m ≤ n ∧ 2 ≤ m ∧ 2 ≤ tm ∧ tm ≤ 1000000000000000000 ∧ 2 ≤ lim ∧
  ∀ (w : W) (u : V) (ns' : List Int) (z' : Int) (H' : Hp), w.Can pl.many → w.dep ≤ m → w.siz ≤ lim → w.Tm tm → WAt H' w u → BoxAt H' p q ns' z' → Keep p q H H' → Q u H'
def ofL : List W → Ws
  | [] => .nil
  | w :: r => .cons w (ofL r)
theorem ofL_len : ∀ l : List W, (ofL l).len = l.length
  | [] => rfl
  | w :: r => by
    show (ofL r).len + 1 = r.length + 1
    rw [ofL_len r]
theorem ofL_can {many : Nat} : ∀ l : List W, (∀ w ∈ l, w.Can many) → (ofL l).Can many
  | [], _ => trivial
  | w :: r, h => ⟨h w (List.mem_cons_self ..), ofL_can r fun x hx => h x (List.mem_cons_of_mem _ hx)⟩
theorem ofL_tm {t : Nat} : ∀ l : List W, (∀ w ∈ l, w.Tm t) → (ofL l).Tm t
  | [], _ => trivial
  | w :: r, h => ⟨h w (List.mem_cons_self ..), ofL_tm r fun x hx => h x (List.mem_cons_of_mem _ hx)⟩
theorem ofL_dep {n : Nat} : ∀ l : List W, (∀ w ∈ l, w.dep ≤ n) → (ofL l).dep ≤ n
  | [], _ => Nat.zero_le _
  | w :: r, h => by
    show max w.dep (ofL r).dep ≤ n
    exact Nat.max_le.mpr ⟨h w (List.mem_cons_self ..), ofL_dep r fun x hx => h x (List.mem_cons_of_mem _ hx)⟩
/-- works and their values, one by one -/
def W2 (H : Hp) : List W → List V → Prop
  | [], vs => vs = []
  | w :: r, vs => ∃ v s, vs = v :: s ∧ WAt H w v ∧ W2 H r s
theorem W2.ws {H : Hp} : ∀ {l : List W} {vs : List V}, W2 H l vs → WsAt H (ofL l) vs
  | [], _, h => h
  | _ :: _, _, h => by
    obtain ⟨v, s, h1, h2, h3⟩ := h
    exact ⟨v, s, h1, h2, h3.ws⟩
theorem W2.tups {H H' : Hp} (e : Tups H H') : ∀ {l : List W} {vs : List V}, W2 H l vs → W2 H' l vs
  | [], _, h => h
  | _ :: _, _, h => by
    obtain ⟨v, s, h1, h2, h3⟩ := h
    exact ⟨v, s, h1, h2.tups e, h3.tups e⟩
theorem W2.snoc {H : Hp} {w : W} {u : V} (hu : WAt H w u) : ∀ {l : List W} {vs : List V}, W2 H l vs → W2 H (l ++ [w]) (vs ++ [u])
  | [], _, h => by
    cases h
    exact ⟨u, [], rfl, hu, rfl⟩
  | _ :: _, _, h => by
    obtain ⟨v, s, rfl, h2, h3⟩ := h
    exact ⟨v, s ++ [u], rfl, h2, h3.snoc hu⟩
theorem W2.len {H : Hp} : ∀ {l : List W} {vs : List V}, W2 H l vs → vs.length = l.length
  | [], _, h => by
    cases h
    rfl
  | _ :: r, _, h => by
    obtain ⟨v, s, rfl, h2, h3⟩ := h
    show s.length + 1 = r.length + 1
    rw [h3.len]
theorem tx1_len : ∀ l : List Nat, ((l.map fun c => tx [c]).map (·.length)).sum = l.length
  | [] => rfl
  | c :: r => by
    show 1 + ((r.map fun c => tx [c]).map (·.length)).sum = r.length + 1
    rw [tx1_len r, Nat.add_comm]
theorem flat1 : ∀ l : List Nat, (l.map fun c => [c]).flatten = l
  | [] => rfl
  | c :: r => by
    show c :: (r.map fun c => [c]).flatten = c :: r
    rw [flat1 r]
end SK
namespace SK
theorem tpw_comm {room many : Nat} {t : Tr} (a : TrOk room many t) (n : Nat) : tpw room t (n + 1) = tjoin t (tpw room t n) := by
  have e := tpw_add a 1 n
  rw [tpw_one a, Nat.add_comm] at e
  exact e
/-- where nothing stays, whatever goes ahead -/
theorem tjoin_const {room many : Nat} {t u : Tr} (a : TrOk room many t) (b : TrOk room many u) (h : u.k = 0) : tjoin t u = u := by
  have hc : ∀ x, tby u x = u.l := fun x => by
    simp only [tby, h, tp_zero, List.nil_append]
  exact tr_ext (c := 97) (tjoin_ok a b) b fun s _ => by rw [tby_join, hc, hc]
theorem tidy_eq {g k : Nat} {l : List Nat} (h : k ≠ 0) : tidy g k l = ⟨g, k, l⟩ := by
  unfold tidy
  rw [if_neg h]
theorem tidy_k (g k : Nat) (l : List Nat) : (tidy g k l).k = k := by
  unfold tidy
  by_cases h : k = 0
  · rw [if_pos h]
    exact h.symm
  · rw [if_neg h]
theorem tjoin_k (t u : Tr) : (tjoin t u).k = min (t.k - (u.g - t.l.length)) (u.k - (ct u.g t.l).length) := tidy_k _ _ _
theorem tpw_k_le {room many : Nat} {t : Tr} (a : TrOk room many t) (n : Nat) : (tpw room t (n + 1)).k ≤ (tpw room t n).k := by
  show (tjoin (tpw room t n) t).k ≤ _
  rw [tjoin_k]
  omega
theorem tpw_same {room many : Nat} {t : Tr} (a : TrOk room many t) {n : Nat} (h : (tpw room t (n + 1)).k = (tpw room t n).k) (h0 : (tpw room t n).k ≠ 0) : tpw room t (n + 1) = tpw room t n := by
  have b := tpw_ok a n
  have e1 : tpw room t (n + 1) = tjoin (tpw room t n) t := rfl
  have e2 := tpw_comm a n
  generalize tpw room t n = u at h h0 b e1 e2
  have k1 : (tjoin u t).k = u.k := by rw [← e1]; exact h
  have k2 : (tjoin t u).k = u.k := by rw [← e2]; exact h
  rw [tjoin_k, len_ct] at k1 k2
  have g1 : t.g - u.l.length = 0 := by omega
  have g2 : t.l.length - u.g = 0 := by omega
  have x1 : tjoin u t = ⟨u.g, u.k, tp t.k (ct t.g u.l) ++ t.l⟩ := by
    unfold tjoin
    rw [tidy_eq (by rw [len_ct]; omega)]
    have e3 : min (u.k - (t.g - u.l.length)) (t.k - (ct t.g u.l).length) = u.k := by rw [len_ct]; exact k1
    rw [e3, g1, Nat.add_zero]
  have x2 : (tjoin t u).l = u.l := by
    unfold tjoin
    rw [tidy_eq (by rw [len_ct]; omega)]
    have e3 : ct u.g t.l = [] := ct_all (by omega)
    show tp u.k (ct u.g t.l) ++ u.l = u.l
    rw [e3]
    simp [tp]
  have x3 : tp t.k (ct t.g u.l) ++ t.l = u.l := by
    have e4 : tjoin u t = tjoin t u := e1.symm.trans e2
    rw [← e4, x1] at x2
    exact x2
  rw [e1, x1, x3]
theorem tpw_low {room many : Nat} {t : Tr} (a : TrOk room many t) (hr : 1 ≤ room) : ∀ n, 1 ≤ n → tpw room t (n + 1) = tpw room t n ∨ (tpw room t n).k + n ≤ room
  | 0, h => absurd h (by omega)
  | 1, _ => by
    by_cases h : t.k = room
    · refine .inl ?_
      have hg : t.g = 0 := by have := a.gk; omega
      have hl : t.l = [] := List.length_eq_zero_iff.mp (by have := a.kl; omega)
      have e : t = tunt room := by
        cases t
        simp only at h hg hl
        subst h hg hl
        rfl
      show tjoin (tpw room t 1) t = tpw room t 1
      rw [tpw_one a]
      have e5 : tjoin (tunt room) t = t := tunt_left a
      rw [← e] at e5
      exact e5
    · refine .inr ?_
      rw [tpw_one a]
      have := a.gk
      omega
  | n + 2, _ => by
    rcases tpw_low a hr (n + 1) (by omega) with h | h
    · refine .inl ?_
      show tjoin (tpw room t (n + 2)) t = tpw room t (n + 2)
      have h' : tpw room t (n + 2) = tpw room t (n + 1) := h
      rw [h']
      exact h'
    · have hle := tpw_k_le a (n + 1)
      have hle' : (tpw room t (n + 2)).k ≤ (tpw room t (n + 1)).k := hle
      by_cases h0 : (tpw room t (n + 1)).k = 0
      · refine .inl ?_
        have c1 : tpw room t (n + 2) = tpw room t (n + 1) := by
          rw [tpw_comm a (n + 1)]
          exact tjoin_const a (tpw_ok a _) h0
        show tjoin (tpw room t (n + 2)) t = tpw room t (n + 2)
        rw [c1]
        exact c1
      · by_cases h1 : (tpw room t (n + 2)).k = (tpw room t (n + 1)).k
        · refine .inl ?_
          have c1 : tpw room t (n + 2) = tpw room t (n + 1) := tpw_same a h1 h0
          show tjoin (tpw room t (n + 2)) t = tpw room t (n + 2)
          rw [c1]
          exact c1
        · exact .inr (by omega)
theorem tpw_next {room many : Nat} {t : Tr} (a : TrOk room many t) (hr : 1 ≤ room) {n : Nat} (h : room ≤ n) : tpw room t (n + 1) = tpw room t n := by
  rcases tpw_low a hr n (by omega) with e | e
  · exact e
  · rw [tpw_comm a n]
    exact tjoin_const a (tpw_ok a _) (by omega)
/-- from as many as there's room on -/
theorem tpw_far {room many : Nat} {t : Tr} (a : TrOk room many t) (hr : 1 ≤ room) : ∀ m, tpw room t (room + m) = tpw room t room
  | 0 => rfl
  | m + 1 => by
    have e := tpw_next a hr (n := room + m) (by omega)
    rw [tpw_far a hr m] at e
    exact e
theorem tpw_mul {room many : Nat} {t : Tr} (a : TrOk room many t) (m : Nat) : ∀ n, tpw room (tpw room t m) n = tpw room t (m * n)
  | 0 => rfl
  | n + 1 => by
    show tjoin (tpw room (tpw room t m) n) (tpw room t m) = _
    rw [tpw_mul a m n, Nat.mul_succ, tpw_add a]
end SK
namespace SK
open PySem PySem.Spec PyProof.Rows L2
/-! ### triples compared -/
def trD (t : Tr) : PyData := .tuple [.int t.g, .int t.k, .str (tx t.l)]
theorem dp_trip {K : PySem.W.Frag} {H : Hp} {v : V} {t : Tr} (h : TripAt H v t) : Dp K H v (trD t) := by
  obtain ⟨a, rfl, ha⟩ := h
  exact .tup (SqT.of ha) (.cons (.int _) (.cons (.int _) (.cons (.str _) .nil)))
theorem signs_lt {many c : Nat} (h : c ∈ signs many) : c < 1114112 := by
  have h4 := List.mem_of_mem_take (show c ∈ List.take many [97, 98, 99, 100] from h)
  have : c = 97 ∨ c = 98 ∨ c = 99 ∨ c = 100 := by simpa using h4
  omega
theorem strOk_tx {l : List Nat} (h : ∀ c ∈ l, c < 1114112) : PyData.strOk (tx l) = true := by
  show l.toArray.all (· < 0x110000) = true
  rw [Array.all_eq_true']
  intro c hc
  exact decide_eq_true (h c (by simpa using hc))
theorem trD_can {room many : Nat} {t : Tr} (a : TrOk room many t) : PyData.canLay0 (trD t) = true := by
  show (true && (true && (PyData.strOk (tx t.l) && true))) = true
  rw [strOk_tx fun c hc => signs_lt (a.s c hc)]
  rfl
theorem trD_shaped {room many : Nat} {t : Tr} (a : TrOk room many t) : SeqAt.shaped (trD t) = true := by
  show (PyData.canLay0 (trD t) && decide (PyData.depth (trD t) ≤ 64)) = true
  rw [trD_can a]
  rfl
theorem trD_eqv {room many : Nat} {t : Tr} (a : TrOk room many t) : PyData.eqv (trD t) (trD t) = true := SeqAt.eqv_refl _ (trD_can a)
/-- t != u of the same triple -/
theorem ne_trip {K : PySem.W.Frag} {H : Hp} {Q : VK} {v u : V} {room many : Nat} {t : Tr} (a : TrOk room many t) (hv : TripAt H v t) (hu : TripAt H u t) (q : Q (.bl false) H) : rNeD K v u H Q := by
  refine ⟨trD t, trD t, dp_trip hv, dp_trip hu, trD_shaped a, trD_shaped a, ?_⟩
  rw [trD_eqv a]
  exact q
def spTimes : Sp := fun vs H Q _ => ∃ n : Nat, vs = [.int (n : Int)] ∧ n ≤ 1000000000000000000 ∧ giv .non H Q
def spJoined : Sp := fun vs H Q _ => ∃ v p a b t u, vs = [v, a, b] ∧ PlanAt H v p ∧ p.Ok ∧ TripAt H a t ∧ TrOk p.room p.many t ∧ TripAt H b u ∧ TrOk p.room p.many u ∧ givT (tjoin t u) H Q
end SK
namespace SK
open PySem PySem.Spec PyProof.Rows L2
/-! ### the least stack that parts two triples -/
theorem tp_min {k j : Nat} {l : List Nat} (h : min k l.length = min j l.length) : tp k l = tp j l := by
  unfold tp
  congr 1
  omega
theorem same_upto {room many : Nat} {t u : Tr} (a : TrOk room many t) (b : TrOk room many u) {c : Nat} (st : List Nat) (h : ∀ s, s ≤ st.length → tby t (List.replicate s c) = tby u (List.replicate s c)) : tby t st = tby u st := by
  have h0 := h 0 (Nat.zero_le _)
  have hl : t.l = u.l := by
    simp only [tby, List.replicate_zero, ct, tp, List.length_nil, List.take_nil, List.drop_nil, List.nil_append] at h0
    exact h0
  have hn : ∀ s, s ≤ st.length → min t.k (s - t.g) = min u.k (s - u.g) := fun s hs => by
    have e := congrArg List.length (h s hs)
    rw [len_tby, len_tby, List.length_replicate, hl] at e
    omega
  have hv := hn st.length (Nat.le_refl _)
  simp only [tby]
  rw [hl]
  congr 1
  by_cases z : min t.k (st.length - t.g) = 0
  · have e1 : tp t.k (ct t.g st) = [] := List.length_eq_zero_iff.mp (by rw [len_tp, len_ct]; exact z)
    have e2 : tp u.k (ct u.g st) = [] := List.length_eq_zero_iff.mp (by rw [len_tp, len_ct]; omega)
    rw [e1, e2]
  · have x1 := hn (t.g + 1) (by omega)
    have x2 := hn (u.g + 1) (by omega)
    have hg : t.g = u.g := by omega
    rw [hg]
    refine tp_min ?_
    rw [len_ct]
    rw [hg] at hv
    exact hv
theorem rep_lay {many : Nat} (hm : 97 ∈ signs many) : ∀ n, ∃ r, lay many n = List.replicate n 97 :: r
  | 0 => ⟨[], rfl⟩
  | n + 1 => by
    obtain ⟨r, e⟩ := rep_lay hm n
    have hs : ∃ s, signs many = 97 :: s := by
      cases many with
      | zero => simp [signs] at hm
      | succ m => exact ⟨_, List.take_succ_cons ..⟩
    obtain ⟨s, es⟩ := hs
    refine ⟨(s.map fun c => List.replicate n 97 ++ [c]) ++ r.flatMap fun l => (signs many).map fun c => l ++ [c], ?_⟩
    show (lay many n).flatMap (fun l => (signs many).map fun c => l ++ [c]) = _
    rw [e, List.flatMap_cons, es, List.map_cons, List.cons_append, List.replicate_succ']
theorem rep_stk {many : Nat} (hm : 97 ∈ signs many) : ∀ {n s : Nat}, s ≤ n → List.replicate s 97 ∈ stk many n
  | 0, s, h => by
    have e : s = 0 := by omega
    subst e
    exact List.mem_singleton.mpr rfl
  | n + 1, s, h => by
    by_cases e : s = n + 1
    · subst e
      obtain ⟨r, er⟩ := rep_lay hm (n + 1)
      refine List.mem_append.mpr (.inr ?_)
      rw [er]
      exact List.mem_cons_self ..
    · exact List.mem_append.mpr (.inl (rep_stk hm (by omega)))
/-- the stacks ahead of the least of a size -/
theorem stk_split {many : Nat} (hm : 97 ∈ signs many) : ∀ {n s : Nat}, s ≤ n → ∃ a b, stk many n = a ++ List.replicate s 97 :: b ∧ ∀ x ∈ a, x.length < s
  | 0, s, h => by
    have e : s = 0 := by omega
    subst e
    exact ⟨[], [], rfl, fun x hx => by simp at hx⟩
  | n + 1, s, h => by
    by_cases e : s = n + 1
    · subst e
      obtain ⟨r, er⟩ := rep_lay hm (n + 1)
      refine ⟨stk many n, r, ?_, fun x hx => Nat.lt_succ_of_le (stk_mem hx).1⟩
      show stk many n ++ lay many (n + 1) = _
      rw [er]
    · obtain ⟨a, b, e1, e2⟩ := stk_split hm (n := n) (s := s) (by omega)
      refine ⟨a, b ++ lay many (n + 1), ?_, e2⟩
      show stk many n ++ lay many (n + 1) = _
      rw [e1]
      simp
def Unl (t u : Tr) (st : List Nat) : Bool := decide (tby t st ≠ tby u st)
theorem unl_first {room many : Nat} {t u : Tr} (a : TrOk room many t) (b : TrOk room many u) (hm : 97 ∈ signs many) {s : Nat} (hs : s ≤ room) (h1 : tby t (List.replicate s 97) ≠ tby u (List.replicate s 97))
    (h2 : ∀ s', s' < s → tby t (List.replicate s' 97) = tby u (List.replicate s' 97)) : ∃ r, (stk many room).filter (Unl t u) = List.replicate s 97 :: r := by
  obtain ⟨x, y, e1, e2⟩ := stk_split hm hs
  refine ⟨y.filter (Unl t u), ?_⟩
  rw [e1, List.filter_append]
  have e3 : x.filter (Unl t u) = [] := by
    rw [List.filter_eq_nil_iff]
    intro st hst
    have e4 := same_upto a b (c := 97) st fun s' hs' => h2 s' (by have := e2 st hst; omega)
    simp [Unl, e4]
  rw [e3, List.nil_append, List.filter_cons_of_pos]
  exact decide_eq_true h1
theorem unl_none {room many : Nat} {t u : Tr} (a : TrOk room many t) (b : TrOk room many u) (h : ∀ s, s ≤ room → tby t (List.replicate s 97) = tby u (List.replicate s 97)) : t = u := tr_ext (c := 97) a b h
theorem unl_nil {room many : Nat} {t u : Tr} (a : TrOk room many t) (b : TrOk room many u) (hm : 97 ∈ signs many) : (stk many room).filter (Unl t u) = [] ↔ t = u := by
  constructor
  · intro h
    refine tr_ext (c := 97) a b fun s hs => ?_
    by_cases e : tby t (List.replicate s 97) = tby u (List.replicate s 97)
    · exact e
    · have h2 := List.filter_eq_nil_iff.mp h _ (rep_stk hm hs)
      exact absurd (decide_eq_true e) h2
  · intro h
    subst h
    rw [List.filter_eq_nil_iff]
    intro st _
    simp [Unl]
/-! ### values compared -/
theorem eqv_trD {t u : Tr} : PyData.eqv (trD t) (trD u) = true ↔ t = u := by
  have e : PyData.eqv (trD t) (trD u) = (((t.g : Int) == (u.g : Int)) && (((t.k : Int) == (u.k : Int)) && ((tx t.l == tx u.l) && true))) := by
    simp [trD, PyData.eqv, PyData.eqvAll]
  rw [e]
  constructor
  · intro h
    simp only [Bool.and_eq_true, beq_iff_eq, Bool.and_true] at h
    obtain ⟨h1, h2, h3⟩ := h
    have h4 := str_inj.mp h3
    cases t
    cases u
    simp only at h1 h2 h4
    have h1' := Int.ofNat.inj h1
    have h2' := Int.ofNat.inj h2
    subst h1' h2' h4
    rfl
  · intro h
    subst h
    simp
theorem dpTx {K : PySem.W.Frag} {H : Hp} : ∀ ls : List (List Nat), DpAll K H (ls.map fun l => V.str (tx l)) (ls.map fun l => PyData.str (tx l))
  | [] => .nil
  | l :: r => .cons (.str _) (dpTx r)
theorem shTx : ∀ ls : List (List Nat), (∀ l ∈ ls, ∀ c ∈ l, c < 1114112) → SeqAt.shaped (.list (ls.map fun l => PyData.str (tx l))) = true := fun ls h => by
  have h1 : ∀ ls : List (List Nat), (∀ l ∈ ls, ∀ c ∈ l, c < 1114112) → PyData.canLayAll0 (ls.map fun l => PyData.str (tx l)) = true := fun ls h => by
    induction ls with
    | nil => rfl
    | cons l r ih =>
      show (PyData.strOk (tx l) && PyData.canLayAll0 (r.map _)) = true
      rw [strOk_tx (h l (List.mem_cons_self ..)), ih fun x hx => h x (List.mem_cons_of_mem _ hx)]
      rfl
  have h2 : ∀ ls : List (List Nat), PyData.depthAll (ls.map fun l => PyData.str (tx l)) = 0 := fun ls => by
    induction ls with
    | nil => rfl
    | cons l r ih =>
      show max 0 (PyData.depthAll (r.map _)) = 0
      rw [ih]
      rfl
  show (PyData.canLayAll0 _ && decide (PyData.depthAll _ + 1 ≤ 64)) = true
  rw [h1 ls h, h2]
  rfl
theorem eqNil {ls : List (List Nat)} : PyData.eqv (.list (ls.map fun l => PyData.str (tx l))) (.list []) = decide (ls = []) := by
  cases ls with
  | nil => rfl
  | cons l r =>
    show PyData.eqvAll _ _ = _
    simp [PyData.eqvAll]
/-- a list of texts == [] -/
theorem eq_nil {K : PySem.W.Frag} {H : Hp} {Q : VK} {a b : Addr} {ls : List (List Nat)} (ha : H a = some (.lst (ls.map fun l => V.str (tx l)))) (hb : H b = some (.lst [])) (hc : ∀ l ∈ ls, ∀ c ∈ l, c < 1114112) (q : Q (.bl (decide (ls = []))) H) : rEqD K (.ref a) (.ref b) H Q := by
  refine ⟨_, .list [], .lst (SqL.of ha) (dpTx ls), .lst (SqL.of hb) .nil, shTx ls hc, rfl, ?_⟩
  rw [eqNil]
  exact q
theorem ne_nil {K : PySem.W.Frag} {H : Hp} {Q : VK} {a b : Addr} {ls : List (List Nat)} (ha : H a = some (.lst (ls.map fun l => V.str (tx l)))) (hb : H b = some (.lst [])) (hc : ∀ l ∈ ls, ∀ c ∈ l, c < 1114112) (q : Q (.bl (!decide (ls = []))) H) : rNeD K (.ref a) (.ref b) H Q := by
  refine ⟨_, .list [], .lst (SqL.of ha) (dpTx ls), .lst (SqL.of hb) .nil, shTx ls hc, rfl, ?_⟩
  rw [eqNil]
  exact q
theorem eq_trip {K : PySem.W.Frag} {H : Hp} {Q : VK} {v u : V} {room many : Nat} {t s : Tr} (a : TrOk room many t) (b : TrOk room many s) (hv : TripAt H v t) (hu : TripAt H u s) (q : ∀ k : Bool, (k = true ↔ t = s) → Q (.bl k) H) : rEqD K v u H Q :=
  ⟨trD t, trD s, dp_trip hv, dp_trip hu, trD_shaped a, trD_shaped b, q _ eqv_trD⟩
/-! ### promises -/
def spAlikeW : Sp := fun vs H Q _ => ∃ v p a b t u, vs = [v, a, b] ∧ PlanAt H v p ∧ p.Ok ∧ WAt H t a ∧ WOk p.many t ∧ WAt H u b ∧ WOk p.many u ∧ ∀ (k : Bool) (H' : Hp), Same H H' → (k = true ↔ t.tri p.room = u.tri p.room) → Q (.bl k) H'
def spParting : Sp := fun vs H Q _ => ∃ v p a b t u, vs = [v, a, b] ∧ PlanAt H v p ∧ p.Ok ∧ WAt H t a ∧ WOk p.many t ∧ WAt H u b ∧ WOk p.many u ∧
  (∀ (s : Nat) (H' : Hp), Same H H' → s ≤ p.room → tby (t.tri p.room) (List.replicate s 97) ≠ tby (u.tri p.room) (List.replicate s 97) → (∀ s', s' < s → tby (t.tri p.room) (List.replicate s' 97) = tby (u.tri p.room) (List.replicate s' 97)) → Q (.str (tx (List.replicate s 97))) H') ∧
  (∀ H', Same H H' → (∀ s, s ≤ p.room → tby (t.tri p.room) (List.replicate s 97) = tby (u.tri p.room) (List.replicate s 97)) → Q .non H')
def asWork (s : List Nat) : List W := s.map fun c => if c = 45 then .pop else .push c
def spAsWork : Sp := fun vs H Q _ => ∃ l, vs = [.str (tx l)] ∧ l.length ≤ 40 ∧ ∀ (u : V) (H' : Hp), Same H H' → WAt H' (.row (ofL (asWork l))) u → Q u H'
end SK
/-! the least price of steps that do what a triple does; the mathematics -/
namespace SK
structure Pay (many : Nat) (m q : Int) (f : Nat → Int) : Prop where
  f45 : f 45 = q
  lo : ∀ c ∈ signs many, m ≤ f c
  m0 : 0 ≤ m
  q0 : 0 ≤ q
/-- how many are filled where something is kept -/
def phi (room : Nat) (t : Tr) : Nat := room - t.k - max t.g t.l.length
def wprice (m q : Int) (f : Nat → Int) (l : List Nat) (w : Nat × Nat) : Int := (w.1 : Int) * q + (sprc f l + (w.2 : Int) * (m + q))
def ways (room : Nat) (t : Tr) : List (Nat × Nat) := if t.k = 0 then [(0, room - t.l.length), (room, 0)] else [(t.g, phi room t)]
/-- the least price -/
def LB (room : Nat) (m q : Int) (f : Nat → Int) (t : Tr) : Int := if t.k = 0 then min (wprice m q f t.l (0, room - t.l.length)) (wprice m q f t.l (room, 0)) else wprice m q f t.l (t.g, phi room t)
theorem mulr {a b : Nat} {z : Int} (h : a ≤ b) (hz : 0 ≤ z) : (a : Int) * z ≤ (b : Int) * z := Int.mul_le_mul_of_nonneg_right (Int.ofNat_le.mpr h) hz
theorem muls (a : Nat) (z : Int) : ((a + 1 : Nat) : Int) * z = (a : Int) * z + z := by
  rw [Int.natCast_succ, Int.add_mul, Int.one_mul]
theorem mul0 {a : Nat} {z : Int} (hz : 0 ≤ z) : 0 ≤ (a : Int) * z := Int.mul_nonneg (Int.natCast_nonneg a) hz
theorem sprc_nn {many : Nat} {m q : Int} {f : Nat → Int} (P : Pay many m q f) : ∀ {l : List Nat}, (∀ c ∈ l, c ∈ signs many) → 0 ≤ sprc f l
  | [], _ => by simp [sprc]
  | c :: r, h => by
    have h1 := sprc_nn P (l := r) fun d hd => h d (List.mem_cons_of_mem _ hd)
    have h2 := P.lo c (h c (List.mem_cons_self ..))
    have := P.m0
    have e : sprc f (c :: r) = f c + sprc f r := by simp [sprc]
    omega
theorem sprc_one (f : Nat → Int) (c : Nat) : sprc f [c] = f c := by simp [sprc]
theorem LB_nn {room many : Nat} {m q : Int} {f : Nat → Int} (P : Pay many m q f) {t : Tr} (a : TrOk room many t) : 0 ≤ LB room m q f t := by
  have h1 := sprc_nn P a.s
  have h2 := P.m0
  have h3 := P.q0
  have h4 : 0 ≤ m + q := by omega
  unfold LB wprice
  split
  · have e1 := mul0 (a := room - t.l.length) h4
    have e2 := mul0 (a := room) h3
    simp only
    omega
  · have e1 := mul0 (a := phi room t) h4
    have e2 := mul0 (a := t.g) h3
    simp only
    omega
theorem LB_of0 {room : Nat} {m q : Int} {f : Nat → Int} {t : Tr} (h : t.k = 0) : LB room m q f t = min ((sprc f t.l + ((room - t.l.length : Nat) : Int) * (m + q))) ((room : Int) * q + sprc f t.l) := by
  unfold LB wprice
  rw [if_pos h]
  simp
theorem LB_ofk {room : Nat} {m q : Int} {f : Nat → Int} {t : Tr} (h : t.k ≠ 0) : LB room m q f t = (t.g : Int) * q + (sprc f t.l + ((phi room t : Nat) : Int) * (m + q)) := by
  unfold LB wprice
  rw [if_neg h]
theorem ct_one_price {many : Nat} {m q : Int} {f : Nat → Int} (P : Pay many m q f) {l : List Nat} (hl : ∀ c ∈ l, c ∈ signs many) (h : l ≠ []) : sprc f (ct 1 l) + m ≤ sprc f l := by
  have e : ct 1 l ++ [l.getLast h] = l := by
    unfold ct
    rw [← List.dropLast_eq_take]
    exact List.dropLast_concat_getLast h
  have h2 : sprc f l = sprc f (ct 1 l) + f (l.getLast h) := by
    have := sprc_app f (ct 1 l) [l.getLast h]
    rw [e, sprc_one] at this
    exact this
  have := P.lo _ (hl _ (List.getLast_mem h))
  omega
theorem tp_price {many : Nat} {m q : Int} {f : Nat → Int} (P : Pay many m q f) {l : List Nat} (hl : ∀ c ∈ l, c ∈ signs many) (k : Nat) : sprc f (tp k l) ≤ sprc f l := by
  have e : l.take (l.length - k) ++ tp k l = l := List.take_append_drop ..
  have h2 : sprc f l = sprc f (l.take (l.length - k)) + sprc f (tp k l) := by
    have := sprc_app f (l.take (l.length - k)) (tp k l)
    rw [e] at this
    exact this
  have := sprc_nn P (l := l.take (l.length - k)) fun c hc => hl c (List.mem_of_mem_take hc)
  omega
theorem push_join {room many c : Nat} {t : Tr} (a : TrOk room many t) (hr : 1 ≤ room) : tjoin t ⟨0, room - 1, [c]⟩ = tidy t.g (min t.k (room - 1 - t.l.length)) (tp (room - 1) t.l ++ [c]) := by
  unfold tjoin
  simp only [Nat.zero_sub, Nat.add_zero, Nat.sub_zero, ct_zero]
theorem LB_push {room many : Nat} {m q : Int} {f : Nat → Int} (P : Pay many m q f) (hr : 1 ≤ room) {t : Tr} (a : TrOk room many t) {c : Nat} (hc : c ∈ signs many) : LB room m q f (tjoin t ⟨0, room - 1, [c]⟩) ≤ LB room m q f t + f c := by
  have hm := P.m0
  have hq := P.q0
  have hz : 0 ≤ m + q := by omega
  have gk := a.gk
  have kl := a.kl
  have hp := tp_price P a.s (room - 1)
  rw [push_join a hr]
  by_cases hk : t.k = 0
  · have e : tidy t.g (min t.k (room - 1 - t.l.length)) (tp (room - 1) t.l ++ [c]) = ⟨0, 0, tp (room - 1) t.l ++ [c]⟩ := by
      rw [hk, Nat.zero_min]
      rfl
    rw [e, LB_of0 rfl, LB_of0 hk]
    simp only [sprc_app, sprc_one]
    have hl : (tp (room - 1) t.l ++ [c]).length = min (room - 1) t.l.length + 1 := by rw [List.length_append, len_tp]; rfl
    rw [hl]
    have := mulr (a := room - (min (room - 1) t.l.length + 1)) (b := room - t.l.length) (by omega) hz
    omega
  · by_cases h1 : t.k + t.l.length < room
    · have e : tidy t.g (min t.k (room - 1 - t.l.length)) (tp (room - 1) t.l ++ [c]) = ⟨t.g, t.k, t.l ++ [c]⟩ := by
        rw [Nat.min_eq_left (by omega), tidy_eq hk, tp_all (by omega)]
      rw [e, LB_ofk hk, LB_ofk (t := ⟨t.g, t.k, t.l ++ [c]⟩) hk]
      simp only [sprc_app, sprc_one]
      have := mulr (a := phi room ⟨t.g, t.k, t.l ++ [c]⟩) (b := phi room t) (by unfold phi; simp only [List.length_append, List.length_singleton]; omega) hz
      omega
    · have e : tidy t.g (min t.k (room - 1 - t.l.length)) (tp (room - 1) t.l ++ [c]) = tidy t.g (t.k - 1) (t.l ++ [c]) := by
        rw [Nat.min_eq_right (by omega), tp_all (by omega)]
        congr 1
        omega
      rw [e, LB_ofk hk]
      have h0 := mul0 (a := phi room t) hz
      have h2 := mul0 (a := t.g) hq
      by_cases hk1 : t.k = 1
      · have e2 : tidy t.g (t.k - 1) (t.l ++ [c]) = ⟨0, 0, t.l ++ [c]⟩ := by
          rw [hk1]
          rfl
        rw [e2, LB_of0 rfl]
        simp only [sprc_app, sprc_one, List.length_append, List.length_singleton]
        have e3 : room - (t.l.length + 1) = 0 := by omega
        rw [e3]
        simp only [Int.natCast_zero, Int.zero_mul]
        omega
      · rw [tidy_eq (by omega), LB_ofk (by simp only; omega)]
        simp only [sprc_app, sprc_one]
        have e3 : phi room ⟨t.g, t.k - 1, t.l ++ [c]⟩ = 0 := by
          unfold phi
          simp only [List.length_append, List.length_singleton]
          omega
        rw [e3]
        simp only [Int.natCast_zero, Int.zero_mul]
        omega
theorem pop_join {room many : Nat} {t : Tr} (a : TrOk room many t) (hr : 2 ≤ room) : tjoin t ⟨1, room - 1, []⟩ = tidy (t.g + (1 - t.l.length)) (min (t.k - (1 - t.l.length)) (room - 1 - (t.l.length - 1))) (ct 1 t.l) := by
  have kl := a.kl
  unfold tjoin
  simp only [len_ct, List.append_nil]
  rw [tp_all (by rw [len_ct]; omega)]
theorem LB_pop {room many : Nat} {m q : Int} {f : Nat → Int} (P : Pay many m q f) (hr : 1 ≤ room) {t : Tr} (a : TrOk room many t) : LB room m q f (tjoin t (tidy 1 (room - 1) [])) ≤ LB room m q f t + q := by
  have hm := P.m0
  have hq := P.q0
  have hz : 0 ≤ m + q := by omega
  have gk := a.gk
  have kl := a.kl
  have nn := LB_nn P a
  by_cases h1 : room = 1
  · subst h1
    have e : tjoin t (tidy 1 (1 - 1) []) = ⟨0, 0, []⟩ := by
      show tidy _ (min _ (0 - _)) (tp 0 _ ++ []) = _
      rw [Nat.zero_sub, Nat.min_zero, tp_zero]
      rfl
    rw [e, LB_of0 rfl]
    simp only [sprc, List.map_nil, List.sum_nil, List.length_nil]
    omega
  · rw [tidy_eq (by omega), pop_join a (by omega)]
    by_cases hl : t.l = []
    · have e : tidy (t.g + (1 - t.l.length)) (min (t.k - (1 - t.l.length)) (room - 1 - (t.l.length - 1))) (ct 1 t.l) = tidy (t.g + 1) (t.k - 1) [] := by
        rw [hl]
        simp only [List.length_nil, ct_all (l := []) (g := 1) (by simp)]
        congr 1
        omega
      rw [e]
      by_cases hk : t.k ≤ 1
      · have e2 : tidy (t.g + 1) (t.k - 1) [] = ⟨0, 0, []⟩ := by
          rw [Nat.sub_eq_zero_of_le hk]
          rfl
        rw [e2, LB_of0 rfl]
        simp only [sprc, List.map_nil, List.sum_nil, List.length_nil]
        by_cases hk0 : t.k = 0
        · rw [LB_of0 hk0, hl]
          simp only [sprc, List.map_nil, List.sum_nil, List.length_nil]
          omega
        · rw [LB_ofk hk0, hl]
          simp only [sprc, List.map_nil, List.sum_nil]
          have e3 : phi room t = room - 1 - t.g := by
            unfold phi
            rw [hl]
            simp only [List.length_nil]
            omega
          have h5 : ((phi room t : Nat) : Int) * q ≤ ((phi room t : Nat) : Int) * (m + q) := Int.mul_le_mul_of_nonneg_left (by omega) (Int.natCast_nonneg _)
          have h6 : (room : Int) * q = (t.g : Int) * q + ((phi room t : Nat) : Int) * q + q := by
            have e7 : (room : Int) = (t.g : Int) + ((phi room t : Nat) : Int) + 1 := by omega
            rw [e7, Int.add_mul, Int.add_mul, Int.one_mul]
          omega
      · rw [tidy_eq (by omega), LB_ofk (by simp only; omega), LB_ofk (by omega), hl]
        have e3 : phi room ⟨t.g + 1, t.k - 1, []⟩ = phi room t := by
          unfold phi
          rw [hl]
          simp only [List.length_nil]
          omega
        rw [e3]
        simp only [muls]
        omega
    · have hl1 : 1 ≤ t.l.length := List.length_pos_iff.mpr hl
      have e : tidy (t.g + (1 - t.l.length)) (min (t.k - (1 - t.l.length)) (room - 1 - (t.l.length - 1))) (ct 1 t.l) = tidy t.g t.k (ct 1 t.l) := by
        congr 1
        · omega
        · omega
      have hpr := ct_one_price P a.s hl
      rw [e]
      by_cases hk : t.k = 0
      · have e2 : tidy t.g t.k (ct 1 t.l) = ⟨0, 0, ct 1 t.l⟩ := by
          rw [hk]
          rfl
        rw [e2, LB_of0 rfl, LB_of0 hk]
        simp only [len_ct]
        have e3 : room - (t.l.length - 1) = (room - t.l.length) + 1 := by omega
        rw [e3, muls]
        omega
      · rw [tidy_eq hk, LB_ofk hk, LB_ofk (t := ⟨t.g, t.k, ct 1 t.l⟩) hk]
        have h5 := mulr (a := phi room ⟨t.g, t.k, ct 1 t.l⟩) (b := phi room t + 1) (by unfold phi; simp only [len_ct]; omega) hz
        rw [muls] at h5
        simp only
        omega
theorem LB_step {room many : Nat} {m q : Int} {f : Nat → Int} (P : Pay many m q f) (hr : 1 ≤ room) {t : Tr} (a : TrOk room many t) {c : Nat} (hc : c = 45 ∨ c ∈ signs many) : LB room m q f (tjoin t (tstep room c)) ≤ LB room m q f t + f c := by
  unfold tstep
  by_cases h : c = 45
  · rw [if_pos h, h, P.f45]
    exact LB_pop P hr a
  · rw [if_neg h]
    exact LB_push P hr a (hc.resolve_left h)
theorem LB_unt {room many : Nat} {m q : Int} {f : Nat → Int} (P : Pay many m q f) (hr : 1 ≤ room) : LB room m q f (tunt room) = 0 := by
  rw [LB_ofk (by show room ≠ 0; omega)]
  have e : phi room (tunt room) = 0 := by
    show room - room - _ = 0
    omega
  rw [e]
  simp [tunt, sprc]
theorem LB_steps {room many : Nat} {m q : Int} {f : Nat → Int} (P : Pay many m q f) (hr : 1 ≤ room) : ∀ (s : List Nat) (t : Tr), TrOk room many t → (∀ c ∈ s, c = 45 ∨ c ∈ signs many) → LB room m q f (s.foldl (fun t c => tjoin t (tstep room c)) t) ≤ LB room m q f t + sprc f s
  | [], t, _, _ => by simp [sprc]
  | c :: r, t, a, h => by
    have hc := h c (List.mem_cons_self ..)
    have h1 := LB_step P hr a hc
    have h2 := LB_steps P hr r _ (tjoin_ok a (tstep_ok hr hc)) fun d hd => h d (List.mem_cons_of_mem _ hd)
    have e : sprc f (c :: r) = f c + sprc f r := by simp [sprc]
    show LB room m q f (r.foldl _ (tjoin t (tstep room c))) ≤ _
    omega
/-- steps cost at least so much -/
theorem LB_told {room many : Nat} {m q : Int} {f : Nat → Int} (P : Pay many m q f) (hr : 1 ≤ room) {s : List Nat} (h : ∀ c ∈ s, c = 45 ∨ c ∈ signs many) : LB room m q f (ttold room s) ≤ sprc f s := by
  have := LB_steps P hr s (tunt room) tunt_ok h
  rw [LB_unt P hr] at this
  unfold ttold
  omega
/-! ### steps of a way -/
theorem gone_pops (room : Nat) : ∀ (p : Nat) (x : List Nat), gone room x (List.replicate p 45) = ct p x
  | 0, x => (ct_zero x).symm
  | p + 1, x => by
    rw [List.replicate_succ]
    show gone room (step room x 45) (List.replicate p 45) = _
    rw [gone_pops room p]
    show ct p (ct 1 x) = _
    rw [ct_ct]
    congr 1
    omega
theorem tp_tp_app (room : Nat) (y z : List Nat) : tp room (tp room y ++ z) = tp room (y ++ z) := by
  rw [tp_app, tp_app room y z, tp_tp]
  congr 2
  omega
theorem gone_signs (room : Nat) : ∀ (l x : List Nat), (∀ c ∈ l, c ≠ 45) → x.length ≤ room → gone room x l = tp room (x ++ l)
  | [], x, _, h => by
    rw [List.append_nil, tp_all h]
    rfl
  | c :: r, x, hl, h => by
    show gone room (step room x c) r = _
    have e : step room x c = tp room (x ++ [c]) := if_neg (hl c (List.mem_cons_self ..))
    rw [e, gone_signs room r _ (fun d hd => hl d (List.mem_cons_of_mem _ hd)) (by rw [len_tp]; omega), tp_tp_app, List.append_assoc]
    rfl
theorem gone_app (room : Nat) (x a b : List Nat) : gone room x (a ++ b) = gone room (gone room x a) b := by
  unfold gone
  rw [List.foldl_append]
theorem sign_not {many c : Nat} (h : c ∈ signs many) : c ≠ 45 := by
  have h1 := List.mem_of_mem_take h
  simp at h1
  omega
/-- the steps of a way -/
def wayS (c0 : Nat) (w : Nat × Nat) (l : List Nat) : List Nat :=
  if l.length ≤ w.1 then List.replicate w.2 c0 ++ List.replicate w.2 45 ++ List.replicate w.1 45 ++ l
  else List.replicate w.1 45 ++ l ++ (List.replicate w.2 c0 ++ List.replicate w.2 45)
theorem way_gone {room many c0 g k : Nat} {l x : List Nat} (gk : g + k ≤ room) (kl : k + l.length ≤ room) (hc : c0 ∈ signs many) (hl : ∀ c ∈ l, c ∈ signs many) (hx : x.length ≤ room) :
    gone room x (wayS c0 (g, room - k - max g l.length) l) = tp k (ct g x) ++ l := by
  have hl' : ∀ c ∈ l, c ≠ 45 := fun c h => sign_not (hl c h)
  have hr' : ∀ n, ∀ c ∈ List.replicate n c0, c ≠ 45 := fun n c h => by
    rw [List.eq_of_mem_replicate h]
    exact sign_not hc
  unfold wayS
  by_cases h : l.length ≤ g
  · rw [if_pos h, Nat.max_eq_left h]
    simp only
    rw [gone_app, gone_app, gone_app, gone_signs room _ x (hr' _) hx, gone_pops, gone_pops, ct_ct, ct_tp, ct_app_ge (by rw [List.length_replicate]; omega)]
    rw [List.length_replicate]
    have e1 : room - (room - k - g + g) = k := by omega
    have e2 : room - k - g + g - (room - k - g) = g := by omega
    rw [e1, e2, gone_signs room l _ hl' (by rw [len_tp]; omega), tp_all (by rw [List.length_append, len_tp]; omega)]
  · have h' : g ≤ l.length := by omega
    rw [if_neg h, Nat.max_eq_right h']
    simp only
    rw [gone_app, gone_app, gone_app, gone_pops room g x, gone_signs room l _ hl' (by rw [len_ct]; omega), gone_signs room (List.replicate _ c0) _ (hr' _) (by rw [len_tp]; omega), gone_pops, tp_tp_app, ct_tp, ct_app_ge (by rw [List.length_replicate]; omega)]
    rw [List.length_replicate, Nat.sub_self, ct_zero]
    have e1 : room - (room - k - l.length) = k + l.length := by omega
    rw [e1, tp_app, tp_all (l := l) (by omega)]
    congr 2
    omega
theorem way_in {many c0 : Nat} {w : Nat × Nat} {l : List Nat} (hc : c0 ∈ signs many) (hl : ∀ c ∈ l, c ∈ signs many) : ∀ c ∈ wayS c0 w l, c = 45 ∨ c ∈ signs many := fun c h => by
  have k1 : ∀ n, c ∈ List.replicate n c0 → c = 45 ∨ c ∈ signs many := fun n h => by
    rw [List.eq_of_mem_replicate h]
    exact .inr hc
  have k2 : ∀ n, c ∈ List.replicate n 45 → c = 45 ∨ c ∈ signs many := fun n h => .inl (List.eq_of_mem_replicate h)
  unfold wayS at h
  split at h
  · simp only [List.mem_append] at h
    rcases h with ((h | h) | h) | h
    · exact k1 _ h
    · exact k2 _ h
    · exact k2 _ h
    · exact .inr (hl c h)
  · simp only [List.mem_append] at h
    rcases h with (h | h) | (h | h)
    · exact k2 _ h
    · exact .inr (hl c h)
    · exact k1 _ h
    · exact k2 _ h
theorem sprc_rep (f : Nat → Int) (c : Nat) : ∀ n : Nat, sprc f (List.replicate n c) = (n : Int) * f c
  | 0 => by simp [sprc]
  | n + 1 => by
    have e : sprc f (List.replicate (n + 1) c) = f c + sprc f (List.replicate n c) := by simp [sprc, List.replicate_succ]
    rw [e, sprc_rep f c n, muls]
    omega
theorem way_price {many c0 : Nat} {m q : Int} {f : Nat → Int} (P : Pay many m q f) (hm : f c0 = m) (w : Nat × Nat) (l : List Nat) : sprc f (wayS c0 w l) = wprice m q f l w := by
  unfold wayS wprice
  split
  · simp only [sprc_app, sprc_rep, P.f45, hm, Int.mul_add]
    omega
  · simp only [sprc_app, sprc_rep, P.f45, hm, Int.mul_add]
    omega
theorem way_len {c0 : Nat} (w : Nat × Nat) (l : List Nat) : (wayS c0 w l).length = w.1 + 2 * w.2 + l.length := by
  unfold wayS
  split
  · simp only [List.length_append, List.length_replicate]
    omega
  · simp only [List.length_append, List.length_replicate]
    omega
/-- the steps of each way do what the triple does -/
theorem way_told {room many c0 : Nat} {t : Tr} (hr : 1 ≤ room) (a : TrOk room many t) (hc : c0 ∈ signs many) {w : Nat × Nat} (h : w ∈ ways room t) : ttold room (wayS c0 w t.l) = t := by
  have hin := way_in (w := w) hc a.s
  refine tr_ext (c := 97) (ttold_ok' hr hin) a fun n hn => ?_
  have hx : (List.replicate n 97).length ≤ room := by rw [List.length_replicate]; exact hn
  rw [tby_told hr _ hx]
  unfold ways at h
  by_cases hk : t.k = 0
  · rw [if_pos hk] at h
    have gk := a.gk
    have kl := a.kl
    have hz := a.z hk
    rcases List.mem_cons.mp h with h | h
    · have e := way_gone (c0 := c0) (g := 0) (k := 0) (l := t.l) (x := List.replicate n 97) (by omega) (by omega) hc a.s hx
      rw [Nat.sub_zero, Nat.zero_max] at e
      rw [h, e]
      simp only [tby, hk, hz]
    · have h' : w = (room, 0) := by simpa using h
      have e := way_gone (c0 := c0) (g := room) (k := 0) (l := t.l) (x := List.replicate n 97) (by omega) (by omega) hc a.s hx
      have e2 : room - 0 - max room t.l.length = 0 := by omega
      rw [e2] at e
      rw [h', e]
      simp only [tby, hk, hz, tp_zero]
  · rw [if_neg hk] at h
    have h' : w = (t.g, phi room t) := by simpa using h
    rw [h']
    exact way_gone (c0 := c0) a.gk a.kl hc a.s hx
/-- subadditive -/
theorem LB_has {room many c0 : Nat} {m q : Int} {f : Nat → Int} (P : Pay many m q f) (hr : 1 ≤ room) (hc : c0 ∈ signs many) (hm : f c0 = m) {t : Tr} (a : TrOk room many t) : ∃ s, (∀ c ∈ s, c = 45 ∨ c ∈ signs many) ∧ ttold room s = t ∧ sprc f s = LB room m q f t := by
  by_cases hk : t.k = 0
  · by_cases h : wprice m q f t.l (0, room - t.l.length) ≤ wprice m q f t.l (room, 0)
    · refine ⟨wayS c0 (0, room - t.l.length) t.l, way_in hc a.s, way_told hr a hc (by unfold ways; rw [if_pos hk]; simp), ?_⟩
      rw [way_price P hm]
      unfold LB
      rw [if_pos hk]
      omega
    · refine ⟨wayS c0 (room, 0) t.l, way_in hc a.s, way_told hr a hc (by unfold ways; rw [if_pos hk]; simp), ?_⟩
      rw [way_price P hm]
      unfold LB
      rw [if_pos hk]
      omega
  · refine ⟨wayS c0 (t.g, phi room t) t.l, way_in hc a.s, way_told hr a hc (by unfold ways; rw [if_neg hk]; simp), ?_⟩
    rw [way_price P hm]
    unfold LB
    rw [if_neg hk]
theorem LB_join {room many c0 : Nat} {m q : Int} {f : Nat → Int} (P : Pay many m q f) (hr : 1 ≤ room) (hc : c0 ∈ signs many) (hm : f c0 = m) {t u : Tr} (a : TrOk room many t) (b : TrOk room many u) : LB room m q f (tjoin t u) ≤ LB room m q f t + LB room m q f u := by
  obtain ⟨s, h1, h2, h3⟩ := LB_has P hr hc hm a
  obtain ⟨s', h4, h5, h6⟩ := LB_has P hr hc hm b
  have h7 := LB_told P hr (s := s ++ s') fun c hc => (List.mem_append.mp hc).elim (h1 c) (h4 c)
  rw [ttold_app hr h1 h4, h2, h5, sprc_app, h3, h6] at h7
  exact h7
theorem LB_work {room many : Nat} {m q : Int} {f : Nat → Int} (P : Pay many m q f) (hr : 1 ≤ room) {w : W} (h : w.Can many) : LB room m q f (w.tri room) ≤ w.prc f := by
  rw [W.tri_lng hr w h, W.prc_lng]
  exact LB_told P hr (W.lng_in w h)
end SK
namespace SK
open PySem PySem.Spec PyProof.Rows L2 LamX NdefX
/-! ### a lambda with parameters, called -/
/-- the lambda as a function made in the running frame -/
def lamF (X : Cx) (params : Arguments) (scope : Scope) (c' : Addr) : NF := ⟨"<lambda>", X.env.qual ++ "<lambda>", params, [], scope, cloFrom X.env.cells scope.names [], c'⟩
theorem lam_run {P : Program} {w : World} {K : PySem.W.Frag} {mg : Str → Option Value} {base : Heap} {N ps fr : List Str} {F : NF} {f : Addr} {A : Around} {outer : List Env} {s : Shared} {H : Hp} {us : List Value} {vs : List V} {ws : List (Option V)} {k : Nat} {body : Expr} {pm ctv : Value} {t : TE} {Q : VK}
    (S : NScope N ps fr F.scope) (hr : Room (k + 1) A) (e0 : Env0 P w K mg base A outer s H) (ho : s.heap.get? f = some (PySem.W.kla_obj F.name F.qual F.params body F.scope F.cl pm F.c ctv)) (hc : s.heap.CodeRec (.ref F.c) F.qual)
    (hbind : bindArgs (PySem.W.kla_fn F.name F.qual F.params body F.scope F.cl pm (.ref F.c) ctv) ⟨us, []⟩ = pure (ps.zip us)) (hl : vs.length = ps.length) (r : Vals vs us) (C : CellsAt F.cl fr ws s.heap H)
    (hbody : PE (ncx C8.CX0 P w K mg base N F f A outer s H C8.E0) body t) (ht : t (startF N vs ws) H Q) :
    codeAny (model P w) A (.call (.ref f) ⟨us, []⟩) (CR C8.CX0 outer P w H s Q C8.E0) s := by
  have lim : s.heap.NoLimit := e0.mod.nolimit.keeps fun b o e => (e0.bs b o e).1
  refine PySem.W.kla_callFunE hr.depth ho rfl S.co S.gen rfl hc ?_
  rw [hbind]
  refine wpAny_pure (wpAny_newFunctionEnv S.nocell (fun ⟨n, _⟩ hy => S.par n (List.of_mem_zip hy).1) (fun h₁ hns hsb => ⟨lim.fresh _ hsb, ?_⟩) S.kind)
  show codeAny _ _ (.expr body (envF F f s.heap.objs.size)) _ _
  have kp : ∀ b o, s.heap.get? b = some o → h₁.get? b = some o := fun b o e => hsb.extBut b o (Nat.ne_of_lt (Heap.lt_size e)) (Heap.get?_push_of_some _ e)
  have J : Inv (ncx C8.CX0 P w K mg base N F f A outer s H C8.E0) [] (startF N vs ws) H { s with heap := h₁, toks := s.toks + (ps.zip us).length } := inv_startN S hr.hd e0 hl r C hns kp
  refine PySem.W.kla_codeExpr (wpAny_mono (hbody.run [] _ _ H Q J ht) (fun v s' hq => ?_) fun e s' hq => hq)
  obtain ⟨w', H', J', rv, q⟩ := hq
  exact ⟨w', H', J'.os, J'.bare, J'.base, J'.hok, rv, q⟩
theorem Room.in1 {k : Nat} {A : Around} (r : Room (k + 1) A) : Room k A.in1 := ⟨r.hd, by have := r.dp; show A.depth + 3 * k + 5 < _; omega, by have := r.un; show A.units + 1 + 16 * k + 200 < _; omega⟩
/-! ### min(xs, key=f) of a list -/
section
variable {X : Cx} {pins : List (Addr × Obj)} {σ : L2.St} {H : Hp} {s : Shared}
theorem min_key_list (hcalm : X.calm = true) (I : L2.Inv X pins σ H s) {f : Addr} {fo : Obj} (hf : s.heap.get? f = some fo) (hfc : ∀ v, fo.data ≠ .cell v) (hfn : H f = none) (hfL : f ≠ X.env.locals) (hfr : f ∉ X.fs) {a : Addr} {xs : List V} (ha : H a = some (.lst xs)) (hne : 0 < xs.length) (kf : Nat → Int) {Q : VK}
    (turn : ∀ (od : Obj) (pins' : List (Addr × Obj)) (s' : Shared) (i : Nat) (v : V) (u : Value), Inv X pins' σ (upd H a (.frz od (.lst xs))) s' → s'.heap.get? f = some fo → xs[i]? = some v → RelV v u →
      codeAny (model X.prog X.w) X.A.in1 (.call (.ref f) ⟨[u], []⟩) (CR C8.CX0 X.stack X.prog X.w (upd H a (.frz od (.lst xs))) s' (fun k H' => k = .int (kf i) ∧ H' = upd H a (.frz od (.lst xs))) C8.E0) s')
    (q : ∀ od v, xs[argBest (fun i j => decide (kf i < kf j)) (xs.length - 1)]? = some v → Q v (upd H a (.frz od (.lst xs)))) :
    wpAny (model X.prog X.w) X.A (call (.builtin "min") [.ref a] [(Str.ofString "key", .ref f)]) (EP X pins σ Q) X.xe s := by
  obtain ⟨od, I0⟩ := I.lock ha (by trivial)
  have hfn0 : upd H a (.frz od (.lst xs)) f = none := by
    rw [upd_ne (fun z => by rw [z, ha] at hfn; cases hfn)]
    exact hfn
  have I1 : L2.Inv X (pins ++ [(f, fo)]) σ (upd H a (.frz od (.lst xs))) s := I0.pins_of fun p hp => by
    rcases List.mem_append.mp hp with z | z
    · exact I0.pin p (List.mem_append_right _ z)
    · have e : p = (f, fo) := by simpa using z
      subst e
      exact ⟨hf, hfn0, hfL, hfr, hfc⟩
  have haz : upd H a (.frz od (.lst xs)) a = some (.frz od (.lst xs)) := upd_same
  obtain ⟨e1, hz, its, n, rv, hob⟩ := I1.hok a _ haz
  rw [e1] at hob
  cases hob
  have hlen := rv.length
  have hlt : a < s.heap.objs.size := Heap.lt_size e1
  have dl : ∀ {s' : Shared} {pins' : List (Addr × Obj)}, Inv X pins' σ (upd H a (.frz (seqObj "list" its.toArray n) (.lst xs))) s' → s'.heap.get? a = some (seqObj "list" its.toArray n) := fun J => (J.hok a _ haz).1
  have isl : ∀ {h : Heap}, h.get? a = some (seqObj "list" its.toArray n) → h.IsList a its.toArray := fun e => ⟨_, e, rfl, n, rfl⟩
  have hd : X.A.in1.handled = none := I.ok.hd hcalm
  refine call_min_walkK (wpAny_pyIter_list (isl e1) ?_)
  have W := (Walks.list (prog := X.prog) (w := X.w) (A := X.A.in1) hd s.heap.objs.size a (Nat.ne_of_lt hlt) its.toArray).toS
  have hI : (s.heap.push { cls := .type "list_iterator", data := .fields #[.ref a, .int 0 0] }).objs.size = s.heap.objs.size + 1 := size_push' ..
  have gI : (s.heap.push { cls := .type "list_iterator", data := .fields #[.ref a, .int 0 0] }).get? s.heap.objs.size = some { cls := .type "list_iterator", data := .fields #[.ref a, .int 0 0] } := Heap.get?_push_size _ rfl
  have J0 : L2.Inv X (pins ++ [(f, fo)]) σ (upd H a (.frz (seqObj "list" its.toArray n) (.lst xs))) { s with heap := s.heap.push { cls := .type "list_iterator", data := .fields #[.ref a, .int 0 0] } } := I1.kept (t' := s.toks) fun b o e => Heap.get?_push_of_some _ e
  have fpI : FpOk X (pins ++ [(f, fo)]) (upd H a (.frz (seqObj "list" its.toArray n) (.lst xs))) s.heap.objs.size := I1.fpOk (Nat.le_refl _) (I1.hok.fresh (Nat.le_refl _))
  have fpS : FpOk X (pins ++ [(f, fo)]) (upd H a (.frz (seqObj "list" its.toArray n) (.lst xs))) (s.heap.objs.size + 1) := I1.fpOk (Nat.le_succ _) (I1.hok.fresh (Nat.le_succ _))
  refine ⟨s.heap.objs.size, _, _, _, its.toArray.size, _, _, fun s' => Inv X (pins ++ [(f, fo)]) σ (upd H a (.frz (seqObj "list" its.toArray n) (.lst xs))) s', fun i k _ => ∃ t, k = .int (kf i) t, fun i j => decide (kf i < kf j), rfl, W, ⟨⟨_, gI, rfl, rfl⟩, isl (Heap.get?_push_of_some _ e1)⟩, fun b hb => ?_, ?_, ?_, J0, fun v s' hv hJ => ?_⟩
  · show b < (s.heap.push _).objs.size
    rw [hI]
    have hb' : b = s.heap.objs.size ∨ b = a := by simpa using hb
    rcases hb' with z | z
    · rw [z]
      exact Nat.lt_succ_self _
    · rw [z]
      exact Nat.lt_succ_of_lt hlt
  · rw [List.size_toArray, ← hlen]
    exact hne
  · refine ⟨fun s1 s2 hJ hm => ?_, fun i k s1 s2 hv _ => hv, fun i v s1 o Q1 E1 hi hP hJ hst hS hQ => ?_, fun i j ki kj s1 Q1 E1 hJ hi hj hQ => ?_⟩
    · obtain ⟨m1, m2, m3, m4, m5⟩ := hm
      obtain ⟨hh, g, d, t, os'⟩ := s2
      obtain rfl : g = s1.gens := m2
      obtain rfl : d = s1.drawn := m3
      obtain rfl : os' = s1.os := m4
      refine L2.Inv.turnedL hJ (ch := (s.heap.push { cls := .type "list_iterator", data := .fields #[.ref a, .int 0 0] }).objs.size :: [s.heap.objs.size]) m1 fun b hb => ?_
      rw [hI] at hb
      rcases List.mem_cons.mp hb with z | z
      · rw [z]
        exact fpS
      · have z' : b = s.heap.objs.size := by simpa using z
        rw [z']
        exact fpI
    · have hv : its.toArray[i]? = some v := hP
      have hi' : i < xs.length := by
        rw [List.size_toArray] at hi
        omega
      have hx : xs[i]? = some xs[i] := List.getElem?_eq_getElem hi'
      have rx : RelV xs[i] v := by
        obtain ⟨u, hu, ru⟩ := rv.get hx
        have e : its.toArray[i]? = some u := by simpa using hu
        rw [hv] at e
        cases e
        exact ru
      obtain ⟨⟨oI, hoI, hoc, hod⟩, hls⟩ := hst
      rw [hI] at hS
      have nfr : ∀ b, b ≠ X.env.locals → b ∉ X.fs → b ∉ frs X.stack := fun b h1 h2 z => by
        rcases List.mem_cons.mp (hJ.stkSub b z) with e | e
        · exact h1 e
        · exact h2 e
      have hf1 : s1.heap.get? f = some fo := (hJ.pin (f, fo) (List.mem_append_right _ (List.mem_append_right _ (by simp)))).1
      refine wpAny_call (codeAny_mono (turn _ _ s1 i xs[i] v hJ hf1 hx rx) fun r s2 hq => ?_)
      cases r with
      | error e => exact False.elim hq
      | ok fl =>
        cases fl with
        | next => exact False.elim hq
        | brk => exact False.elim hq
        | cont => exact False.elim hq
        | ret u =>
          obtain ⟨k', H', os, bare, un, hok, ru, rfl, rfl⟩ := hq
          obtain ⟨t, rfl⟩ := ru
          have J2 : L2.Inv X (pins ++ [(f, fo)]) σ (upd H a (.frz (seqObj "list" its.toArray n) (.lst xs))) s2 := hJ.call' os un hok bare (fun b z => absurd z (by simp))
          refine hQ _ s2 J2 ⟨⟨oI, un.keep _ _ hoI fpI.1 (nfr _ fpI.2.1 fpI.2.2.1) (by simp), hoc, hod⟩, isl (dl J2)⟩ ?_ ⟨t, rfl⟩ fun j k' h => h
          rw [hI]
          exact un.keep _ _ hS fpS.1 (nfr _ fpS.2.1 fpS.2.2.1) (by simp)
    · obtain ⟨t1, rfl⟩ := hi
      obtain ⟨t2, rfl⟩ := hj
      exact CmpOf.ints_lt (prog := X.prog) (w := X.w) (A := X.A.in1) (P := fun i v => ∃ t, v = .int (kf i) t) kf (fun i v h => h) i j _ _ _ _ _ ⟨t1, rfl⟩ ⟨t2, rfl⟩ hQ
  · have hv' : its.toArray[argBest (fun i j => decide (kf i < kf j)) (its.toArray.size - 1)]? = some v := hv
    rw [List.size_toArray, ← hlen] at hv'
    have hb : argBest (fun i j => decide (kf i < kf j)) (xs.length - 1) < its.length := by
      obtain ⟨h1, _⟩ := Array.getElem?_eq_some_iff.mp hv'
      simpa using h1
    have hx : xs[argBest (fun i j => decide (kf i < kf j)) (xs.length - 1)]? = some (xs[argBest (fun i j => decide (kf i < kf j)) (xs.length - 1)]'(by omega)) := List.getElem?_eq_getElem (by omega)
    obtain ⟨u, hu, ru⟩ := rv.get hx
    have e : its.toArray[argBest (fun i j => decide (kf i < kf j)) (xs.length - 1)]? = some u := by simpa using hu
    rw [hv'] at e
    cases e
    exact ⟨_, _, hJ.unpinned, ru, q _ _ hx⟩
/-! ### min(e, key=lambda ..) -/
theorem Tabs.upd {T : List (Addr × Str)} {H : Hp} {a : Addr} {xs : List V} {o : HO} (t : Tabs T H) (h : H a = some (.lst xs)) : Tabs T (upd H a o) := fun p hp => by
  obtain ⟨ps, h1, h2, h3⟩ := t p hp
  refine ⟨ps, ?_, h2, fun pos cv hc => ?_⟩
  · rw [upd_ne (ne_of h1 h (by intro z; cases z))]
    exact h1
  · obtain ⟨c, e1, e2⟩ := h3 pos cv hc
    refine ⟨c, e1, ?_⟩
    rw [upd_ne (ne_of e2 h (by intro z; unfold CodeO at z; cases z))]
    exact e2
theorem Tups.ofN {H H' : Hp} (e : ExtN H H') : Tups H H' := ⟨fun b xs h => e b _ h (by intro ps z; cases z), fun b o xs h => e b _ h (by intro ps z; cases z)⟩
def bestN (kf : Nat → Int) (n : Nat) : Nat := argBest (fun i j => decide (kf i < kf j)) (n - 1)
def tMinKey (T : List (Addr × Str)) (ta : TA) (js : List Nat) (N : List Str) (tb : TE) : TE := fun σ H Q => ta σ H fun vs H1 => Tabs T H1 ∧ ∃ (a : Addr) (xs : List V) (kf : Nat → Int), vs = [.ref a] ∧ H1 a = some (.lst xs) ∧ 0 < xs.length ∧
  (∀ (H2 : Hp) (i : Nat) (x : V) (Q' : VK), Tups H1 H2 → xs[i]? = some x → Q' (.int (kf i)) H2 → tb (startF N [x] (js.map (slotAt σ))) H2 Q') ∧
  ∀ (H2 : Hp) (od : Obj) (x : V), ExtN H1 H2 → Tabs T H2 → xs[bestN kf xs.length]? = some x → Q x (L2.upd H2 a (.frz od (.lst xs)))
theorem pe_minkey {T : List (Addr × Str)} {c P : Addr} {p pos kpos lpos : Pos} {e : Expr} {ta : TA} {tb : TE} {params : Arguments} {body : Expr} {scope : Scope} {N ps fr : List Str} {js : List Nat} {k : Nat}
    (hcalm : X.calm = true) (hg : Gl X "min") (hm : X.mg "min" = none) (ha : PA X [e] ta)
    (TB : TabB X.base X.mg c P) (hcode : X.env.code = .ref c) (hmT : (P, X.env.qual ++ "<lambda>") ∈ T) (hu : ∀ p ∈ T, p.1 = P → p.2 = X.env.qual ++ "<lambda>") (hr : Room (k + 2) X.A)
    (S : NScope N ps fr scope) (hps : ps.length = 1) (hfree : ∀ y ∈ scope.names, y.2 = .free → X.env.scope.names.lookup y.1 = some .cell ∨ X.env.scope.names.lookup y.1 = some .free) (hfr : ∀ y ∈ fr, (y, NameKind.free) ∈ scope.names) (hjs : js.map (fun j => X.N[j]?) = fr.map some)
    (hdef : defaultsOf params X.env = ([], [])) (hbind : ∀ (q : Str) (cl : List (Str × Addr)) (pm cv ctv u : Value), bindArgs (PySem.W.kla_fn "<lambda>" q params body scope cl pm cv ctv) ⟨[u], []⟩ = pure (ps.zip [u]))
    (hbody : ∀ (c' f : Addr) (A : Around) (outer : List Env) (s : Shared) (H : Hp), PE (ncx C8.CX0 X.prog X.w X.K X.mg X.base N (lamF X params scope c') f A outer s H C8.E0) body tb)
    (he : backTo pos (starEach [e] X.env) = (false, eval e X.env) :: backTo pos (starEach [] X.env) := by rfl) (hpl : (backTo pos (starEach [e] X.env)).any (·.1) = false := by rfl) :
    PE X (.Call (.Name "min" p) [e] [⟨some "key", .Lambda params body scope lpos, kpos⟩] pos) (tMinKey T ta js N tb) := by
  refine ⟨fun pins s σ H Q I h => ?_⟩
  refine wpAny_Call_Name_kw (ld_blt I hg hm b_min ?_ (by decide) (by decide))
  refine PyProof.Rows.callWith_kw (thn (ha.run pos pins s σ H _ I h) fun us s1 ⟨vs, H1, I1, r1, q1⟩ => ?_) he hpl rfl rfl
  obtain ⟨hT, a, xs, kf, rfl, hax, hne, hb, hq⟩ := q1
  obtain rfl := Vals.ref1 r1
  show wpAny _ _ (evalAll ((do let v ← eval (.Lambda params body scope lpos) X.env; standAt pos; pure v) :: [])) _ _ _
  refine wpAny_evalAll_cons (wpAny_bind (lam_make2 I1 TB hcode hmT hu hT hdef (fun y hy e => (hfree y hy e).elim (fun z => I1.ok.has _ (.inl z)) fun z => I1.ok.has _ (.inr z)) fun f c' pm' ctv H2 s' I2 eN T2 hf hfn hfr' hco => wpAny_bind (wpAny_standAt (wpAny_pure (wpAny_evalAll_nil ?_)))))
  have hax2 : H2 a = some (.lst xs) := eN _ _ hax (by intro ps z; cases z)
  have hfL : f ≠ X.env.locals := fun z => by
    obtain ⟨m, ⟨o, es, ep, ho, hd, _⟩, _⟩ := I2.loc
    rw [z, ho] at hf
    cases hf
    cases hd
  have hfs : f ∉ X.fs := fun z => hfr' (by
    rcases I2.ok.stk with e | ⟨e, hfm⟩
    · rw [e]
      exact z
    · rw [e]
      unfold frs at *
      simp only [List.filterMap_cons]
      split
      · exact z
      · exact List.mem_cons_of_mem _ z)
  show wpAny _ _ (call (.builtin "min") [.ref a] [(Str.ofString "key", .ref f)]) _ _ _
  refine min_key_list hcalm I2 hf (fun v z => by cases z) hfn hfL hfs hax2 hne kf (fun od pins' s3 i v u J hf3 hx rx => ?_) fun od v hv => hq H2 od v eN T2 hv
  have hco' : L2.upd H2 a (.frz od (.lst xs)) c' = some (CodeO c' (X.env.qual ++ "<lambda>")) := by
    rw [upd_ne (ne_of hco hax2 (by intro z; unfold CodeO at z; cases z))]
    exact hco
  refine lam_run (F := lamF X params scope c') (k := k) (ps := ps) S hr.in1 J.env0.in1 hf3 (codeO_at J.hok hco') (hbind _ _ _ _ _ u) (by rw [hps]; rfl) (.cons rx .nil) (cells_of J (Caps.made J.ok hfree hfr hjs)) (hbody _ _ _ _ _ _) ?_
  exact hb _ i v _ ((Tups.ofN eN).trans ⟨fun b ys e => by
    rw [upd_ne (ne_of e hax2 (by intro z; cases z))]
    exact e, fun b o ys e => by
    rw [upd_ne (ne_of e hax2 (by intro z; cases z))]
    exact e⟩) hx ⟨rfl, rfl⟩
end
/-! ### a def whose code object is known -/
structure DnL (K : PySem.W.Frag) (mg : Str → Option Value) (x : Str) (st : Stmt) (ps : List Str) (c : Addr) : Prop where
  ex : ∃ (f : Addr) (oc : Value) (od : Option Addr) (kV doc pm : Value) (an : Option Addr) (ct : Value) (osl : Array (Option Value)),
    K.lookup f = some ⟨oc, od, .func (PySem.W.fnOf x x (defArgs st) (defBody st) (defScope st) .none kV doc pm an (.ref c) ct), osl⟩ ∧ PySem.W.codeIn K (.ref c) x = true ∧ PySem.W.keepIn K (.ref f) = true ∧ mg x = some (.ref f) ∧ Binds K (PySem.W.fnOf x x (defArgs st) (defBody st) (defScope st) .none kV doc pm an (.ref c) ct) ps []
theorem DnL.cal {P : Program} {w : World} {K : PySem.W.Frag} {mg : Str → Option Value} {base : Heap} {x : Str} {st : Stmt} {N ps : List Str} {k : Nat} {sp : Sp} {c : Addr} (D : DnL K mg x st ps c) (S : FnScope N ps (defScope st)) (len : ∀ vs H Q E, sp vs H Q E → vs.length = ps.length)
    (hbody : ∀ (f : Addr) (A : Around) (outer : List Env) (s : Shared) (H : Hp) (vs : List V) (Q : VK) (E : XK), Room k (A.deeper (envOfC x (defScope st) s.heap.objs.size f (.ref c))) → sp vs H Q E →
      ∃ t, PSs (cxOf CX0 P w K mg base N x (defScope st) f (.ref c) A outer s H E).nox (defBody st) t ∧ t { nx := fun _ H' => Q .non H', rt := Q } (start N vs) H) : C8.Cal P w K mg base (k + 1) x sp [] := by
  obtain ⟨f, oc, od, kV, doc, pm, an, ct, osl, lk, hcd, hk, hm, hb⟩ := D.ex
  exact ⟨f, _, ps, [], fn_of lk hcd S len fun A outer s H vs Q E hr hsp => by
    obtain ⟨t, h, q⟩ := hbody f A outer s H vs Q E hr hsp
    exact ⟨t, h.nox, q⟩, hm, hk, hb, .nil⟩
theorem dnL_mk {K : PySem.W.Frag} {mg : Str → Option Value} {x : Str} {st : Stmt} {ps : List Str} {h : Heap} {f c : Addr} {oc : Value} {od an : Option Addr} {osl : Array (Option Value)} {kV doc pm ct : Value} (X : K.In h) (G : h.Ns mainGlobals mg)
    (a : PySem.W.nsIn K mainGlobals x = some (some (.ref f))) (l : K.lookup f = some ⟨oc, od, .func (PySem.W.fnOf x x (defArgs st) (defBody st) (defScope st) .none kV doc pm an (.ref c) ct), osl⟩)
    (hc : PySem.W.codeIn K (.ref c) x = true) (k : PySem.W.keepIn K (.ref f) = true)
    (hb : ∀ (kV doc pm : Value) (an : Option Addr) (cdv ct : Value) (us : List Value), us.length = ps.length → bindArgs (PySem.W.fnOf x x (defArgs st) (defBody st) (defScope st) .none kV doc pm an cdv ct) ⟨us, []⟩ = pure (ps.zip us)) : DnL K mg x st ps c :=
  ⟨f, oc, od, kV, doc, pm, an, ct, osl, l, hc, k, PySem.W.mg_of X G a, .all (hb kV doc pm an (.ref c) ct)⟩
def lamQ : Str := (("cheapest_way" : Str) ++ ".<locals>.") ++ "<lambda>"
end SK
namespace SK
open PySem PySem.Spec PyProof.Rows L2 LamX NdefX
section
variable {X : Cx}
/-- min(t) of a tuple of ints -/
def rMinT (K : PySem.W.Frag) : List V → Hp → VK → Prop := fun vs H Q => ∃ (a : Addr) (ns : List Int), vs = [V.ref a] ∧ SqT K H a (ns.map V.int) ∧ 0 < ns.length ∧ ∀ m, m ∈ ns → (∀ y, y ∈ ns → m ≤ y) → Q (.int m) H
theorem cr_minT (hc : X.calm = true) : CallR X (.builtin "min") (rMinT X.K) := by
  intro pins s σ H vs us Q I r h
  obtain ⟨a, ns, rfl, hs, hne, q⟩ := h
  obtain ⟨its, rv, hl, _⟩ := I.tuple hs
  rw [Vals.ref1 r]
  have hi := rv.ints
  obtain ⟨xs, e⟩ := hi.allInts.items
  have hn : numsOf (intItems xs).toList = ns := by rw [← e]; exact hi.numsOf
  rw [nums_intItems] at hn
  subst hn
  rw [e] at hl
  have hsz : 0 < xs.size := by simpa using hne
  obtain ⟨ob, hob, hcl, n, hd⟩ := id hl
  have hlt : a < s.heap.objs.size := Heap.lt_size hob
  have hT : s.heap.IsTuple a (intItems xs) := hl
  refine call_min_walk (wpAny_pyIter_tuple hT ?_)
  refine ⟨_, _, _, _, _, _, _, rfl, Walks.tuple (A := X.A.in1) (I.ok.hd hc) _ a (Nat.ne_of_lt hlt) (intItems xs), ⟨⟨_, Heap.get?_push_size _ rfl, rfl, rfl⟩, hT.push _⟩, fun b hb => ?_, by simpa [intItems] using hsz, CmpOf.ints_lt (numAt xs) (fun _ _ => intItems_at), fun v h' tk hP hk => ?_⟩
  · show b < (s.heap.push _).objs.size
    rw [Heap.size_push]
    rcases List.mem_cons.mp hb with rfl | hb
    · exact Nat.lt_succ_self _
    · rcases List.mem_cons.mp hb with rfl | hb
      · exact Nat.lt_succ_of_lt hlt
      · cases hb
  · have hv : (intItems xs)[argBest (fun i j => decide (numAt xs i < numAt xs j)) (xs.size - 1)]? = some v := by simpa [intItems] using hP
    obtain ⟨t, rfl⟩ := intItems_at hv
    obtain ⟨h1, h2⟩ := argBest_lt (numAt xs) (xs.size - 1)
    have hk' : ∀ b o, s.heap.get? b = some o → h'.get? b = some o := fun b o e => by
      refine hk b o (fun hm => ?_) (Heap.get?_push_of_some _ e)
      rcases List.mem_cons.mp hm with e1 | hm
      · exact absurd (e1 ▸ Heap.lt_size e) (Nat.lt_irrefl _)
      · cases hm
    refine ⟨.int _, H, I.kept hk', ⟨_, rfl⟩, q _ ?_ fun y ha => ?_⟩
    · rw [numAt_eq]; exact PySem.getD_mem (by rw [List.length_map, Array.length_toList]; omega)
    · obtain ⟨j, hj, rfl⟩ := mem_getD ha
      rw [List.length_map, Array.length_toList] at hj
      rw [← numAt_eq]; exact h2 j (by omega)
/-- t.index(i), the first place, of ints -/
def rTIdx (K : PySem.W.Frag) : V → List V → Hp → VK → Prop := fun x xs H Q => ∃ p, ∃ ys : List Int, ∃ z j, x = .ref p ∧ xs = [.int z] ∧ SqT K H p (ys.map V.int) ∧ ys[j]? = some z ∧ (∀ m, m < j → ys[m]? ≠ some z) ∧ Q (.int (j : Nat)) H
theorem flat_ints (ys : List Int) : (ys.map V.int).all flatV = true := by
  rw [List.all_map]
  exact List.all_eq_true.mpr fun _ _ => rfl
theorem mt_tup_indexI : MtR X "tuple.index" (rTIdx X.K) := by
  intro pins s σ H x xs v us Q I rx rs h
  obtain ⟨p, ys, z, j, rfl, rfl, hq, hy, hno, q⟩ := h
  cases rx
  obtain ⟨u, rfl, t, rfl⟩ := vals1 rs
  obtain ⟨its, r, pl, hz⟩ := I.tuple hq
  obtain ⟨⟨cls, dd, dt, sl⟩, ho, hc, n, hd⟩ := pl
  simp only at hc hd
  subst hc
  subst hd
  have hl : its.toArray.size = ys.length := by rw [List.size_toArray, ← r.length, List.length_map]
  have hj : j < its.toArray.size := by rw [hl]; exact (List.getElem?_eq_some_iff.mp hy).1
  have at' : ∀ (m : Nat) (hm : m < its.toArray.size), ∃ y t', ys[m]? = some y ∧ its.toArray[m] = Value.int y t' := fun m hm => by
    have hm' : m < ys.length := by rw [← hl]; exact hm
    obtain ⟨w, hw, t', hw'⟩ := r.get (i := m) (x := .int ys[m]) (by simp [hm'])
    refine ⟨ys[m], t', List.getElem?_eq_getElem hm', ?_⟩
    have e := (List.getElem?_eq_some_iff.mp hw).2
    rw [← hw', ← e]
    simp
  have mt : ∀ (m : Nat) (hm : m < its.toArray.size), ∀ y, ys[m]? = some y → eqU (.int z) its.toArray[m] = eqV (.int y) (.int z) := fun m hm y h1 => by
    obtain ⟨y', t', h2, h3⟩ := at' m hm
    rw [h1] at h2
    cases h2
    rw [h3]
    exact eqU_of (show RelV (.int y) (Value.int y t') from ⟨t', rfl⟩) rfl
  refine call_meets PySem.F.slot_tuple_index ⟨_, ho, rfl⟩ PySem.F.entry_tuple_index (PySem.F.args_tuple_index_2 _ _) (TI.tuple_indexAt p its.toArray n dd sl (.int z t) (eqU (.int z)) j hj ?_ ?_)
    ⟨ho, fun w hw => mem_eqAt (x := .int z) ⟨t, rfl⟩ rfl r (flat_ints ys) w (by simpa using hw), ⟨.int (j : Nat), H, I.tok _, ⟨_, rfl⟩, q⟩⟩
  · rw [mt j hj z hy]
    show (z == z) = true
    exact beq_self_eq_true z
  · intro m hm hmj
    obtain ⟨y, t', h1, h2⟩ := at' m hm
    rw [mt m hm y h1]
    show (y == z) = false
    exact beq_eq_false_iff_ne.mpr fun e => hno m hmj (e ▸ h1)
end
theorem b_abs : bootBuiltins "abs" = some (.builtin "abs") := by decide +kernel
end SK
namespace SK
open PySem PySem.Spec PyProof.Rows L2 LamX
/-! ### the least price, the cheapest sign, the cheapest way -/
def mnI : List Int → Int
  | [] => 0
  | [x] => x
  | x :: y :: r => min x (mnI (y :: r))
theorem mnI_le : ∀ (l : List Int), ∀ y ∈ l, mnI l ≤ y
  | [], y, h => by cases h
  | [x], y, h => by
    have e : y = x := by simpa using h
    rw [e]
    exact Int.le_refl _
  | x :: z :: r, y, h => by
    have ih := mnI_le (z :: r)
    show min x (mnI (z :: r)) ≤ y
    rcases List.mem_cons.mp h with e | e
    · omega
    · have := ih y e
      omega
theorem mnI_mem : ∀ (l : List Int), l ≠ [] → mnI l ∈ l
  | [], h => absurd rfl h
  | [x], _ => by simp [mnI]
  | x :: z :: r, _ => by
    have ih := mnI_mem (z :: r) (by simp)
    show min x (mnI (z :: r)) ∈ x :: z :: r
    by_cases h : x ≤ mnI (z :: r)
    · rw [Int.min_eq_left h]
      exact List.mem_cons_self ..
    · rw [Int.min_eq_right (by omega)]
      exact List.mem_cons_of_mem _ ih
theorem mnI_of {l : List Int} {m : Int} (h1 : m ∈ l) (h2 : ∀ y ∈ l, m ≤ y) : m = mnI l := by
  have a := h2 _ (mnI_mem l (by intro z; rw [z] at h1; cases h1))
  have b := mnI_le l m h1
  omega
def csg (p : Pl) : Nat := 97 + p.pr.idxOf (mnI p.pr)
theorem signs_mem {many c : Nat} (hm : many ≤ 4) : c ∈ signs many ↔ 97 ≤ c ∧ c < 97 + many := by
  have h : many = 0 ∨ many = 1 ∨ many = 2 ∨ many = 3 ∨ many = 4 := by omega
  rcases h with h | h | h | h | h <;> subst h <;> simp [signs] <;> omega
theorem Pl.Ok.ne {p : Pl} (ok : p.Ok) : p.pr ≠ [] := fun z => by
  have h1 := ok.pl
  have h2 := ok.m1
  rw [z] at h1
  simp at h1
  omega
theorem csg_lt {p : Pl} (ok : p.Ok) : p.pr.idxOf (mnI p.pr) < p.many := by
  rw [← ok.pl]
  exact List.idxOf_lt_length_iff.mpr (mnI_mem _ ok.ne)
theorem csg_in {p : Pl} (ok : p.Ok) : csg p ∈ signs p.many := by
  have := csg_lt ok
  exact (signs_mem ok.m4).mpr ⟨by unfold csg; omega, by unfold csg; omega⟩
theorem cst_csg {p : Pl} (ok : p.Ok) : cst p (csg p) = mnI p.pr := by
  have h := csg_lt ok
  have h2 : p.pr.idxOf (mnI p.pr) < p.pr.length := by rw [ok.pl]; exact h
  unfold cst csg
  rw [if_neg (by omega), Nat.add_sub_cancel_left]
  simp [List.getD, List.getElem?_eq_getElem h2, List.getElem_idxOf h2]
theorem mn_in {p : Pl} (ok : p.Ok) : 1 ≤ mnI p.pr ∧ mnI p.pr ≤ 99 := ok.pr _ (mnI_mem _ ok.ne)
theorem cst_sign {p : Pl} (ok : p.Ok) {c : Nat} (h : c ∈ signs p.many) : cst p c ∈ p.pr := by
  have h' := (signs_mem ok.m4).mp h
  unfold cst
  rw [if_neg (by omega)]
  have h2 : c - 97 < p.pr.length := by rw [ok.pl]; omega
  simp [List.getD, List.getElem?_eq_getElem h2]
theorem cst_in {p : Pl} (ok : p.Ok) {c : Nat} (h : c = 45 ∨ c ∈ signs p.many) : 1 ≤ cst p c ∧ cst p c ≤ 99 := by
  by_cases e : c = 45
  · unfold cst
    rw [if_pos e]
    exact ⟨ok.q1, ok.q9⟩
  · exact ok.pr _ (cst_sign ok (h.resolve_left e))
theorem pay_p {p : Pl} (ok : p.Ok) : Pay p.many (mnI p.pr) p.pop (cst p) := by
  have := mn_in ok
  have := ok.q1
  exact ⟨by unfold cst; rw [if_pos rfl], fun c hc => mnI_le _ _ (cst_sign ok hc), by omega, by omega⟩
theorem pay_1 (many : Nat) : Pay many 1 1 (fun _ => 1) := ⟨rfl, fun _ _ => Int.le_refl _, by decide, by decide⟩
def wkey (p : Pl) (w : Nat × Nat) : Int := (w.1 : Int) * p.pop + (w.2 : Int) * (mnI p.pr + p.pop)
def chW (p : Pl) (t : Tr) : Nat × Nat := (ways p.room t).getD (bestN (fun i => wkey p ((ways p.room t).getD i (0, 0))) (ways p.room t).length) (0, 0)
theorem chW_k {p : Pl} {t : Tr} (h : t.k ≠ 0) : chW p t = (t.g, phi p.room t) := by
  unfold chW ways
  rw [if_neg h]
  rfl
theorem chW_0 {p : Pl} {t : Tr} (h : t.k = 0) : chW p t = if wkey p (p.room, 0) < wkey p (0, p.room - t.l.length) then (p.room, 0) else (0, p.room - t.l.length) := by
  unfold chW ways
  rw [if_pos h]
  show [(0, p.room - t.l.length), (p.room, 0)].getD (if decide (wkey p (p.room, 0) < wkey p (0, p.room - t.l.length)) = true then 1 else 0) (0, 0) = _
  by_cases c : wkey p (p.room, 0) < wkey p (0, p.room - t.l.length)
  · rw [decide_eq_true c, if_pos rfl, if_pos c]
    rfl
  · rw [decide_eq_false c, if_neg (by decide), if_neg c]
    rfl
theorem chW_mem (p : Pl) (t : Tr) : chW p t ∈ ways p.room t := by
  by_cases h : t.k = 0
  · rw [chW_0 h]
    unfold ways
    rw [if_pos h]
    split <;> simp
  · rw [chW_k h]
    unfold ways
    rw [if_neg h]
    simp
theorem wprice_key (p : Pl) (t : Tr) (w : Nat × Nat) : wprice (mnI p.pr) p.pop (cst p) t.l w = wkey p w + sprc (cst p) t.l := by
  unfold wprice wkey
  omega
theorem chW_LB (p : Pl) (t : Tr) : wprice (mnI p.pr) p.pop (cst p) t.l (chW p t) = LB p.room (mnI p.pr) p.pop (cst p) t := by
  unfold LB
  by_cases h : t.k = 0
  · rw [if_pos h, chW_0 h]
    simp only [wprice_key]
    split <;> omega
  · rw [if_neg h, chW_k h]
theorem ways_le {p : Pl} (ok : p.Ok) {t : Tr} (a : TrOk p.room p.many t) {w : Nat × Nat} (h : w ∈ ways p.room t) : w.1 ≤ 9 ∧ w.2 ≤ 9 := by
  have := ok.r9
  have := a.gk
  unfold ways at h
  split at h
  · rcases List.mem_cons.mp h with e | e
    · rw [e]
      exact ⟨by omega, by show p.room - _ ≤ 9; omega⟩
    · have e' : w = (p.room, 0) := by simpa using e
      rw [e']
      exact ⟨by show p.room ≤ 9; omega, by show 0 ≤ 9; omega⟩
  · have e' : w = (t.g, phi p.room t) := by simpa using h
    rw [e']
    exact ⟨by show t.g ≤ 9; omega, by show phi p.room t ≤ 9; unfold phi; omega⟩
/-- the cheapest steps -/
def chS (p : Pl) (t : Tr) : List Nat := wayS (csg p) (chW p t) t.l
theorem chS_in {p : Pl} (ok : p.Ok) {t : Tr} (a : TrOk p.room p.many t) : ∀ c ∈ chS p t, c = 45 ∨ c ∈ signs p.many := way_in (csg_in ok) a.s
theorem chS_told {p : Pl} (ok : p.Ok) {t : Tr} (a : TrOk p.room p.many t) : ttold p.room (chS p t) = t := way_told ok.r1 a (csg_in ok) (chW_mem p t)
theorem chS_price {p : Pl} (ok : p.Ok) (t : Tr) : sprc (cst p) (chS p t) = LB p.room (mnI p.pr) p.pop (cst p) t := by
  unfold chS
  rw [way_price (pay_p ok) (cst_csg ok), chW_LB]
theorem chS_len {p : Pl} (ok : p.Ok) {t : Tr} (a : TrOk p.room p.many t) : (chS p t).length ≤ 40 := by
  have h := ways_le ok a (chW_mem p t)
  have := ok.r9
  have := a.kl
  unfold chS
  rw [way_len]
  omega
def few (p : Pl) (t : Tr) : Int := LB p.room 1 1 (fun _ => 1) t
theorem sprc_1 (l : List Nat) : sprc (fun _ => 1) l = (l.length : Int) := by
  induction l with
  | nil => rfl
  | cons c r ih =>
    have e : sprc (fun _ => 1) (c :: r) = 1 + sprc (fun _ => 1) r := by simp [sprc]
    rw [e, ih]
    simp
    omega
/-! ### pairs of ints in the heap -/
def PairsAt (H : Hp) : List (Nat × Nat) → List V → Prop
  | [], vs => vs = []
  | w :: r, vs => ∃ a s, vs = .ref a :: s ∧ H a = some (.tup [.int (w.1 : Int), .int (w.2 : Int)]) ∧ PairsAt H r s
theorem PairsAt.tups {H H' : Hp} (e : Tups H H') : ∀ {ws : List (Nat × Nat)} {vs : List V}, PairsAt H ws vs → PairsAt H' ws vs
  | [], _, h => h
  | _ :: _, _, ⟨a, s, h1, h2, h3⟩ => ⟨a, s, h1, e _ _ h2, h3.tups e⟩
theorem PairsAt.len {H : Hp} : ∀ {ws : List (Nat × Nat)} {vs : List V}, PairsAt H ws vs → vs.length = ws.length
  | [], _, h => by cases h; rfl
  | _ :: r, _, ⟨a, s, h1, h2, h3⟩ => by
    subst h1
    show s.length + 1 = r.length + 1
    rw [h3.len]
theorem PairsAt.get {H : Hp} : ∀ {ws : List (Nat × Nat)} {vs : List V}, PairsAt H ws vs → ∀ {i : Nat} {x : V}, vs[i]? = some x → ∃ w a, ws[i]? = some w ∧ x = .ref a ∧ H a = some (.tup [.int (w.1 : Int), .int (w.2 : Int)])
  | [], vs, h, i, x, e => by
    cases h
    cases e
  | w :: r, vs, ⟨a, s, h1, h2, h3⟩, i, x, e => by
    subst h1
    cases i with
    | zero =>
      cases e
      exact ⟨w, a, rfl, rfl, h2⟩
    | succ i => exact h3.get (i := i) e
/-! ### all but the tables stands -/
def givN (T : List (Addr × Str)) (v : V) (H : Hp) (Q : VK) : Prop := ∀ H', ExtN H H' → Tabs T H' → Q v H'
theorem ExtN.ofS {H H' : Hp} (s : Same H H') : ExtN H H' := fun b o h _ => s b o h
theorem Tabs.same {T : List (Addr × Str)} {H H' : Hp} (t : Tabs T H) (s : Same H H') : Tabs T H' := t.ext s
theorem PlanAt.ext {H H' : Hp} {v : V} {p : Pl} (h : PlanAt H v p) (e : ExtN H H') : PlanAt H' v p := h.tups (Tups.ofN e)
theorem TripAt.ext {H H' : Hp} {v : V} {t : Tr} (h : TripAt H v t) (e : ExtN H H') : TripAt H' v t := h.tups (Tups.ofN e)
theorem BoxAt.ext {H H' : Hp} {p q : Addr} {ns : List Int} {z : Int} (h : BoxAt H p q ns z) (e : ExtN H H') : BoxAt H' p q ns z := ⟨e _ _ h.b (by intro ps z; cases z), e _ _ h.l (by intro ps z; cases z), h.ne⟩
theorem Tabs.keep {T : List (Addr × Str)} {H H' : Hp} {p q : Addr} {ns : List Int} {z : Int} (t : Tabs T H) (b : BoxAt H p q ns z) (k : Keep p q H H') : Tabs T H' := fun x hx => by
  obtain ⟨ps, h1, h2, h3⟩ := t x hx
  refine ⟨ps, ?_, h2, fun pos cv hc => ?_⟩
  · exact k _ _ h1 (ne_of h1 b.b (by intro z; cases z)) (ne_of h1 b.l (by intro z; cases z))
  · obtain ⟨c, e1, e2⟩ := h3 pos cv hc
    exact ⟨c, e1, k _ _ e2 (ne_of e2 b.b (by intro z; unfold CodeO at z; cases z)) (ne_of e2 b.l (by intro z; unfold CodeO at z; cases z))⟩
/-! ### promises -/
def spPSteps : Sp := fun vs H Q _ => ∃ v p l, vs = [v, .str (tx l)] ∧ PlanAt H v p ∧ p.Ok ∧ l.length ≤ 10000 ∧ (∀ c ∈ l, c = 45 ∨ c ∈ signs p.many) ∧ giv (.int (sprc (cst p) l)) H Q
def spWays : Sp := fun vs H Q _ => ∃ v p u t, vs = [v, u] ∧ PlanAt H v p ∧ p.Ok ∧ TripAt H u t ∧ TrOk p.room p.many t ∧ ∀ (D : Addr) (H' : Hp) (xs : List V), Same H H' → H D = none → H' D = some (.lst xs) → PairsAt H' (ways p.room t) xs → Q (.ref D) H'
def spCSign : Sp := fun vs H Q _ => ∃ v p, vs = [v] ∧ PlanAt H v p ∧ p.Ok ∧ giv (.str (tx [csg p])) H Q
def spStepsW : Sp := fun vs H Q _ => ∃ v p a w l, vs = [v, .ref a, .str (tx l)] ∧ PlanAt H v p ∧ p.Ok ∧ H a = some (.tup [.int ((w : Nat × Nat).1 : Int), .int (w.2 : Int)]) ∧ w.1 ≤ 9 ∧ w.2 ≤ 9 ∧ l.length ≤ 9 ∧ giv (.str (tx (wayS (csg p) w l))) H Q
def spChWay (T : List (Addr × Str)) : Sp := fun vs H Q _ => ∃ v p u t, vs = [v, u] ∧ PlanAt H v p ∧ p.Ok ∧ TripAt H u t ∧ TrOk p.room p.many t ∧ Tabs T H ∧ ∀ (a : Addr) (H' : Hp), ExtN H H' → Tabs T H' → H' a = some (.tup [.int ((chW p t).1 : Int), .int ((chW p t).2 : Int)]) → Q (.ref a) H'
def spCheap (T : List (Addr × Str)) : Sp := fun vs H Q _ => ∃ v p u t, vs = [v, u] ∧ PlanAt H v p ∧ p.Ok ∧ TripAt H u t ∧ TrOk p.room p.many t ∧ Tabs T H ∧ ∀ (a : Addr) (H' : Hp), ExtN H H' → Tabs T H' → H' a = some (.tup [.int (LB p.room (mnI p.pr) p.pop (cst p) t), .str (tx (chS p t))]) → Q (.ref a) H'
def spFill (T : List (Addr × Str)) : Sp := fun vs H Q _ => ∃ v p u t, vs = [v, u] ∧ PlanAt H v p ∧ p.Ok ∧ TripAt H u t ∧ TrOk p.room p.many t ∧ Tabs T H ∧ givN T (.int ((chW p t).2 : Int)) H Q
def spFew : Sp := fun vs H Q _ => ∃ v p u t, vs = [v, u] ∧ PlanAt H v p ∧ p.Ok ∧ TripAt H u t ∧ TrOk p.room p.many t ∧ giv (.int (few p t)) H Q
def spJudged : Sp := fun vs H Q _ => ∃ v p u t l, vs = [v, u, .str (tx l)] ∧ PlanAt H v p ∧ p.Ok ∧ TripAt H u t ∧ TrOk p.room p.many t ∧ l.length ≤ 10000 ∧ (∀ c ∈ l, c = 45 ∨ c ∈ signs p.many) ∧ ttold p.room l = t ∧ giv (.int (sprc (cst p) l)) H Q
def spLawT (K : PySem.W.Frag) (T : List (Addr × Str)) : Sp := fun vs H Q _ => ∃ (a : Addr) (ns : List Int), vs = [.ref a] ∧ SqL K H a (ns.map V.int) ∧ ns.length ≤ 63 ∧ Tabs T H ∧ ∀ H', Q (.bl true) H'
end SK
/-! what comes ahead of a stack: the mathematics of row 7 -/
namespace SK
/-! ### all texts of one size, in turn -/
theorem lay_add (many a : Nat) : ∀ b, lay many (a + b) = (lay many a).flatMap fun x => (lay many b).map fun y => x ++ y
  | 0 => by
    show lay many a = (lay many a).flatMap fun x => [x ++ []]
    have e : (fun x : List Nat => [x ++ []]) = fun x => [x] := funext fun x => by rw [List.append_nil]
    rw [e]
    induction lay many a with
    | nil => rfl
    | cons x r ih => rw [List.flatMap_cons, ← ih]; rfl
  | b + 1 => by
    show (lay many (a + b)).flatMap (fun l => (signs many).map fun c => l ++ [c]) = _
    rw [lay_add many a b, List.flatMap_assoc]
    refine congrArg (fun f => (lay many a).flatMap f) (funext fun x => ?_)
    show _ = (((lay many b).flatMap fun l => (signs many).map fun c => l ++ [c])).map fun y => x ++ y
    rw [List.map_flatMap, List.flatMap_map]
    refine congrArg (fun f => (lay many b).flatMap f) (funext fun y => ?_)
    rw [List.map_map]
    refine congrArg (fun f => (signs many).map f) (funext fun c => ?_)
    show x ++ y ++ [c] = x ++ (y ++ [c])
    rw [List.append_assoc]
theorem lex_snoc {x y : List Nat} (h : x < y) (hl : x.length = y.length) (c d : Nat) : x ++ [c] < y ++ [d] := by
  induction x generalizing y with
  | nil =>
    cases y with
    | nil => exact absurd h (List.lt_irrefl _)
    | cons b y => cases hl
  | cons a x ih =>
    cases y with
    | nil => cases hl
    | cons b y =>
      rcases List.cons_lt_cons_iff.mp h with h1 | ⟨h1, h2⟩
      · exact List.cons_lt_cons_iff.mpr (.inl h1)
      · exact List.cons_lt_cons_iff.mpr (.inr ⟨h1, ih h2 (Nat.succ.inj hl)⟩)
theorem lex_last {x : List Nat} {c d : Nat} (h : c < d) : x ++ [c] < x ++ [d] := by
  induction x with
  | nil => exact List.cons_lt_cons_iff.mpr (.inl h)
  | cons a x ih => exact List.cons_lt_cons_iff.mpr (.inr ⟨rfl, ih⟩)
theorem signs_up (many : Nat) : (signs many).Pairwise (· < ·) := by
  unfold signs
  exact List.Pairwise.sublist (List.take_sublist _ _) (by decide)
theorem lay_up (many : Nat) : ∀ n, (lay many n).Pairwise (· < ·)
  | 0 => List.pairwise_singleton _ _
  | n + 1 => by
    show ((lay many n).flatMap fun l => (signs many).map fun c => l ++ [c]).Pairwise _
    rw [List.pairwise_flatMap]
    refine ⟨fun l _ => ?_, ?_⟩
    · rw [List.pairwise_map]
      exact (signs_up many).imp fun h => lex_last h
    · refine (List.Pairwise.and_mem.mp (lay_up many n)).imp fun {x y} h => ?_
      intro u hu v hv
      obtain ⟨c, _, rfl⟩ := List.mem_map.mp hu
      obtain ⟨d, _, rfl⟩ := List.mem_map.mp hv
      exact lex_snoc h.2.2 ((lay_mem h.1).1.trans (lay_mem h.2.1).1.symm) c d
theorem mem_lay {many : Nat} : ∀ {n : Nat} {l : List Nat}, l.length = n → (∀ c ∈ l, c ∈ signs many) → l ∈ lay many n
  | 0, l, h, _ => by
    have e := List.length_eq_zero_iff.mp h
    subst e
    exact List.mem_singleton.mpr rfl
  | n + 1, l, h, hs => by
    have hne : l ≠ [] := fun z => by
      subst z
      cases h
    show l ∈ (lay many n).flatMap fun l => (signs many).map fun c => l ++ [c]
    refine List.mem_flatMap.mpr ⟨l.dropLast, mem_lay (by rw [List.length_dropLast, h]; rfl) (fun c hc => hs c (List.dropLast_subset l hc)), ?_⟩
    refine List.mem_map.mpr ⟨l.getLast hne, hs _ (List.getLast_mem hne), List.dropLast_concat_getLast hne⟩
theorem mem_stk {many : Nat} : ∀ {n : Nat} {l : List Nat}, l.length ≤ n → (∀ c ∈ l, c ∈ signs many) → l ∈ stk many n
  | 0, l, h, hs => mem_lay (Nat.le_zero.mp h) hs
  | n + 1, l, h, hs => by
    show l ∈ stk many n ++ lay many (n + 1)
    by_cases h1 : l.length = n + 1
    · exact List.mem_append_right _ (mem_lay h1 hs)
    · exact List.mem_append_left _ (mem_stk (by omega) hs)
/-- by size, then as texts rise -/
def Bef (x y : List Nat) : Prop := x.length < y.length ∨ (x.length = y.length ∧ x < y)
theorem stk_up (many : Nat) : ∀ n, (stk many n).Pairwise Bef
  | 0 => List.pairwise_singleton _ _
  | n + 1 => by
    show (stk many n ++ lay many (n + 1)).Pairwise _
    rw [List.pairwise_append]
    refine ⟨stk_up many n, ?_, fun x hx y hy => .inl ?_⟩
    · exact (List.Pairwise.and_mem.mp (lay_up many (n + 1))).imp fun {x y} h => .inr ⟨(lay_mem h.1).1.trans (lay_mem h.2.1).1.symm, h.2.2⟩
    · have := (stk_mem hx).1
      have := (lay_mem hy).1
      omega
theorem filter_one {α : Type} {R : α → α → Prop} (irr : ∀ x, ¬ R x x) (p : α → Bool) {u : α} (hp : ∀ x, p x = true ↔ x = u) : ∀ {l : List α}, l.Pairwise R → u ∈ l → l.filter p = [u]
  | [], _, h => by cases h
  | x :: r, hw, h => by
    obtain ⟨h1, h2⟩ := List.pairwise_cons.mp hw
    by_cases hx : x = u
    · subst hx
      rw [List.filter_cons_of_pos ((hp x).mpr rfl)]
      have e : r.filter p = [] := List.filter_eq_nil_iff.mpr fun y hy hpy => by
        have := (hp y).mp hpy
        subst this
        exact irr _ (h1 _ hy)
      rw [e]
    · rw [List.filter_cons_of_neg (fun z => hx ((hp x).mp z))]
      rcases List.mem_cons.mp h with h | h
      · exact absurd h.symm hx
      · exact filter_one irr p hp h2 h
theorem lay_first (many : Nat) (h : 1 ≤ many) : ∀ n, (lay many n).head? = some (List.replicate n 97)
  | 0 => rfl
  | n + 1 => by
    have ih := lay_first many h n
    show ((lay many n).flatMap fun l => (signs many).map fun c => l ++ [c]).head? = _
    cases e : lay many n with
    | nil =>
      rw [e] at ih
      cases ih
    | cons x r =>
      rw [e] at ih
      have ex : x = List.replicate n 97 := Option.some.inj ih
      subst ex
      have es : ∃ r2, signs many = 97 :: r2 := by
        obtain ⟨m, rfl⟩ : ∃ m, many = m + 1 := ⟨many - 1, by omega⟩
        exact ⟨_, rfl⟩
      obtain ⟨r2, es⟩ := es
      rw [List.flatMap_cons, es, List.map_cons, List.cons_append, List.head?_cons, ← List.replicate_succ']
/-! ### how many -/
def tupto (many : Nat) : Nat → Nat
  | 0 => 1
  | n + 1 => tupto many n + many ^ (n + 1)
theorem signs_l {many : Nat} (h : many ≤ 4) : (signs many).length = many := by
  unfold signs
  rw [List.length_take]
  exact Nat.min_eq_left h
theorem lay_l {many : Nat} (h : many ≤ 4) (n : Nat) : (lay many n).length = many ^ n := by rw [lay_len, signs_l h]
theorem stk_l {many : Nat} (h : many ≤ 4) : ∀ n, (stk many n).length = tupto many n
  | 0 => rfl
  | n + 1 => by
    show (stk many n ++ lay many (n + 1)).length = _
    rw [List.length_append, stk_l h n, lay_l h]
    rfl
/-- the stacks that become this one -/
def bef (room many : Nat) (t : Tr) (s : List Nat) : List (List Nat) := (stk many room).filter fun x => decide (tby t x = s)
def bleft (room many g k u : Nat) : Nat := if k = 0 then tupto many room else if u = 0 then tupto many g else if u < k then many ^ g else many ^ g * tupto many (room - k - g)
def bfirst (g : Nat) (u : List Nat) : List Nat := if u = [] then [] else u ++ List.replicate g 97
theorem tby_iff {t : Tr} {u x : List Nat} : tby t x = u ++ t.l ↔ tp t.k (ct t.g x) = u := by
  unfold tby
  exact List.append_left_inj _
/-- parts of the stacks, size by size -/
theorem stk_filter_const {many : Nat} (p : List Nat → Bool) {c : Nat} {F : List (List Nat)} (h : ∀ m, m ≠ c → (lay many m).filter p = []) (hc : (lay many c).filter p = F) : ∀ n, (stk many n).filter p = if c ≤ n then F else []
  | 0 => by
    show (lay many 0).filter p = _
    by_cases h0 : c = 0
    · subst h0
      rw [if_pos (Nat.le_refl _)]
      exact hc
    · rw [if_neg (by omega)]
      exact h 0 (by omega)
  | n + 1 => by
    show (stk many n ++ lay many (n + 1)).filter p = _
    rw [List.filter_append, stk_filter_const p h hc n]
    by_cases h1 : c = n + 1
    · subst h1
      rw [if_neg (by omega), if_pos (Nat.le_refl _), List.nil_append, hc]
    · rw [h _ (fun z => h1 z.symm), List.append_nil]
      by_cases h2 : c ≤ n
      · rw [if_pos h2, if_pos (by omega)]
      · rw [if_neg h2, if_neg (by omega)]
theorem lay_filter_app {many : Nat} (p : List Nat → Bool) (a b : Nat) : (lay many (a + b)).filter p = (lay many a).flatMap fun x => ((lay many b).map fun y => x ++ y).filter p := by
  rw [lay_add, List.filter_flatMap]
theorem tp_nil_iff {k : Nat} (h : 0 < k) {x : List Nat} : tp k x = [] ↔ x = [] := by
  constructor
  · intro e
    have := congrArg List.length e
    rw [len_tp, List.length_nil] at this
    exact List.length_eq_zero_iff.mp (by omega)
  · intro e
    subst e
    exact tp_all (Nat.zero_le _)
theorem ct_nil_iff {g : Nat} {x : List Nat} : ct g x = [] ↔ x.length ≤ g := by
  constructor
  · intro e
    have := congrArg List.length e
    rw [len_ct] at this
    simp at this
    omega
  · exact ct_all
theorem ct_app_eq {g : Nat} {x y : List Nat} (h : y.length = g) : ct g (x ++ y) = x := by
  rw [ct_app_ge (by omega), h, Nat.sub_self, ct_zero]
theorem filter_all {α : Type} (p : α → Bool) (l : List α) (h : ∀ x ∈ l, p x = true) : l.filter p = l := List.filter_eq_self.mpr h
theorem filter_none {α : Type} (p : α → Bool) (l : List α) (h : ∀ x ∈ l, ¬ p x = true) : l.filter p = [] := List.filter_eq_nil_iff.mpr h
theorem flatMap_pick {α β : Type} (f : α → List β) (g : α → List β) : ∀ (l : List α), (∀ x ∈ l, f x = g x) → l.flatMap f = l.flatMap g
  | [], _ => rfl
  | x :: r, h => by
    rw [List.flatMap_cons, List.flatMap_cons, h x (List.mem_cons_self ..), flatMap_pick f g r fun y hy => h y (List.mem_cons_of_mem _ hy)]
theorem flatMap_if {α β : Type} (p : α → Bool) (g : α → List β) : ∀ (l : List α), (l.flatMap fun x => if p x = true then g x else []) = (l.filter p).flatMap g
  | [] => rfl
  | x :: r => by
    rw [List.flatMap_cons, flatMap_if p g r]
    by_cases h : p x = true
    · rw [if_pos h, List.filter_cons_of_pos h, List.flatMap_cons]
    · rw [if_neg h, List.filter_cons_of_neg h, List.nil_append]
theorem stk_filter_le {many : Nat} (g : Nat) (p : List Nat → Bool) (hp : ∀ x, p x = true ↔ x.length ≤ g) : ∀ n, (stk many n).filter p = stk many (min n g)
  | 0 => by
    show (lay many 0).filter p = _
    rw [Nat.zero_min]
    exact filter_all p _ fun x hx => (hp x).mpr (by have := (lay_mem hx).1; omega)
  | n + 1 => by
    show (stk many n ++ lay many (n + 1)).filter p = _
    rw [List.filter_append, stk_filter_le g p hp n]
    by_cases h : n + 1 ≤ g
    · rw [filter_all p (lay many (n + 1)) fun x hx => (hp x).mpr (by have := (lay_mem hx).1; omega), Nat.min_eq_left h, Nat.min_eq_left (by omega)]
      rfl
    · rw [filter_none p (lay many (n + 1)) fun x hx z => h (by have := (hp x).mp z; have := (lay_mem hx).1; omega), List.append_nil]
      congr 1
      omega
theorem stk_first (many : Nat) : ∀ n, (stk many n).head? = some []
  | 0 => rfl
  | n + 1 => by
    show (stk many n ++ lay many (n + 1)).head? = _
    rw [List.head?_append, stk_first many n]
    rfl
/-- where as many stay as can -/
theorem stk_filter_deep {many g : Nat} (hm : many ≤ 4) (h1 : 1 ≤ many) {u : List Nat} (u0 : u.length ≠ 0) (p : List Nat → Bool) (hu : ∀ c ∈ u, c ∈ signs many) (hp : ∀ x, p x = true ↔ tp u.length (ct g x) = u) : ∀ n,
    ((stk many n).filter p).length = (if n < u.length + g then 0 else many ^ g * tupto many (n - (u.length + g))) ∧ ((stk many n).filter p).head? = if n < u.length + g then none else some (u ++ List.replicate g 97) := by
  have hlow : ∀ m, m < u.length + g → (lay many m).filter p = [] := fun m hm => filter_none _ _ fun x hx z => by
    have e := congrArg List.length ((hp x).mp z)
    rw [len_tp, len_ct] at e
    have := (lay_mem hx).1
    omega
  have hat : ∀ j, (lay many (j + u.length + g)).filter p = (lay many j).flatMap fun w => (lay many g).map fun v => w ++ u ++ v := fun j => by
    rw [lay_filter_app]
    have e1 : ((lay many (j + u.length)).flatMap fun x => ((lay many g).map fun y => x ++ y).filter p) = (lay many (j + u.length)).flatMap fun x => if decide (tp u.length x = u) = true then (lay many g).map fun y => x ++ y else [] :=
      flatMap_pick _ _ _ fun x hx => by
        by_cases h : tp u.length x = u
        · rw [if_pos (decide_eq_true h)]
          refine filter_all _ _ fun z hz => ?_
          obtain ⟨y, hy, rfl⟩ := List.mem_map.mp hz
          exact (hp _).mpr (by rw [ct_app_eq (lay_mem hy).1]; exact h)
        · rw [if_neg (fun z => h (of_decide_eq_true z))]
          refine filter_none _ _ fun z hz hz2 => ?_
          obtain ⟨y, hy, rfl⟩ := List.mem_map.mp hz
          have := (hp _).mp hz2
          rw [ct_app_eq (lay_mem hy).1] at this
          exact h this
    rw [e1, flatMap_if (fun x => decide (tp u.length x = u)), lay_filter_app]
    have e2 : ((lay many j).flatMap fun x => ((lay many u.length).map fun y => x ++ y).filter fun x => decide (tp u.length x = u)) = (lay many j).flatMap fun x => [x ++ u] :=
      flatMap_pick _ _ _ fun x hx => by
        rw [List.filter_map]
        have e3 : (lay many u.length).filter ((fun x => decide (tp u.length x = u)) ∘ fun y => x ++ y) = (lay many u.length).filter fun y => decide (y = u) := List.filter_congr fun y hy => by
          have hy2 := (lay_mem hy).1
          show decide (tp u.length (x ++ y) = u) = decide (y = u)
          have e4 : tp u.length (x ++ y) = y := by
            rw [tp_app, hy2, Nat.sub_self, tp_zero, List.nil_append]
            exact tp_all (Nat.le_of_eq hy2)
          rw [e4]
        rw [e3, filter_one (R := (· < ·)) (fun x => List.lt_irrefl x) (fun y => decide (y = u)) (u := u) (fun x => decide_eq_true_iff) (lay_up many _) (mem_lay rfl hu)]
        rfl
    rw [e2, List.flatMap_assoc]
    exact flatMap_pick _ _ _ fun x hx => by simp
  have hlen : ∀ j, ((lay many (j + u.length + g)).filter p).length = many ^ j * many ^ g := fun j => by
    rw [hat]
    have : ∀ l : List (List Nat), (l.flatMap fun w => (lay many g).map fun v => w ++ u ++ v).length = l.length * many ^ g := fun l => by
      induction l with
      | nil => simp
      | cons w r ih => rw [List.flatMap_cons, List.length_append, ih, List.length_map, lay_l hm, List.length_cons, Nat.succ_mul, Nat.add_comm]
    rw [this, lay_l hm]
  intro n
  induction n with
  | zero =>
    show ((lay many 0).filter p).length = _ ∧ ((lay many 0).filter p).head? = _
    by_cases h : 0 < u.length + g
    · rw [hlow 0 h, if_pos h, if_pos h]
      exact ⟨rfl, rfl⟩
    · have e : u = [] := List.length_eq_zero_iff.mp (by omega)
      have e2 : g = 0 := by omega
      subst e e2
      rw [if_neg (by simp), if_neg (by simp)]
      have := hat 0
      simp only [List.length_nil, Nat.add_zero] at this
      rw [this]
      simp [lay, tupto]
  | succ n ih =>
    have e : (stk many (n + 1)).filter p = (stk many n).filter p ++ (lay many (n + 1)).filter p := by
      show (stk many n ++ lay many (n + 1)).filter p = _
      rw [List.filter_append]
    rw [e, List.length_append, List.head?_append, ih.1, ih.2]
    by_cases h : n + 1 < u.length + g
    · rw [if_pos h, if_pos h, if_pos (by omega), if_pos (by omega), hlow _ h]
      exact ⟨rfl, rfl⟩
    · rw [if_neg h, if_neg h]
      by_cases h2 : n < u.length + g
      · rw [if_pos h2, if_pos h2]
        have h3 : n + 1 = 0 + u.length + g := by omega
        rw [h3, hlen, hat]
        have e5 : 0 + u.length + g - (u.length + g) = 0 := by omega
        rw [e5]
        refine ⟨by simp [tupto], ?_⟩
        show (((lay many 0).flatMap fun w => (lay many g).map fun v => w ++ u ++ v)).head? = _
        show ((((lay many g).map fun v => [] ++ u ++ v)) ++ []).head? = _
        rw [List.append_nil, List.head?_map, lay_first many h1]
        simp
      · rw [if_neg h2, if_neg h2]
        have h3 : n + 1 = (n + 1 - (u.length + g)) + u.length + g := by omega
        have h4 : n + 1 - (u.length + g) = (n - (u.length + g)) + 1 := by omega
        have hl := hlen (n + 1 - (u.length + g))
        rw [← h3] at hl
        rw [hl, h4]
        refine ⟨?_, by simp⟩
        show _ = many ^ g * (tupto many (n - (u.length + g)) + many ^ (n - (u.length + g) + 1))
        rw [Nat.mul_add, Nat.mul_comm (many ^ (n - (u.length + g) + 1))]
theorem bef_is {room many : Nat} {t : Tr} (ok : TrOk room many t) (h1 : 1 ≤ many) (h4 : many ≤ 4) {u : List Nat} (hu : u.length ≤ t.k) (hs : ∀ c ∈ u, c ∈ signs many) :
    (bef room many t (u ++ t.l)).length = bleft room many t.g t.k u.length ∧ (bef room many t (u ++ t.l)).head? = some (bfirst t.g u) := by
  have gk := ok.gk
  have hz := ok.z
  unfold bef bleft
  have e0 : (stk many room).filter (fun x => decide (tby t x = u ++ t.l)) = (stk many room).filter (fun x => decide (tp t.k (ct t.g x) = u)) := List.filter_congr fun x _ => decide_eq_decide.mpr tby_iff
  rw [e0]
  by_cases k0 : t.k = 0
  · have eu : u = [] := List.length_eq_zero_iff.mp (by omega)
    subst eu
    rw [if_pos k0, filter_all _ _ fun x _ => decide_eq_true (by rw [k0, tp_zero]), stk_l h4, stk_first]
    exact ⟨rfl, rfl⟩
  · rw [if_neg k0]
    by_cases u0 : u.length = 0
    · have eu : u = [] := List.length_eq_zero_iff.mp u0
      subst eu
      rw [if_pos u0, stk_filter_le t.g _ (fun x => by rw [decide_eq_true_iff, tp_nil_iff (by omega), ct_nil_iff]), Nat.min_eq_right (by omega), stk_l h4, stk_first]
      exact ⟨rfl, rfl⟩
    · have une : u ≠ [] := fun z => u0 (by rw [z]; rfl)
      have ef : bfirst t.g u = u ++ List.replicate t.g 97 := by
        unfold bfirst
        rw [if_neg une]
      rw [if_neg u0, ef]
      by_cases uk : u.length < t.k
      · rw [if_pos uk]
        have hp : ∀ x : List Nat, tp t.k (ct t.g x) = u ↔ ct t.g x = u := fun x => by
          constructor
          · intro e
            have e2 := congrArg List.length e
            rw [len_tp] at e2
            rw [tp_all (by omega)] at e
            exact e
          · intro e
            rw [e]
            exact tp_all (by omega)
        have hF : ∀ m, m ≠ u.length + t.g → (lay many m).filter (fun x => decide (tp t.k (ct t.g x) = u)) = [] := fun m hm => filter_none _ _ fun x hx z => by
          have e := congrArg List.length ((hp x).mp (of_decide_eq_true z))
          rw [len_ct, (lay_mem hx).1] at e
          omega
        have hc : (lay many (u.length + t.g)).filter (fun x => decide (tp t.k (ct t.g x) = u)) = (lay many t.g).map fun v => u ++ v := by
          rw [lay_filter_app]
          have e1 : ((lay many u.length).flatMap fun x => ((lay many t.g).map fun y => x ++ y).filter fun x => decide (tp t.k (ct t.g x) = u)) = (lay many u.length).flatMap fun x => if decide (x = u) = true then (lay many t.g).map fun y => x ++ y else [] :=
            flatMap_pick _ _ _ fun x hx => by
              by_cases h : x = u
              · rw [if_pos (decide_eq_true h)]
                refine filter_all _ _ fun z hz => ?_
                obtain ⟨y, hy, rfl⟩ := List.mem_map.mp hz
                exact decide_eq_true ((hp _).mpr (by rw [ct_app_eq (lay_mem hy).1]; exact h))
              · rw [if_neg (fun z => h (of_decide_eq_true z))]
                refine filter_none _ _ fun z hz hz2 => ?_
                obtain ⟨y, hy, rfl⟩ := List.mem_map.mp hz
                have := (hp _).mp (of_decide_eq_true hz2)
                rw [ct_app_eq (lay_mem hy).1] at this
                exact h this
          rw [e1, flatMap_if (fun x => decide (x = u)), filter_one (R := (· < ·)) (fun x => List.lt_irrefl x) (fun y => decide (y = u)) (u := u) (fun x => decide_eq_true_iff) (lay_up many _) (mem_lay rfl hs)]
          simp
        rw [stk_filter_const _ hF hc room, if_pos (by omega), List.length_map, lay_l h4, List.head?_map, lay_first many h1]
        exact ⟨rfl, rfl⟩
      · have ek : t.k = u.length := by omega
        rw [if_neg uk]
        have d := stk_filter_deep (many := many) (g := t.g) h4 h1 u0 (fun x => decide (tp t.k (ct t.g x) = u)) hs (fun x => by rw [decide_eq_true_iff, ek]) room
        rw [if_neg (by omega), if_neg (by omega)] at d
        have e6 : room - (u.length + t.g) = room - t.k - t.g := by omega
        rw [e6] at d
        exact d
theorem bef_no {room many : Nat} {t : Tr} {s : List Nat} (h : ¬ ∃ u : List Nat, u.length ≤ t.k ∧ s = u ++ t.l) : bef room many t s = [] :=
  filter_none _ _ fun x _ z => h ⟨tp t.k (ct t.g x), by rw [len_tp]; exact Nat.min_le_left .., (of_decide_eq_true z).symm⟩
end SK
namespace SK
open PySem PySem.Spec PyProof.Rows L2
/-! ### (int, text) > (int, text) -/
theorem RcOp_gt_str {A : Around} {s : Shared} (a b : Str) (t u : Tok) : Ob.RcOp .Gt A s (.str a t) (.str b u) (decide (b.cps.toList < a.cps.toList)) := fun _ _ _ _ h => PySem.P.gt_str h
def rGtIS (K : PySem.W.Frag) : R2 := fun x y H Q => ∃ (a b : Addr) (i j : Int) (l m : List Nat), x = .ref a ∧ y = .ref b ∧ SqT K H a [.int i, .str (tx l)] ∧ SqT K H b [.int j, .str (tx m)] ∧
  Q (.bl (if i = j then (if l = m then false else decide (m < l)) else decide (j < i))) H
theorem op_gtIS {X : Cx} (hu : X.A.units < cLine) : OpR X (compareOp .Gt) (rGtIS X.K) := by
  intro pins s σ H x y v u Q I rx ry h
  obtain ⟨a, b, i, j, l, m, rfl, rfl, ha, hb, q⟩ := h
  cases rx
  cases ry
  obtain ⟨its, r1, p1, _⟩ := I.tuple ha
  obtain ⟨its2, r2, p2, _⟩ := I.tuple hb
  cases r1 with
  | cons x1 y1 =>
  cases y1 with
  | cons x2 y2 =>
  cases y2
  cases r2 with
  | cons w1 z1 =>
  cases z1 with
  | cons w2 z2 =>
  cases z2
  obtain ⟨t1, rfl⟩ := x1
  obtain ⟨t2, rfl⟩ := x2
  obtain ⟨t3, rfl⟩ := w1
  obtain ⟨t4, rfl⟩ := w2
  have R := Ob.RcOp.tuples_gt (A := X.A) (s := s) (e := fun n => if n = 0 then decide (i = j) else decide (l = m)) (r := fun n => if n = 0 then decide (j < i) else decide (m < l)) p1 p2 hu (fun n h1 h2 => by
    match n, h1, h2 with
    | 0, _, _ =>
      show SeqAt.EqAt _ _ (Value.int i t1) (.int j t3) (decide (i = j))
      have z : (i == j) = decide (i = j) := rfl
      rw [← z]
      exact SeqAt.EqAt.int_int _ _ _ _
    | 1, _, _ =>
      show SeqAt.EqAt _ _ (Value.str (tx l) t2) (.str (tx m) t4) (decide (l = m))
      have z : (tx l == tx m) = decide (l = m) := by
        by_cases e : l = m
        · subst e
          simp
        · rw [decide_eq_false e]
          exact beq_eq_false_iff_ne.mpr fun z => e (str_inj.mp z)
      rw [← z]
      exact SeqAt.EqAt.str_str _ _ _ _
    | n + 2, h1, _ => exact absurd h1 (by simp)) (fun n h1 h2 _ => by
    match n, h1, h2 with
    | 0, _, _ => exact Ob.RcOp.gt_int _ _ _ _
    | 1, _, _ => exact RcOp_gt_str _ _ _ _
    | n + 2, h1, _ => exact absurd h1 (by simp))
  refine R X.prog X.w _ _ ?_
  refine fin_bl I q ?_
  show _ = _
  simp [Ob.lexAt]
/-! ### what comes ahead -/
abbrev fz (l : List Nat) : V := V.str (tx l)
def hdV : Option (List Nat) → V
  | none => .non
  | some l => fz l
def BefAt (H : Hp) (v : V) (n : Nat) (o : Option (List Nat)) : Prop := ∃ a, v = .ref a ∧ H a = some (.tup [.int (n : Int), hdV o])
def spSize : Sp := fun vs H Q _ => ∃ many n : Nat, vs = [.int (many : Int), .int (n : Int)] ∧ many ≤ 4 ∧ n ≤ 9 ∧ giv (.int ((many ^ n : Nat) : Int)) H Q
def spUpto : Sp := fun vs H Q _ => ∃ many n : Nat, vs = [.int (many : Int), .int (n : Int)] ∧ many ≤ 4 ∧ n ≤ 9 ∧ giv (.int ((tupto many n : Nat) : Int)) H Q
def spLeft : Sp := fun vs H Q _ => ∃ (v : V) (p : Pl) (g k u : Nat), vs = [v, .int (g : Int), .int (k : Int), .int (u : Int)] ∧ PlanAt H v p ∧ p.Ok ∧ g + k ≤ p.room ∧ giv (.int ((bleft p.room p.many g k u : Nat) : Int)) H Q
def spBefores : Sp := fun vs H Q _ => ∃ v p u t l, vs = [v, u, .str (tx l)] ∧ PlanAt H v p ∧ p.Ok ∧ TripAt H u t ∧ TrOk p.room p.many t ∧ l.length ≤ p.room ∧ (∀ c ∈ l, c ∈ signs p.many) ∧
  ∀ (H' : Hp) (w : V), Same H H' → BefAt H' w (bef p.room p.many t l).length (bef p.room p.many t l).head? → Q w H'
theorem alk_bef {H : Hp} {k : Nat} {v w : V} {n : Nat} {o : Option (List Nat)} (hv : BefAt H v n o) (hw : BefAt H w n o) : Alk H (k + 2) v w := by
  obtain ⟨a, rfl, ha⟩ := hv
  obtain ⟨b, rfl, hb⟩ := hw
  refine .inr ⟨a, b, _, _, rfl, rfl, .inl ⟨ha, hb⟩, rfl, by show 2 ≤ 10000; decide, fun i x y e1 e2 => ?_⟩
  have e : x = y := Option.some.inj (e1.symm.trans e2)
  subst e
  refine .inl ⟨rfl, ?_⟩
  match i, e1 with
  | 0, e1 => cases e1; trivial
  | 1, e1 =>
    cases e1
    cases o with
    | none => trivial
    | some l => trivial
theorem mulZ {a b : Nat} (h : a ≤ 1000000000) : (-(2 ^ 64) < (a : Int) ∧ (a : Int) < 2 ^ 64) := by
  constructor <;> omega
theorem pow_le9 {many n : Nat} (h : many ≤ 4) (h9 : n ≤ 9) : many ^ n ≤ 262144 := by
  calc many ^ n ≤ 4 ^ n := Nat.pow_le_pow_left h n
    _ ≤ 4 ^ 9 := Nat.pow_le_pow_right (by decide) h9
    _ = 262144 := by decide
theorem tupto_sum (many : Nat) : ∀ n, ((List.range (n + 1)).map fun i => many ^ i).sum = tupto many n
  | 0 => by simp [tupto]
  | n + 1 => by
    rw [List.range_succ, List.map_append, List.sum_append, tupto_sum many n]
    simp [tupto]
theorem ends_app {a b : List Nat} : Txt.endswith (tx a) (tx b) = decide (b <:+ a) := by
  unfold Txt.endswith Builtin.Str.subAt
  rw [tx_len, tx_len, Nat.zero_add]
  by_cases h : b.length ≤ a.length
  · rw [decide_eq_true h, Bool.true_and]
    have e : (tx a).cps.extract (a.length - b.length) (a.length - b.length + b.length) = (a.drop (a.length - b.length)).toArray := by
      show a.toArray.extract _ _ = _
      have e1 : a.length - b.length + b.length = a.length := by omega
      rw [e1]
      simp
      rw [List.take_of_length_le (by rw [List.length_drop]; omega)]
    rw [e]
    show ((a.drop (a.length - b.length)).toArray == b.toArray) = _
    by_cases e2 : a.drop (a.length - b.length) = b
    · have hs : b <:+ a := ⟨a.take (a.length - b.length), by
        conv => rhs; rw [← List.take_append_drop (a.length - b.length) a, e2]⟩
      rw [e2, decide_eq_true hs]
      simp
    · have hs : ¬ b <:+ a := by
        rintro ⟨u, rfl⟩
        refine e2 ?_
        rw [List.length_append, Nat.add_sub_cancel, List.drop_left]
      rw [decide_eq_false hs]
      exact beq_eq_false_iff_ne.mpr fun z => e2 (by simpa using z)
  · have hs : ¬ b <:+ a := by
      rintro ⟨u, rfl⟩
      exact h (by rw [List.length_append]; omega)
    rw [decide_eq_false h, Bool.false_and, decide_eq_false hs]
theorem tby_in {room many : Nat} {t : Tr} (ok : TrOk room many t) {x : List Nat} (h : ∀ c ∈ x, c ∈ signs many) : ∀ c ∈ tby t x, c ∈ signs many := fun c hc => by
  rcases List.mem_append.mp (show c ∈ tp t.k (ct t.g x) ++ t.l from hc) with h1 | h1
  · exact h c (mem_ct (mem_tp h1))
  · exact ok.s c h1
theorem bef_mem {room many : Nat} {t : Tr} {s x : List Nat} : x ∈ bef room many t s ↔ x ∈ stk many room ∧ tby t x = s := by
  unfold bef
  rw [List.mem_filter, decide_eq_true_iff]
theorem head_le {α : Type} {R : α → α → Prop} {l : List α} {x y : α} (h : l.Pairwise R) (hx : l.head? = some x) (hy : y ∈ l) : y = x ∨ R x y := by
  cases l with
  | nil => cases hx
  | cons z r =>
    cases hx
    rcases List.mem_cons.mp hy with e | e
    · exact .inl e
    · exact .inr ((List.pairwise_cons.mp h).1 y e)
/-- the first of those is not behind any of them -/
theorem bef_least {room many : Nat} {t : Tr} {s x f : List Nat} (hf : (bef room many t s).head? = some f) (hx : x ∈ bef room many t s) : (if (f.length : Int) = (x.length : Int) then (if f = x then false else decide (x < f)) else decide ((x.length : Int) < (f.length : Int))) = false := by
  have hp : (bef room many t s).Pairwise Bef := (stk_up many room).filter _
  rcases head_le hp hf hx with e | e
  · subst e
    simp
  · rcases e with e | ⟨e1, e2⟩
    · rw [if_neg (by omega)]
      exact decide_eq_false (by omega)
    · rw [if_pos (by omega)]
      by_cases h : f = x
      · rw [if_pos h]
      · rw [if_neg h]
        exact decide_eq_false fun z => List.lt_irrefl _ (List.lt_trans e2 z)
end SK
namespace SK
open PySem PySem.Spec PyProof.Rows L2
theorem szl2 {n : Nat} (h : n ≤ 3000000) : n < sizeLine := Nat.lt_of_lt_of_le (show n < 16777216 by omega) (by decide)
end SK
namespace SK
open PySem PySem.Spec PyProof.Rows L2
/-- len of a list or a tuple, its frame named -/
def rLenS (K : PySem.W.Frag) : List V → Hp → VK → Prop := fun xs H Q => ∃ p ys, xs = [.ref p] ∧ (SqL K H p ys ∨ SqT K H p ys) ∧ Q (.int (ys.length : Int)) H
theorem call_lenS {X : Cx} : CallR X (.builtin "len") (rLenS X.K) := call_len_seq
end SK
namespace SK
open PySem PySem.Spec PyProof.Rows L2
/-! ### an attribute as a target -/
def gFld (K : PySem.W.Frag) (ta : TE) (f : Str) : TG := fun v σ H Q => ta σ H fun x H1 => ∃ a C dx fs, x = .ref a ∧ H1 a = some (.ins C dx fs) ∧ Cls K C ∧ NoAttr K C f ∧ fs.length < 1000 ∧ Q σ (upd H1 a (.ins C dx (putF f v fs)))
theorem pg_fld {X : Cx} {o : Expr} {ta : TE} {f : Str} {pos : Pos} (ho : PE X o ta) : PG X (.Attribute o f pos) (gFld X.K ta f) := by
  refine ⟨fun pins s σ H v u Q I r h => ?_⟩
  refine PySem.W.kas_attr (thn (ho.run pins s σ H _ I h) fun ov s1 ⟨x, H1, I1, rx, a, C, dx, fs, ex, ea, c, n, l, q⟩ => ?_)
  subst ex
  obtain rfl : ov = Value.ref a := rx
  exact setattr_ok I1 ea c n l r fun s2 I2 => ⟨σ, _, I2, q⟩
/-! ### methods by their class -/
structure Dm (K : PySem.W.Frag) (C : Addr) (m q : Str) (st : Stmt) (ps : List Str) : Prop where
  ex : ∃ (f : Addr) (fd : FuncData), L2.Fun K m q st f fd ∧ Meth K C m f ∧ Binds K fd ps []
structure Di (K : PySem.W.Frag) (mg : Str → Option Value) (C : Addr) (x q : Str) (st : Stmt) (ps : List Str) : Prop where
  ex : ∃ (f : Addr) (fd : FuncData), L2.Fun K "__init__" q st f fd ∧ Mk K C f ∧ mg x = some (.ref C) ∧ Binds K fd ps []
section
variable {P : Program} {w : World} {K : PySem.W.Frag} {mg : Str → Option Value} {base : Heap} {C : Addr}
theorem Dm.met {m q : Str} {st : Stmt} {N ps : List Str} {k : Nat} {sp : Sp} (D : Dm K C m q st ps) (c : Cls K C) (S : FnScope N ps (defScope st)) (len : ∀ vs H Q E, sp vs H Q E → vs.length = ps.length)
    (hbody : ∀ (f : Addr) (cdv : Value) (A : Around) (outer : List Env) (s : Shared) (H : Hp) (vs : List V) (Q : VK) (E : XK), Room k (A.deeper (envOfC q (defScope st) s.heap.objs.size f cdv)) → sp vs H Q E →
      ∃ t, PSs (cxOf CX0 P w K mg base N q (defScope st) f cdv A outer s H E).nox (defBody st) t ∧ t { nx := fun _ H' => Q .non H', rt := Q } (start N vs) H) : C8.Met P w K mg base (k + 1) C m sp [] := by
  obtain ⟨f, fd, F, hm, b⟩ := D.ex
  exact ⟨f, fd, ps, [], c, hm, F.ok S len (fun cdv A outer s H vs Q E => hbody f cdv A outer s H vs Q E), b, .nil⟩
theorem Di.mak {x q : Str} {st : Stmt} {N ps : List Str} {k : Nat} {sp : Sp} (D : Di K mg C x q st ps) (S : FnScope N ps (defScope st)) (len : ∀ vs H Q E, sp vs H Q E → vs.length = ps.length)
    (hbody : ∀ (f : Addr) (cdv : Value) (A : Around) (outer : List Env) (s : Shared) (H : Hp) (vs : List V) (Q : VK) (E : XK), Room k (A.deeper (envOfC q (defScope st) s.heap.objs.size f cdv)) → sp vs H Q E →
      ∃ t, PSs (cxOf CX0 P w K mg base N q (defScope st) f cdv A outer s H E).nox (defBody st) t ∧ t { nx := fun _ H' => Q .non H', rt := Q } (start N vs) H) : C8.Mak P w K mg base (k + 1) x C sp [] := by
  obtain ⟨f, fd, F, M, hm, b⟩ := D.ex
  exact ⟨f, fd, ps, [], M, F.ok S len (fun cdv A outer s H vs Q E => hbody f cdv A outer s H vs Q E), hm, b, .nil⟩
theorem dm_mk {m q : Str} {st : Stmt} {ps : List Str} {f : Addr} {oc : Value} {od an : Option Addr} {osl : Array (Option Value)} {kV doc pm cd ct : Value}
    (a : PySem.W.findIn K (.ref C) m = some (some (.ref f))) (i : PySem.W.isFn K (.ref f) = true) (l : K.lookup f = some ⟨oc, od, .func (PySem.W.fnOf m q (defArgs st) (defBody st) (defScope st) .none kV doc pm an cd ct), osl⟩)
    (c : PySem.W.codeIn K cd q = true) (k : PySem.W.keepIn K (.ref f) = true)
    (hb : ∀ (kV doc pm : Value) (an : Option Addr) (cdv ct : Value) (us : List Value), us.length = ps.length → bindArgs (PySem.W.fnOf m q (defArgs st) (defBody st) (defScope st) .none kV doc pm an cdv ct) ⟨us, []⟩ = pure (ps.zip us)) : Dm K C m q st ps := by
  have F := fun_mk (st := st) l c k
  exact ⟨f, _, F, ⟨a, i, k⟩, F.binds hb⟩
theorem di_mk {x q : Str} {st : Stmt} {ps : List Str} {h : Heap} {f : Addr} {oc : Value} {od an : Option Addr} {osl : Array (Option Value)} {kV doc pm cd ct : Value} (X : K.In h) (G : h.Ns mainGlobals mg)
    (aC : PySem.W.nsIn K mainGlobals x = some (some (.ref C))) (mk : PySem.W.makesIn K C = true) (kc : PySem.W.keepIn K (.ref C) = true)
    (a : PySem.W.findIn K (.ref C) "__init__" = some (some (.ref f))) (i : PySem.W.isFn K (.ref f) = true) (l : K.lookup f = some ⟨oc, od, .func (PySem.W.fnOf "__init__" q (defArgs st) (defBody st) (defScope st) .none kV doc pm an cd ct), osl⟩)
    (c : PySem.W.codeIn K cd q = true) (k : PySem.W.keepIn K (.ref f) = true)
    (hb : ∀ (kV doc pm : Value) (an : Option Addr) (cdv ct : Value) (us : List Value), us.length = ps.length → bindArgs (PySem.W.fnOf "__init__" q (defArgs st) (defBody st) (defScope st) .none kV doc pm an cdv ct) ⟨us, []⟩ = pure (ps.zip us)) : Di K mg C x q st ps := by
  have F := fun_mk (st := st) l c k
  exact ⟨f, _, F, ⟨mk, a, i, kc⟩, PySem.W.mg_of X G aC, F.binds hb⟩
end
/-- the machine's class as the top has made it -/
structure MT (K : PySem.W.Frag) (C : Addr) : Prop where
  cl : Cls K C
  nPlan : NoAttr K C "_plan"
  nStack : NoAttr K C "_stack"
  nSpent : NoAttr K C "_spent"
  nTriple : NoAttr K C "_triple"
  nPast : NoAttr K C "_past"
/-! ### a machine as it stands in the heap -/
structure MS where
  p : Pl
  l : List Nat
  z : Int
  t : Tr
  past : List (List Nat × Int × Tr)
structure MS.Ok (m : MS) : Prop where
  p : m.p.Ok
  l : m.l.length ≤ m.p.room
  s : ∀ c ∈ m.l, c ∈ signs m.p.many
  t : TrOk m.p.room m.p.many m.t
  past : ∀ x ∈ m.past, x.1.length ≤ m.p.room ∧ (∀ c ∈ x.1, c ∈ signs m.p.many) ∧ TrOk m.p.room m.p.many x.2.2
def mf (pv : V) (l : List Nat) (z : Int) (tv : V) (pa : Addr) : List (Str × V) := [("_plan", pv), ("_stack", .str (tx l)), ("_spent", .int z), ("_triple", tv), ("_past", .ref pa)]
theorem n_st_pl : ¬ (("_stack" : Str) = "_plan") := by decide +kernel
theorem n_sp_pl : ¬ (("_spent" : Str) = "_plan") := by decide +kernel
theorem n_sp_st : ¬ (("_spent" : Str) = "_stack") := by decide +kernel
theorem n_tr_pl : ¬ (("_triple" : Str) = "_plan") := by decide +kernel
theorem n_tr_st : ¬ (("_triple" : Str) = "_stack") := by decide +kernel
theorem n_tr_sp : ¬ (("_triple" : Str) = "_spent") := by decide +kernel
theorem n_pa_pl : ¬ (("_past" : Str) = "_plan") := by decide +kernel
theorem n_pa_st : ¬ (("_past" : Str) = "_stack") := by decide +kernel
theorem n_pa_sp : ¬ (("_past" : Str) = "_spent") := by decide +kernel
theorem n_pa_tr : ¬ (("_past" : Str) = "_triple") := by decide +kernel
theorem bne_of {a b : Str} (h : ¬ a = b) : (a == b) = false := beq_eq_false_iff_ne.mpr h
section
variable {pv tv : V} {l : List Nat} {z : Int} {pa : Addr}
theorem mf_plan : (mf pv l z tv pa).lookup ("_plan" : Str) = some pv := by simp [mf]
theorem mf_stack : (mf pv l z tv pa).lookup ("_stack" : Str) = some (.str (tx l)) := by simp [mf, List.lookup, bne_of n_st_pl]
theorem mf_spent : (mf pv l z tv pa).lookup ("_spent" : Str) = some (.int z) := by simp [mf, List.lookup, bne_of n_sp_pl, bne_of n_sp_st]
theorem mf_triple : (mf pv l z tv pa).lookup ("_triple" : Str) = some tv := by simp [mf, List.lookup, bne_of n_tr_pl, bne_of n_tr_st, bne_of n_tr_sp]
theorem mf_past : (mf pv l z tv pa).lookup ("_past" : Str) = some (.ref pa) := by simp [mf, List.lookup, bne_of n_pa_pl, bne_of n_pa_st, bne_of n_pa_sp, bne_of n_pa_tr]
end
end SK
namespace SK
open PySem PySem.Spec PyProof.Rows L2
section
variable {pv tv : V} {l : List Nat} {z : Int} {pa : Addr}
theorem sy {a b : Str} (h : ¬ a = b) : ¬ b = a := fun e => h e.symm
theorem put_stack (y : List Nat) : putF "_stack" (.str (tx y)) (mf pv l z tv pa) = mf pv y z tv pa := by
  unfold mf
  simp [putF, sy n_st_pl]
theorem put_spent (y : Int) : putF "_spent" (.int y) (mf pv l z tv pa) = mf pv l y tv pa := by
  unfold mf
  simp [putF, sy n_sp_pl, sy n_sp_st]
theorem put_triple (y : V) : putF "_triple" y (mf pv l z tv pa) = mf pv l z y pa := by
  unfold mf
  simp [putF, sy n_tr_pl, sy n_tr_st, sy n_tr_sp]
theorem mf_new (y : V) : putF "_past" (.ref pa) (putF "_triple" tv (putF "_spent" (.int z) (putF "_stack" (.str (tx l)) (putF "_plan" pv [])))) = mf pv l z tv pa := by
  unfold mf
  simp [putF, sy n_st_pl, sy n_sp_pl, sy n_sp_st, sy n_tr_pl, sy n_tr_st, sy n_tr_sp, sy n_pa_pl, sy n_pa_st, sy n_pa_sp, sy n_pa_tr]
theorem mf_no {m : Str} (h1 : ¬ m = "_plan") (h2 : ¬ m = "_stack") (h3 : ¬ m = "_spent") (h4 : ¬ m = "_triple") (h5 : ¬ m = "_past") : (mf pv l z tv pa).lookup m = none := by
  unfold mf
  simp [List.lookup, bne_of h1, bne_of h2, bne_of h3, bne_of h4, bne_of h5]
end
def PastAt (H : Hp) : List (List Nat × Int × Tr) → List V → Prop
  | [], vs => vs = []
  | x :: r, vs => ∃ a tv s, vs = .ref a :: s ∧ H a = some (.tup [.str (tx x.1), .int x.2.1, tv]) ∧ TripAt H tv x.2.2 ∧ PastAt H r s
theorem PastAt.tups {H H' : Hp} (e : Tups H H') : ∀ {ps : List (List Nat × Int × Tr)} {vs : List V}, PastAt H ps vs → PastAt H' ps vs
  | [], _, h => h
  | _ :: _, _, ⟨a, tv, s, h1, h2, h3, h4⟩ => ⟨a, tv, s, h1, e _ _ h2, h3.tups e, h4.tups e⟩
theorem PastAt.len {H : Hp} : ∀ {ps : List (List Nat × Int × Tr)} {vs : List V}, PastAt H ps vs → vs.length = ps.length
  | [], _, h => by cases h; rfl
  | _ :: r, _, ⟨a, tv, s, h1, h2, h3, h4⟩ => by
    subst h1
    show s.length + 1 = r.length + 1
    rw [h4.len]
theorem PastAt.snoc {H : Hp} {x : List Nat × Int × Tr} {a : Addr} {tv : V} (ha : H a = some (.tup [.str (tx x.1), .int x.2.1, tv])) (ht : TripAt H tv x.2.2) : ∀ {ps : List (List Nat × Int × Tr)} {vs : List V}, PastAt H ps vs → PastAt H (ps ++ [x]) (vs ++ [.ref a])
  | [], _, h => by
    cases h
    exact ⟨a, tv, [], rfl, ha, ht, rfl⟩
  | _ :: _, _, ⟨b, tv', s, h1, h2, h3, h4⟩ => by
    subst h1
    exact ⟨b, tv', s ++ [.ref a], rfl, h2, h3, h4.snoc ha ht⟩
/-- the last one -/
theorem PastAt.last {H : Hp} {x : List Nat × Int × Tr} : ∀ {ps : List (List Nat × Int × Tr)} {vs : List V}, PastAt H (ps ++ [x]) vs → ∃ a tv us, vs = us ++ [.ref a] ∧ H a = some (.tup [.str (tx x.1), .int x.2.1, tv]) ∧ TripAt H tv x.2.2 ∧ PastAt H ps us
  | [], _, ⟨a, tv, s, h1, h2, h3, h4⟩ => by
    have h4' : s = [] := h4
    subst h4' h1
    exact ⟨a, tv, [], rfl, h2, h3, rfl⟩
  | _ :: r, _, ⟨b, tv', s, h1, h2, h3, h4⟩ => by
    obtain ⟨a, tv, us, e1, e2, e3, e4⟩ := PastAt.last (ps := r) h4
    subst h1 e1
    exact ⟨a, tv, .ref b :: us, rfl, e2, e3, b, tv', us, rfl, h2, h3, e4⟩
structure MAt (C : Addr) (H : Hp) (x pa : Addr) (m : MS) : Prop where
  ob : ∃ dx pv tv, H x = some (.ins C dx (mf pv m.l m.z tv pa)) ∧ PlanAt H pv m.p ∧ TripAt H tv m.t
  pl : ∃ xs, H pa = some (.lst xs) ∧ PastAt H m.past xs
theorem MAt.ne {C : Addr} {H : Hp} {x pa : Addr} {m : MS} (M : MAt C H x pa m) : x ≠ pa := by
  obtain ⟨dx, pv, tv, h, _⟩ := M.ob
  obtain ⟨xs, h2, _⟩ := M.pl
  exact ne_of h h2 (by intro z; cases z)
theorem Keep.tupsM {C : Addr} {H H' : Hp} {x pa : Addr} {m : MS} (k : Keep x pa H H') (M : MAt C H x pa m) : Tups H H' := by
  obtain ⟨dx, pv, tv, h, _⟩ := M.ob
  obtain ⟨xs, h2, _⟩ := M.pl
  exact ⟨fun b ys e => k b _ e (ne_of e h (by intro z; cases z)) (ne_of e h2 (by intro z; cases z)), fun b o ys e => k b _ e (ne_of e h (by intro z; cases z)) (ne_of e h2 (by intro z; cases z))⟩
theorem MAt.mono {C : Addr} {H H' : Hp} {x pa : Addr} {m : MS} (M : MAt C H x pa m) (s : Same H H') : MAt C H' x pa m := by
  obtain ⟨⟨dx, pv, tv, h1, h2, h3⟩, xs, h4, h5⟩ := M
  exact ⟨⟨dx, pv, tv, s _ _ h1, h2.mono s, h3.mono s⟩, xs, s _ _ h4, h5.tups (Tups.of s)⟩
def MS.deed (m : MS) (t : Tr) (z : Int) : MS := ⟨m.p, tby t m.l, m.z + z, tjoin m.t t, m.past ++ [(m.l, m.z, m.t)]⟩
theorem MS.Ok.deed {m : MS} (ok : m.Ok) {t : Tr} (tok : TrOk m.p.room m.p.many t) (z : Int) : (m.deed t z).Ok := by
  refine ⟨ok.p, tby_len tok m.l, fun c hc => ?_, tjoin_ok ok.t tok, fun x hx => ?_⟩
  · rcases List.mem_append.mp (show c ∈ tp t.k (ct t.g m.l) ++ t.l from hc) with h1 | h1
    · exact ok.s c (mem_ct (mem_tp h1))
    · exact tok.s c h1
  · rcases List.mem_append.mp hx with h | h
    · exact ok.past x h
    · have e : x = (m.l, m.z, m.t) := by simpa using h
      subst e
      exact ⟨ok.l, ok.s, ok.t⟩
theorem Keep.two {p q : Addr} {H H' : Hp} (k : Keep p q H H') (o : HO) : Keep p q H (upd H' q o) := fun b u e h1 h2 => by
  rw [upd_ne h2]
  exact k b u e h1 h2
/-! ### promises -/
def spMInit (C : Addr) : Sp := fun vs H Q _ => ∃ (x dx : Addr) (v : V) (p : Pl) (l : List Nat), vs = [.ref x, v, .str (tx l)] ∧ H x = some (.ins C dx []) ∧ PlanAt H v p ∧ p.Ok ∧ l.length ≤ p.room ∧ (∀ c ∈ l, c ∈ signs p.many) ∧
  ∀ (H' : Hp) (pa : Addr), (∀ b o, H b = some o → b ≠ x → H' b = some o) → H pa = none → MAt C H' x pa ⟨p, l, 0, tunt p.room, []⟩ → Q .non H'
def spMDeed (C : Addr) : Sp := fun vs H Q _ => ∃ (x pa : Addr) (m : MS) (u : V) (t : Tr) (z : Int), vs = [.ref x, u, .int z] ∧ MAt C H x pa m ∧ m.Ok ∧ m.past.length ≤ 1000 ∧ TripAt H u t ∧ TrOk m.p.room m.p.many t ∧ ∀ H', Keep x pa H H' → MAt C H' x pa (m.deed t z) → Q .non H'
def spMStep (C : Addr) : Sp := fun vs H Q _ => ∃ (x pa : Addr) (m : MS) (c : Nat), vs = [.ref x, .str (tx [c])] ∧ MAt C H x pa m ∧ m.Ok ∧ m.past.length ≤ 1000 ∧ (c = 45 ∨ c ∈ signs m.p.many) ∧ ∀ H', Keep x pa H H' → MAt C H' x pa (m.deed (tstep m.p.room c) (cst m.p c)) → Q .non H'
def spMDo (C : Addr) : Sp := fun vs H Q _ => ∃ (x pa : Addr) (m : MS) (u : V) (w : W), vs = [.ref x, u] ∧ MAt C H x pa m ∧ m.Ok ∧ m.past.length ≤ 1000 ∧ WAt H w u ∧ WOk m.p.many w ∧ ∀ H', Keep x pa H H' → MAt C H' x pa (m.deed (w.tri m.p.room) (w.prc (cst m.p))) → Q (.str (tx (tby (w.tri m.p.room) m.l))) H'
/-- what falls out, what was on top -/
def fallV (room : Nat) (l : List Nat) : V := match l with
  | [] => .non
  | c :: _ => if l.length = room then .str (tx [c]) else .non
def topV (l : List Nat) : V := match l.getLast? with
  | none => .non
  | some c => .str (tx [c])
def spMPush (C : Addr) : Sp := fun vs H Q _ => ∃ (x pa : Addr) (m : MS) (c : Nat), vs = [.ref x, .str (tx [c])] ∧ MAt C H x pa m ∧ m.Ok ∧ m.past.length ≤ 1000 ∧ c ∈ signs m.p.many ∧ ∀ H', Keep x pa H H' → MAt C H' x pa (m.deed (tstep m.p.room c) (cst m.p c)) → Q (fallV m.p.room m.l) H'
def spMPop (C : Addr) : Sp := fun vs H Q _ => ∃ (x pa : Addr) (m : MS), vs = [.ref x] ∧ MAt C H x pa m ∧ m.Ok ∧ m.past.length ≤ 1000 ∧ ∀ H', Keep x pa H H' → MAt C H' x pa (m.deed (tstep m.p.room 45) (cst m.p 45)) → Q (topV m.l) H'
def spMBack (C : Addr) : Sp := fun vs H Q _ => ∃ (x pa : Addr) (m : MS), vs = [.ref x] ∧ MAt C H x pa m ∧ (m.past = [] → giv (.bl false) H Q) ∧
  (∀ (ps : List (List Nat × Int × Tr)) (y : List Nat × Int × Tr), m.past = ps ++ [y] → ∀ H', Keep x pa H H' → MAt C H' x pa ⟨m.p, y.1, y.2.1, y.2.2, ps⟩ → Q (.bl true) H')
def spMStack (C : Addr) : Sp := fun vs H Q _ => ∃ (x pa : Addr) (m : MS), vs = [.ref x] ∧ MAt C H x pa m ∧ giv (.str (tx m.l)) H Q
def spMSpent (C : Addr) : Sp := fun vs H Q _ => ∃ (x pa : Addr) (m : MS), vs = [.ref x] ∧ MAt C H x pa m ∧ giv (.int m.z) H Q
def spMTriple (C : Addr) : Sp := fun vs H Q _ => ∃ (x pa : Addr) (m : MS), vs = [.ref x] ∧ MAt C H x pa m ∧ ∀ v, TripAt H v m.t → Q v H
def spMDeeds (C : Addr) : Sp := fun vs H Q _ => ∃ (x pa : Addr) (m : MS), vs = [.ref x] ∧ MAt C H x pa m ∧ giv (.int (m.past.length : Int)) H Q
def spChSign : Sp := fun vs H Q _ => ∃ v p c, vs = [v, .str (tx [c])] ∧ PlanAt H v p ∧ p.Ok ∧ c ∈ signs p.many ∧ giv .non H Q
end SK
namespace SK
open PySem PySem.Spec PyProof.Rows L2
/-! ### a machine made, asked -/
def noField (k : Str) : Prop := ¬ k = "_plan" ∧ ¬ k = "_stack" ∧ ¬ k = "_spent" ∧ ¬ k = "_triple" ∧ ¬ k = "_past"
theorem nf_do : noField "do" := by unfold noField; decide +kernel
theorem nf_push : noField "push" := by unfold noField; decide +kernel
theorem nf_pop : noField "pop" := by unfold noField; decide +kernel
theorem nf_back : noField "back" := by unfold noField; decide +kernel
theorem nf_stack : noField "stack" := by unfold noField; decide +kernel
theorem nf_spent : noField "spent" := by unfold noField; decide +kernel
theorem nf_triple : noField "triple" := by unfold noField; decide +kernel
theorem nf_deeds : noField "deeds" := by unfold noField; decide +kernel
theorem MAt.at {C : Addr} {H : Hp} {x pa : Addr} {m : MS} (M : MAt C H x pa m) : ∃ dx fs, H x = some (.ins C dx fs) ∧ ∀ k : Str, noField k → fs.lookup k = none := by
  obtain ⟨⟨dx, pv, tv, h, _⟩, _⟩ := M
  exact ⟨dx, _, h, fun k n => mf_no n.1 n.2.1 n.2.2.1 n.2.2.2.1 n.2.2.2.2⟩
theorem made_same {C : Addr} {H Hm : Hp} {x dx : Addr} (hx : H x = none) (hd : H dx = none) (hne : dx ≠ x) (k : ∀ b o, upd (upd H dx (.own x)) x (.ins C dx []) b = some o → b ≠ x → Hm b = some o) : Same H Hm := fun b o e => by
  refine k b o ?_ (ne_of_none e hx)
  rw [upd_ne (ne_of_none e hx), upd_ne (ne_of_none e hd)]
  exact e
theorem made_same0 {C : Addr} {H : Hp} {x dx : Addr} (hx : H x = none) (hd : H dx = none) : Same H (upd (upd H dx (.own x)) x (.ins C dx [])) := fun b o e => by
  rw [upd_ne (ne_of_none e hx), upd_ne (ne_of_none e hd)]
  exact e
theorem made_none {C : Addr} {H : Hp} {x dx pa : Addr} (hx : H x = none) (hd : H dx = none) (h : upd (upd H dx (.own x)) x (.ins C dx []) pa = none) : H pa = none := by
  cases e : H pa with
  | none => rfl
  | some o =>
    have := made_same0 (C := C) hx hd _ _ e
    rw [h] at this
    cases this
/-- a list of another's grows -/
theorem MAt.updL {C : Addr} {H : Hp} {x pa D : Addr} {m : MS} {ys zs : List V} (M : MAt C H x pa m) (h : H D = some (.lst ys)) (hne : D ≠ pa) : MAt C (upd H D (.lst zs)) x pa m := by
  obtain ⟨⟨dx, pv, tv, h1, h2, h3⟩, xs, h4, h5⟩ := M
  have t := Tups.lst (ys := zs) h
  exact ⟨⟨dx, pv, tv, by rw [upd_ne (ne_of h1 h (by intro z; cases z))]; exact h1, h2.tups t, h3.tups t⟩, xs, by rw [upd_ne hne.symm]; exact h4, h5.tups t⟩
end SK
namespace SK
open PySem PySem.Spec PyProof.Rows L2
/-! ### steps in a walk -/
theorem s_a1 : ("a" : Str) = tx [97] := by decide +kernel
theorem s_b1 : ("b" : Str) = tx [98] := by decide +kernel
theorem s_c1 : ("c" : Str) = tx [99] := by decide +kernel
abbrev lowN (r n : Nat) : Nat := min r n
theorem Same.ofG {H H1 : Hp} {p : Addr} {o : HO} (hp : H p = none) (hG : upd H p o = H1) : Same H H1 ∧ H1 p = some o := by
  subst hG
  exact ⟨Same.new hp o, upd_same⟩
theorem Same.keepN {H H1 H2 : Hp} {x pa : Addr} (s : Same H H1) (k : Keep x pa H1 H2) (hx : H x = none) (hp : H pa = none) : Same H H2 := fun b o e => k b o (s b o e) (ne_of_none e hx) (ne_of_none e hp)
theorem TupF.mono {H H' : Hp} {a : Addr} {xs : List V} (h : TupF H a xs) (s : Same H H') : TupF H' a xs := by
  obtain ⟨ob, h1, h2⟩ := h
  exact ⟨ob, h1, s _ _ h2⟩
theorem PlanAt.mk {H : Hp} {a b : Addr} {p : Pl} (h : TupF H b (p.pr.map V.int)) (ha : H a = some (.tup [.int p.room, .int p.many, .ref b, .int p.pop])) : PlanAt H (.ref a) p := ⟨a, b, rfl, ha, h⟩
theorem wat_push {H : Hp} {a : Addr} (h : H a = some (.tup [.str "push", .str "a"])) : WAt H (.push 97) (.ref a) := ⟨a, rfl, h.trans (congrArg (fun z => some (HO.tup [.str "push", .str z])) s_a1)⟩
theorem wat_pushb {H : Hp} {a : Addr} (h : H a = some (.tup [.str "push", .str "b"])) : WAt H (.push 98) (.ref a) := ⟨a, rfl, h.trans (congrArg (fun z => some (HO.tup [.str "push", .str z])) s_b1)⟩
theorem wat_pop {H : Hp} {a : Addr} (h : H a = some (.tup [.str "pop"])) : WAt H .pop (.ref a) := ⟨a, rfl, h⟩
theorem wat_times {H : Hp} {a : Addr} {n : Nat} {w : W} {u : V} (h : H a = some (.tup [.str "times", .int (n : Int), u])) (hu : WAt H w u) : WAt H (.times n w) (.ref a) := ⟨a, u, rfl, h, hu⟩
theorem wat_row3 {H : Hp} {a b : Addr} {w1 w2 w3 : W} {u1 u2 u3 : V} (h : H a = some (.tup [.str "row", .ref b])) (hb : H b = some (.tup [u1, u2, u3])) (h1 : WAt H w1 u1) (h2 : WAt H w2 u2) (h3 : WAt H w3 u3) : WAt H (.row (.cons w1 (.cons w2 (.cons w3 .nil)))) (.ref a) := ⟨a, b, _, rfl, h, hb, u1, _, rfl, h1, u2, _, rfl, h2, u3, _, rfl, h3, rfl⟩
theorem wat_row2 {H : Hp} {a b : Addr} {w1 w2 : W} {u1 u2 : V} (h : H a = some (.tup [.str "row", .ref b])) (hb : H b = some (.tup [u1, u2])) (h1 : WAt H w1 u1) (h2 : WAt H w2 u2) : WAt H (.row (.cons w1 (.cons w2 .nil))) (.ref a) := ⟨a, b, _, rfl, h, hb, u1, _, rfl, h1, u2, _, rfl, h2, rfl⟩
theorem trip_mk {H : Hp} {a : Addr} {g k : Nat} {l : List Nat} {x y : Int} {z : Str} (h : H a = some (.tup [.int x, .int y, .str z])) (hx : x = (g : Int)) (hy : y = (k : Int)) (hz : z = tx l) : TripAt H (.ref a) ⟨g, k, l⟩ := by
  subst hx hy hz
  exact ⟨a, rfl, h⟩
end SK
namespace SK
open PySem PySem.Spec PyProof.Rows L2
/-! ### list.count, flat items -/
theorem countP_vals {y : V} : ∀ {ys : List V} {us : List Value}, Vals ys us → ys.all flatV = true → us.countP (L2.eqU y) = ys.countP fun z => L2.eqV z y
  | _, _, .nil, _ => rfl
  | z :: ys, u :: us, .cons r t, f => by
    rw [List.all_cons, Bool.and_eq_true] at f
    rw [List.countP_cons, List.countP_cons, countP_vals t f.2, L2.eqU_of r f.1]
section
variable {X : Cx}
def rCount (K : PySem.W.Frag) : V → List V → Hp → VK → Prop := fun x xs H Q => ∃ (a : Addr) (ys : List V) (y : V), x = V.ref a ∧ xs = [y] ∧ SqL K H a ys ∧ flatV y = true ∧ ys.all flatV = true ∧ Q (.int ((ys.countP fun z => L2.eqV z y : Nat) : Int)) H
theorem mt_count : MtR X "list.count" (rCount X.K) := by
  intro pins s σ H x xs v us Q I rx rxs h
  obtain ⟨a, ys, y, rfl, rfl, hs, fy, fys, q⟩ := h
  cases rx
  cases rxs with
  | cons ry rt =>
    rename_i uy ut
    cases rt
    obtain ⟨its, rv, ⟨⟨cls, dd, data, sl⟩, n, ho, hc, hdn, hd⟩, hlen⟩ := I.list hs
    simp only at hc hd
    subst hc hd
    refine call_meets PySem.F.slot_list_count ⟨_, ho, rfl⟩ PySem.F.entry_list_count (PySem.F.args_list_count_2 _ _) (SeqAt.list_countAt a its.toArray n dd sl uy (L2.eqU y)) ⟨ho, fun u' hu' => L2.mem_eqAt ry fy rv fys u' (by simpa using hu'), ?_⟩
    have e : its.toArray.toList.countP (L2.eqU y) = ys.countP fun z => L2.eqV z y := countP_vals rv fys
    refine ⟨.int ((ys.countP fun z => L2.eqV z y : Nat) : Int), H, I.tok _, ⟨s.toks, ?_⟩, q⟩
    show Value.int ((its.toArray.toList.countP (L2.eqU y) : Nat) : Int) s.toks = Value.int ((ys.countP fun z => L2.eqV z y : Nat) : Int) s.toks
    rw [e]
end
/-! ### what is never reached -/
def tFalse : TS := fun _ _ _ => False
def eFalse : TE := fun _ _ _ => False
theorem psF {X : Cx} {b : List Stmt} : PSs X b tFalse := ⟨fun _ _ _ _ _ _ h => h.elim⟩
theorem ps1F {X : Cx} {b : Stmt} : PS X b tFalse := ⟨fun _ _ _ _ _ _ h => h.elim⟩
theorem peF {X : Cx} {e : Expr} : PE X e eFalse := ⟨fun _ _ _ _ _ _ h => h.elim⟩
/-! ### defs that raise -/
structure CalX (P : Program) (w : World) (K : PySem.W.Frag) (mg : Str → Option Value) (base : Heap) (k : Nat) (x : Str) (sp : Sp) : Prop where
  ex : ∃ (f : Addr) (fd : FuncData) (ps : List Str), FnOk P w K mg base (L2.CX P w) k f fd ps sp ∧ mg x = some (.ref f) ∧ PySem.W.keepIn K (.ref f) = true ∧ Binds K fd ps []
structure MetX (P : Program) (w : World) (K : PySem.W.Frag) (mg : Str → Option Value) (base : Heap) (k : Nat) (C : Addr) (m : Str) (sp : Sp) : Prop where
  ex : ∃ (f : Addr) (fd : FuncData) (ps : List Str), Cls K C ∧ Meth K C m f ∧ FnOk P w K mg base (L2.CX P w) k f fd ps sp ∧ Binds K fd ps []
section
variable {P : Program} {w : World} {K : PySem.W.Frag} {mg : Str → Option Value} {base : Heap} {C : Addr}
theorem Dn.calX {x : Str} {st : Stmt} {N ps : List Str} {k : Nat} {sp : Sp} (D : Dn K mg x st ps) (S : FnScope N ps (defScope st)) (len : ∀ vs H Q E, sp vs H Q E → vs.length = ps.length)
    (hbody : ∀ (f : Addr) (cdv : Value) (A : Around) (outer : List Env) (s : Shared) (H : Hp) (vs : List V) (Q : VK) (E : XK), Room k (A.deeper (envOfC x (defScope st) s.heap.objs.size f cdv)) → sp vs H Q E →
      ∃ t, PSs (cxOf (L2.CX P w) P w K mg base N x (defScope st) f cdv A outer s H E) (defBody st) t ∧ t { nx := fun _ H' => Q .non H', rt := Q } (start N vs) H) : CalX P w K mg base (k + 1) x sp := by
  obtain ⟨f, fd, F, hm, b⟩ := D.ex
  exact ⟨f, fd, ps, F.okX S len (fun cdv A outer s H vs Q E => hbody f cdv A outer s H vs Q E), hm, F.kp, b⟩
theorem Dm.metX {m q : Str} {st : Stmt} {N ps : List Str} {k : Nat} {sp : Sp} (D : Dm K C m q st ps) (c : Cls K C) (S : FnScope N ps (defScope st)) (len : ∀ vs H Q E, sp vs H Q E → vs.length = ps.length)
    (hbody : ∀ (f : Addr) (cdv : Value) (A : Around) (outer : List Env) (s : Shared) (H : Hp) (vs : List V) (Q : VK) (E : XK), Room k (A.deeper (envOfC q (defScope st) s.heap.objs.size f cdv)) → sp vs H Q E →
      ∃ t, PSs (cxOf (L2.CX P w) P w K mg base N q (defScope st) f cdv A outer s H E) (defBody st) t ∧ t { nx := fun _ H' => Q .non H', rt := Q } (start N vs) H) : MetX P w K mg base (k + 1) C m sp := by
  obtain ⟨f, fd, F, hm, b⟩ := D.ex
  exact ⟨f, fd, ps, c, hm, F.okX S len (fun cdv A outer s H vs Q E => hbody f cdv A outer s H vs Q E), b⟩
end
section
variable {X : Cx} {C : Addr} {k j : Nat} {sp : Sp} {E : XK} {x m : Str} {p pos apos : Pos} {e o : Expr} {es : List Expr} {ta : TE} {t : TA}
theorem pe_cX (c : CalX X.prog X.w X.K X.mg X.base k x sp) (hr : Room j X.A) (hk : k ≤ j) (hg : Gl X x) (hx : Passes (L2.CX X.prog X.w) X E) (ha : PA X (e :: es) t)
    (hdb : (x == ("__debug__" : Str)) = false := by decide) (he : starEach (e :: es) X.env = (false, eval e X.env) :: starEach es X.env := by rfl) (hpl : (backTo pos (starEach es X.env)).any (·.1) = false := by rfl) :
    PE X (.Call (.Name x p) (e :: es) [] pos) (tCall sp [] E t) := by
  obtain ⟨f, fd, ps, F, hm, kp, b⟩ := c.ex
  exact pe_call F (hr.mono hk) hg hm kp b .nil hx ha hdb he hpl
theorem pe_mtX {pl : Sem Bool} (c : MetX X.prog X.w X.K X.mg X.base k C m sp) (hr : Room j X.A) (hk : k ≤ j) (he : PE X o ta) (hx : Passes (L2.CX X.prog X.w) X E) (ha : PA X (e :: es) t)
    (hst : starEach (e :: es) X.env = (false, eval e X.env) :: starEach es X.env := by rfl) (hpl : (backTo pos (starEach es X.env)).any (·.1) = false := by rfl)
    (ht : eval (.Call (.Attribute o m apos) (e :: es) [] pos) X.env = (do
      let ov ← eval o X.env
      standAt apos.atName
      let (f, first) ← holding [ov] (getMethod ov m pl)
      callWith pos f first (backTo pos (starEach (e :: es) X.env)) (backToKw pos (keywordEach [] X.env))) := by rfl) :
    PE X (.Call (.Attribute o m apos) (e :: es) [] pos) (tMeth C m sp [] E ta t) := by
  obtain ⟨f, fd, ps, c1, hm, F, b⟩ := c.ex
  exact pe_meth he c1 hm F (hr.mono hk) b .nil hx ha hst hpl ht
end
/-- what a def's own context lets out -/
theorem outX {P : Program} {w : World} {K : PySem.W.Frag} {mg : Str → Option Value} {base : Heap} {N : List Str} {q : Str} {sc : Scope} {f : Addr} {cd : Value} {A : Around} {outer : List Env} {s : Shared} {H : Hp} {E : XK} :
    Takes (cxOf (L2.CX P w) P w K mg base N q sc f cd A outer s H E) (fun cls d _ H => E cls d H) := takes_of rfl rfl rfl rfl
theorem passX {P : Program} {w : World} {K : PySem.W.Frag} {mg : Str → Option Value} {base : Heap} {N : List Str} {q : Str} {sc : Scope} {f : Addr} {cd : Value} {A : Around} {outer : List Env} {s : Shared} {H : Hp} {E : XK} :
    Passes (L2.CX P w) (cxOf (L2.CX P w) P w K mg base N q sc f cd A outer s H E) E := passes_call outX (fun _ _ _ _ h => h)
/-- .. a lambda's -/
theorem outL {X : Cx} {A : Around} {outer : List Env} {s : Shared} {H : Hp} {E : XK} {sc : Scope} {f c' : Addr} : Takes (LamX.lamCx X A outer s H E sc f c') (fun cls d _ H => E cls d H) := takes_of rfl rfl rfl rfl
theorem passL {X : Cx} {A : Around} {outer : List Env} {s : Shared} {H : Hp} {E : XK} {sc : Scope} {f c' : Addr} : Passes (L2.CX X.prog X.w) (LamX.lamCx X A outer s H E sc f c') E := passes_call outL (fun _ _ _ _ h => h)
section
variable {X : Cx} {C : Addr} {k j : Nat} {sp : Sp} {x m : Str} {p pos apos : Pos} {e o : Expr} {es : List Expr} {ta : TE} {t : TA} {A : Around} {outer : List Env} {s : Shared} {H : Hp} {E : XK} {sc : Scope} {lf c' : Addr}
/-- such a call in a lambda -/
theorem pe_cL (c : CalX X.prog X.w X.K X.mg X.base k x sp) (hr : Room j (A.deeper (LamX.lamEnv X sc s.heap.objs.size lf c'))) (hk : k ≤ j) (hg : Gl (LamX.lamCx X A outer s H E sc lf c') x) (ha : PA (LamX.lamCx X A outer s H E sc lf c') (e :: es) t)
    (hdb : (x == ("__debug__" : Str)) = false := by decide) (he : starEach (e :: es) (LamX.lamCx X A outer s H E sc lf c').env = (false, eval e (LamX.lamCx X A outer s H E sc lf c').env) :: starEach es (LamX.lamCx X A outer s H E sc lf c').env := by rfl) (hpl : (backTo pos (starEach es (LamX.lamCx X A outer s H E sc lf c').env)).any (·.1) = false := by rfl) :
    PE (LamX.lamCx X A outer s H E sc lf c') (.Call (.Name x p) (e :: es) [] pos) (tCall sp [] E t) := pe_cX (X := LamX.lamCx X A outer s H E sc lf c') c hr hk hg (passL (X := X) (A := A) (outer := outer) (s := s) (H := H) (E := E) (sc := sc) (f := lf) (c' := c')) ha hdb he hpl
theorem pe_mtL {pl : Sem Bool} (c : MetX X.prog X.w X.K X.mg X.base k C m sp) (hr : Room j (A.deeper (LamX.lamEnv X sc s.heap.objs.size lf c'))) (hk : k ≤ j) (he : PE (LamX.lamCx X A outer s H E sc lf c') o ta) (ha : PA (LamX.lamCx X A outer s H E sc lf c') (e :: es) t)
    (hst : starEach (e :: es) (LamX.lamCx X A outer s H E sc lf c').env = (false, eval e (LamX.lamCx X A outer s H E sc lf c').env) :: starEach es (LamX.lamCx X A outer s H E sc lf c').env := by rfl) (hpl : (backTo pos (starEach es (LamX.lamCx X A outer s H E sc lf c').env)).any (·.1) = false := by rfl)
    (ht : eval (.Call (.Attribute o m apos) (e :: es) [] pos) (LamX.lamCx X A outer s H E sc lf c').env = (do
      let ov ← eval o (LamX.lamCx X A outer s H E sc lf c').env
      standAt apos.atName
      let (f, first) ← holding [ov] (getMethod ov m pl)
      callWith pos f first (backTo pos (starEach (e :: es) (LamX.lamCx X A outer s H E sc lf c').env)) (backToKw pos (keywordEach [] (LamX.lamCx X A outer s H E sc lf c').env))) := by rfl) :
    PE (LamX.lamCx X A outer s H E sc lf c') (.Call (.Attribute o m apos) (e :: es) [] pos) (tMeth C m sp [] E ta t) := pe_mtX (X := LamX.lamCx X A outer s H E sc lf c') c hr hk he (passL (X := X) (A := A) (outer := outer) (s := s) (H := H) (E := E) (sc := sc) (f := lf) (c' := c')) ha hst hpl ht
end
/-! ### an error of an own class that has no __init__ -/
structure ErrC (K : PySem.W.Frag) (mg : Str → Option Value) (x : Str) (D : Addr) : Prop where
  g : mg x = some (.ref D)
  ex : ∃ bmB B newId initId, ExcBaseFacts B newId initId bmB ∧ PySem.W.excIn K D bmB newId = true
  kp : PySem.W.keepIn K (.ref D) = true
  sub : PySem.W.subIn K (.ref D) (.type "BaseException") = some true
  ty : PySem.W.typeIn K (.ref D) = some (.type "type")
theorem ps_raiseN {X : Cx} {W : WX} {x m : Str} {D : Addr} {j : Nat} {p p2 pos rpos : Pos} (hc : X.calm = true) (tk : Takes X W) (e : ErrC X.K X.mg x D) (hg : Gl X x) (hdb : (x == ("__debug__" : Str)) = false := by decide) :
    PS X (.Raise (some (.Call (.Name x p) [.Constant (.str m) j p2] [] pos)) none rpos) (fun _ σ H => W (.ref D) none σ H) := by
  obtain ⟨bmB, B, newId, initId, F, q⟩ := e.ex
  exact ps_raise hc tk (pmk_own F q e.g e.kp (raises_own e.sub e.ty) hg hdb)
/-! ### which of the nine -/
structure Nine where
  c0 : Addr
  c1 : Addr
  c2 : Addr
  c3 : Addr
  c4 : Addr
  c5 : Addr
  c6 : Addr
  c7 : Addr
  c8 : Addr
structure NineG (mg : Str → Option Value) (n : Nine) (CS : Addr) : Prop where
  BadCount : ∃ u, mg "BadCount" = some u ∧ RelV (.ref n.c0) u
  BadPair : ∃ u, mg "BadPair" = some u ∧ RelV (.ref n.c1) u
  BadPlan : ∃ u, mg "BadPlan" = some u ∧ RelV (.ref n.c2) u
  BadSign : ∃ u, mg "BadSign" = some u ∧ RelV (.ref n.c3) u
  BadStack : ∃ u, mg "BadStack" = some u ∧ RelV (.ref n.c4) u
  BadSteps : ∃ u, mg "BadSteps" = some u ∧ RelV (.ref n.c5) u
  BadText : ∃ u, mg "BadText" = some u ∧ RelV (.ref n.c6) u
  BadTriple : ∃ u, mg "BadTriple" = some u ∧ RelV (.ref n.c7) u
  BadWork : ∃ u, mg "BadWork" = some u ∧ RelV (.ref n.c8) u
  sink : mg "SinkError" = some (.ref CS)
structure TOne (K : PySem.W.Frag) (n : Nine) (CS D : Addr) (i : Nat) : Prop where
  ex : ExcC K D
  sink : PySem.W.exmOne K (.ref D) (.ref CS) = some true
  k0 : PySem.W.kitOne K (.ref D) (.ref n.c0) = some (decide (i = 0))
  k1 : PySem.W.kitOne K (.ref D) (.ref n.c1) = some (decide (i = 1))
  k2 : PySem.W.kitOne K (.ref D) (.ref n.c2) = some (decide (i = 2))
  k3 : PySem.W.kitOne K (.ref D) (.ref n.c3) = some (decide (i = 3))
  k4 : PySem.W.kitOne K (.ref D) (.ref n.c4) = some (decide (i = 4))
  k5 : PySem.W.kitOne K (.ref D) (.ref n.c5) = some (decide (i = 5))
  k6 : PySem.W.kitOne K (.ref D) (.ref n.c6) = some (decide (i = 6))
  k7 : PySem.W.kitOne K (.ref D) (.ref n.c7) = some (decide (i = 7))
  k8 : PySem.W.kitOne K (.ref D) (.ref n.c8) = some (decide (i = 8))
  ve : PySem.W.kitOne K (.ref D) (.type "ValueError") = some true
def nineB (i : Nat) : List Bool := [decide (i = 0), decide (i = 1), decide (i = 2), decide (i = 3), decide (i = 4), decide (i = 5), decide (i = 6), decide (i = 7), decide (i = 8)]
def nineN : List Str := ["BadCount", "BadPair", "BadPlan", "BadSign", "BadStack", "BadSteps", "BadText", "BadTriple", "BadWork"]
theorem nine_count : ∀ i < 9, ((nineB i).map V.bl).countP (fun z => L2.eqV z (.bl true)) = 1 := by decide +kernel
theorem nine_at : ∀ i < 9, (nineB i)[i]? = some true := by decide +kernel
theorem nine_no : ∀ i < 9, ∀ m < i, (nineB i)[m]? = some false := by decide +kernel
/-- a plain error of the class D, its word w -/
def TT1 (D : Addr) (w : Str) : (XK → Hp → VK → Prop) → Hp → VK → Prop := fun tl H Q =>
  tl (fun cls d H' => cls = .ref D ∧ d = none ∧ ∀ (H2 : Hp) (p : Addr), Same H' H2 → H2 p = some (.tup [.str w, .int 0]) → Q (.ref p) H2) H Q
theorem b_VE : bootBuiltins "ValueError" = some (.type "ValueError") := by decide +kernel
def suiteOf : List Stmt → List Stmt
  | .Try _ (.ExceptHandler _ _ b _ :: _) _ _ _ :: _ => b
  | _ => []
end SK
namespace SK
open PySem PySem.Spec PyProof.Rows L2
/-! ### a machine and all that was done to it -/
abbrev fz' (l : List Nat) : V := V.str (tx l)
structure Deeds (pl : Pl) (first : List Nat) (past : List (List Nat)) (m : MS) : Prop where
  p : m.p = pl
  ok : m.Ok
  f1 : first.length ≤ pl.room
  l : m.l = gone pl.room first past.flatten
  z : m.z = sprc (cst pl) past.flatten
  t : m.t = ttold pl.room past.flatten
  pa : m.past = (List.range past.length).map fun i => (gone pl.room first (past.take i).flatten, sprc (cst pl) (past.take i).flatten, ttold pl.room (past.take i).flatten)
  sg : ∀ s ∈ past, ∀ c ∈ s, c = 45 ∨ c ∈ signs pl.many
  n : past.length ≤ 40
  ln : ∀ s ∈ past, s.length ≤ 256
theorem Deeds.len {pl : Pl} {first : List Nat} {past : List (List Nat)} {m : MS} (d : Deeds pl first past m) : m.past.length = past.length := by
  rw [d.pa, List.length_map, List.length_range]
theorem Deeds.flat {pl : Pl} {first : List Nat} {past : List (List Nat)} {m : MS} (d : Deeds pl first past m) : ∀ c ∈ past.flatten, c = 45 ∨ c ∈ signs pl.many := fun c hc => by
  obtain ⟨s, hs, h⟩ := List.mem_flatten.mp hc
  exact d.sg s hs c h
theorem flat_len : ∀ {past : List (List Nat)}, (∀ s ∈ past, s.length ≤ 256) → past.flatten.length ≤ 256 * past.length
  | [], _ => Nat.zero_le _
  | s :: r, h => by
    rw [List.flatten_cons, List.length_append, List.length_cons]
    have h1 := h s (List.mem_cons_self ..)
    have h2 := flat_len (past := r) fun x hx => h x (List.mem_cons_of_mem _ hx)
    omega
theorem Deeds.flen {pl : Pl} {first : List Nat} {past : List (List Nat)} {m : MS} (d : Deeds pl first past m) : past.flatten.length ≤ 10240 := by
  have := flat_len d.ln
  have := d.n
  omega
theorem Deeds.add {pl : Pl} {first s : List Nat} {past : List (List Nat)} {m : MS} {t : Tr} {z : Int} (d : Deeds pl first past m) (ht : t = ttold pl.room s) (hz : z = sprc (cst pl) s) (hs : ∀ c ∈ s, c = 45 ∨ c ∈ signs pl.many) (hl : s.length ≤ 256) (hn : past.length < 40) : Deeds pl first (past ++ [s]) (m.deed t z) := by
  have r1 : 1 ≤ pl.room := by rw [← d.p]; exact d.ok.p.r1
  have tok : TrOk m.p.room m.p.many t := by
    rw [ht, d.p]
    exact ttold_ok' r1 hs
  have ef : (past ++ [s]).flatten = past.flatten ++ s := by simp
  refine ⟨d.p, d.ok.deed tok z, d.f1, ?_, ?_, ?_, ?_, fun x hx => ?_, ?_, fun x hx => ?_⟩
  · show tby t m.l = _
    rw [d.l, ht, tby_told r1 s (gone_len _ _ d.f1), ef, gone_app]
  · show m.z + z = _
    rw [d.z, hz, ef, sprc_app]
  · show tjoin m.t t = _
    rw [d.t, ht, ef, ttold_app (many := pl.many) r1 d.flat hs]
  · show m.past ++ [(m.l, m.z, m.t)] = _
    rw [List.length_append, List.length_cons, List.length_nil, List.range_succ, List.map_append, d.pa, d.l, d.z, d.t]
    congr 1
    · refine List.map_congr_left fun i hi => ?_
      have hi' : i ≤ past.length := Nat.le_of_lt (List.mem_range.mp hi)
      rw [List.take_append_of_le_length hi']
    · rw [List.map_cons, List.map_nil, List.take_append_of_le_length (Nat.le_refl _), List.take_length]
  · rcases List.mem_append.mp hx with h | h
    · exact d.sg x h
    · have e : x = s := by simpa using h
      subst e
      exact hs
  · rw [List.length_append]
    show past.length + 1 ≤ 40
    omega
  · rcases List.mem_append.mp hx with h | h
    · exact d.ln x h
    · have e : x = s := by simpa using h
      subst e
      exact hl
theorem Deeds.back {pl : Pl} {first s : List Nat} {past : List (List Nat)} {m : MS} (d : Deeds pl first (past ++ [s]) m) {ps : List (List Nat × Int × Tr)} {y : List Nat × Int × Tr} (h : m.past = ps ++ [y]) : Deeds pl first past ⟨m.p, y.1, y.2.1, y.2.2, ps⟩ := by
  have e := d.pa
  rw [h, List.length_append, List.length_cons, List.length_nil, List.range_succ, List.map_append, List.map_cons, List.map_nil] at e
  obtain ⟨e1, e2⟩ := List.append_inj' e rfl
  replace e2 := List.head_eq_of_cons_eq e2
  rw [List.take_append_of_le_length (Nat.le_refl _), List.take_length] at e2
  have e1' : ps = (List.range past.length).map fun i => (gone pl.room first (past.take i).flatten, sprc (cst pl) (past.take i).flatten, ttold pl.room (past.take i).flatten) := by
    rw [e1]
    refine List.map_congr_left fun i hi => ?_
    rw [List.take_append_of_le_length (Nat.le_of_lt (List.mem_range.mp hi))]
  have hy : y ∈ m.past := by rw [h]; exact List.mem_append_right _ (List.mem_singleton.mpr rfl)
  have hps : ∀ x ∈ ps, x ∈ m.past := fun x hx => by rw [h]; exact List.mem_append_left _ hx
  obtain ⟨o1, o2, o3⟩ := d.ok.past y hy
  refine ⟨d.p, ⟨d.ok.p, o1, o2, o3, fun x hx => d.ok.past x (hps x hx)⟩, d.f1, by rw [e2], by rw [e2], by rw [e2], e1', fun x hx => d.sg x (List.mem_append_left _ hx), ?_, fun x hx => d.ln x (List.mem_append_left _ hx)⟩
  have := d.n
  rw [List.length_append] at this
  omega
theorem Deeds.zero {pl : Pl} {first : List Nat} (ok : pl.Ok) (h1 : first.length ≤ pl.room) (h2 : ∀ c ∈ first, c ∈ signs pl.many) : Deeds pl first [] ⟨pl, first, 0, tunt pl.room, []⟩ :=
  ⟨rfl, ⟨ok, h1, h2, tunt_ok, fun x hx => by simp at hx⟩, h1, rfl, rfl, rfl, rfl, fun s hs => by simp at hs, Nat.zero_le _, fun s hs => by simp at hs⟩
theorem W.Tm_le {a b : Nat} (h : a ≤ b) : ∀ w : W, w.Tm a → w.Tm b := by
  intro w
  refine W.rec (motive_1 := fun w => w.Tm a → w.Tm b) (motive_2 := fun ws => ws.Tm a → ws.Tm b) ?_ ?_ ?_ ?_ ?_ ?_ w
  · intro c _; trivial
  · intro _; trivial
  · intro ws ih x; exact ⟨x.1, ih x.2⟩
  · intro n w ih x; exact ⟨Nat.le_trans x.1 h, ih x.2⟩
  · intro _; trivial
  · intro w r i1 i2 x; exact ⟨i1 x.1, i2 x.2⟩
end SK
namespace SK
open PySem PySem.Spec PyProof.Rows L2
/-! ### the machine's law as it stands in the heap -/

def md0 (v : V) (first : List Nat) (ql : Addr) : List (Key × V) := [(.inr "plan", v), (.inr "first", .str (tx first)), (.inr "past", .ref ql)]
structure D10 (C : Addr) (H : Hp) (p q md ql x pm : Addr) (ns : List Int) (z : Int) (v : V) (pl : Pl) (first : List Nat) (past : List (List Nat)) (m : MS) : Prop where
  B : BoxAt H p q ns z
  P : PlanAt H v pl
  D : H md = some (.dK (md0 v first ql))
  L : H ql = some (.lst (past.map fz'))
  M : MAt C H x pm m
  n1 : ql ≠ p
  n2 : ql ≠ q
  n3 : ql ≠ pm
  n4 : pm ≠ p
  n5 : pm ≠ q
section
variable {C : Addr} {H H' : Hp} {p q md ql x pm : Addr} {ns ns' : List Int} {z z' : Int} {v : V} {pl : Pl} {first : List Nat} {past past' : List (List Nat)} {m m' : MS}
theorem MAt.tupsL (M : MAt C H x pm m) (t : Tups H H') (hx : ∀ o, H x = some o → H' x = some o) (hp : ∀ o, H pm = some o → H' pm = some o) : MAt C H' x pm m := by
  obtain ⟨⟨dx, pv, tv, h1, h2, h3⟩, xs, h4, h5⟩ := M
  exact ⟨⟨dx, pv, tv, hx _ h1, h2.tups t, h3.tups t⟩, xs, hp _ h4, h5.tups t⟩
theorem D10.same (d : D10 C H p q md ql x pm ns z v pl first past m) (s : Same H H') : D10 C H' p q md ql x pm ns z v pl first past m :=
  ⟨d.B.mono s, d.P.mono s, s _ _ d.D, s _ _ d.L, d.M.mono s, d.n1, d.n2, d.n3, d.n4, d.n5⟩
theorem D10.xp (d : D10 C H p q md ql x pm ns z v pl first past m) : x ≠ p ∧ x ≠ q ∧ x ≠ ql ∧ x ≠ pm ∧ md ≠ p ∧ md ≠ q ∧ md ≠ ql ∧ md ≠ pm ∧ md ≠ x := by
  obtain ⟨dx, fs, ho, _⟩ := d.M.at
  obtain ⟨xs, hl, _⟩ := d.M.pl
  exact ⟨ne_of ho d.B.b (by intro z; cases z), ne_of ho d.B.l (by intro z; cases z), ne_of ho d.L (by intro z; cases z), d.M.ne, ne_of d.D d.B.b (by intro z; cases z), ne_of d.D d.B.l (by intro z; cases z), ne_of d.D d.L (by intro z; cases z), ne_of d.D hl (by intro z; cases z), ne_of d.D ho (by intro z; cases z)⟩
theorem D10.box (d : D10 C H p q md ql x pm ns z v pl first past m) (B' : BoxAt H' p q ns' z') (k : Keep p q H H') : D10 C H' p q md ql x pm ns' z' v pl first past m := by
  obtain ⟨e1, e2, e3, e4, e5, e6, e7, e8, e9⟩ := d.xp
  have t := k.tups d.B
  exact ⟨B', d.P.tups t, k _ _ d.D e5 e6, k _ _ d.L d.n1 d.n2, d.M.tupsL t (fun o e => k _ _ e e1 e2) (fun o e => k _ _ e d.n4 d.n5), d.n1, d.n2, d.n3, d.n4, d.n5⟩
theorem D10.mach (d : D10 C H p q md ql x pm ns z v pl first past m) (M' : MAt C H' x pm m') (k : Keep x pm H H') : D10 C H' p q md ql x pm ns z v pl first past m' := by
  obtain ⟨e1, e2, e3, e4, e5, e6, e7, e8, e9⟩ := d.xp
  have t := k.tupsM d.M
  exact ⟨⟨k _ _ d.B.b e1.symm d.n4.symm, k _ _ d.B.l e2.symm d.n5.symm, d.B.ne⟩, d.P.tups t, k _ _ d.D e9 e8, k _ _ d.L e3.symm d.n3, M', d.n1, d.n2, d.n3, d.n4, d.n5⟩
theorem D10.list (d : D10 C H p q md ql x pm ns z v pl first past m) : D10 C (upd H ql (.lst (past'.map fz'))) p q md ql x pm ns z v pl first past' m := by
  obtain ⟨e1, e2, e3, e4, e5, e6, e7, e8, e9⟩ := d.xp
  have t := Tups.lst (ys := past'.map fz') d.L
  exact ⟨⟨by rw [upd_ne d.n1.symm]; exact d.B.b, by rw [upd_ne d.n2.symm]; exact d.B.l, d.B.ne⟩, d.P.tups t, by rw [upd_ne e7]; exact d.D, upd_same, d.M.updL d.L d.n3, d.n1, d.n2, d.n3, d.n4, d.n5⟩
theorem D10.ext (d : D10 C H p q md ql x pm ns z v pl first past m) (e : LamX.ExtN H H') : D10 C H' p q md ql x pm ns z v pl first past m := by
  have t : Tups H H' := ⟨fun b xs h => e b _ h (by intro ps z; cases z), fun b o xs h => e b _ h (by intro ps z; cases z)⟩
  obtain ⟨dx, fs, ho, _⟩ := d.M.at
  obtain ⟨xs, hl, _⟩ := d.M.pl
  exact ⟨⟨e _ _ d.B.b (by intro ps z; cases z), e _ _ d.B.l (by intro ps z; cases z), d.B.ne⟩, d.P.tups t, e _ _ d.D (by intro ps z; cases z), e _ _ d.L (by intro ps z; cases z), d.M.tupsL t (fun o h => by
    have : o = _ := Option.some.inj (h.symm.trans ho)
    subst this
    exact e _ _ h (by intro ps z; cases z)) (fun o h => by
    have : o = _ := Option.some.inj (h.symm.trans hl)
    subst this
    exact e _ _ h (by intro ps z; cases z)), d.n1, d.n2, d.n3, d.n4, d.n5⟩
end
section
variable {C : Addr} {H H' : Hp} {p q md ql x pm : Addr} {ns ns' : List Int} {z z' : Int} {v : V} {pl : Pl} {first : List Nat} {past past' : List (List Nat)} {m m' : MS}
theorem D10.gPlan (d : D10 C H p q md ql x pm ns z v pl first past m) : DGet H md (.str "plan") (some v) := .inl ⟨_, .inr "plan", .inl d.D, rfl, rfl⟩
theorem D10.gFirst (d : D10 C H p q md ql x pm ns z v pl first past m) : DGet H md (.str "first") (some (.str (tx first))) := .inl ⟨_, .inr "first", .inl d.D, rfl, rfl⟩
theorem D10.gPast (d : D10 C H p q md ql x pm ns z v pl first past m) : DGet H md (.str "past") (some (.ref ql)) := .inl ⟨_, .inr "past", .inl d.D, rfl, rfl⟩
end
theorem join_past (past : List (List Nat)) : Txt.join ("" : Str) (past.map tx) = tx past.flatten := by
  rw [s_empty]
  exact join_tx past
theorem len_past : ∀ past : List (List Nat), ((past.map tx).map (·.length)).sum = past.flatten.length
  | [] => rfl
  | s :: r => by
    rw [List.map_cons, List.map_cons, List.sum_cons, len_past r, List.flatten_cons, List.length_append, tx_len]
theorem Deeds.join {pl : Pl} {first : List Nat} {past : List (List Nat)} {m : MS} (d : Deeds pl first past m) : ((past.map tx).map (·.length)).sum + (past.map tx).length * ("" : Str).length ≤ 16777216 := by
  rw [len_past, s_empty, List.length_map]
  have := d.flen
  show past.flatten.length + past.length * 0 ≤ _
  omega
theorem Deeds.lt {pl : Pl} {first : List Nat} {past : List (List Nat)} {m : MS} (d : Deeds pl first past m) : ∀ l ∈ past, ∀ c ∈ l, c < 1114112 := fun l hl c hc => by
  rcases d.sg l hl c hc with e | e
  · omega
  · exact signs_lt e
theorem sign_ix {M c : Nat} (hM : c ∈ signs M) : c - 97 < M ∧ ∃ r, Builtin.Str.occurrences ("abcd" : Str) (tx [c]) 0 ("abcd" : Str).length 1 = (c - 97) :: r := by
  have h4 : c = 97 ∨ c = 98 ∨ c = 99 ∨ c = 100 := by
    have := List.mem_of_mem_take (show c ∈ List.take M [97, 98, 99, 100] from hM)
    simpa using this
  have hj : c - 97 < M := by
    match M, hM with
    | 0, hM => simp [signs] at hM
    | 1, hM => simp [signs] at hM; omega
    | 2, hM => simp [signs] at hM; omega
    | 3, hM => simp [signs] at hM; omega
    | M + 4, _ => omega
  refine ⟨hj, ?_⟩
  rw [s_abcd]
  rcases h4 with rfl | rfl | rfl | rfl
  · exact ⟨[], by decide +kernel⟩
  · exact ⟨[], by decide +kernel⟩
  · exact ⟨[], by decide +kernel⟩
  · exact ⟨[], by decide +kernel⟩
theorem hu1 {k : Nat} {A : Around} (r : Room k A) : A.units + 1 < cLine := by have := r.un; omega
theorem hu0 {k : Nat} {A : Around} (r : Room k A) : A.units < cLine := by have := r.un; omega
open LamX in
theorem Tabs.keepM {T : List (Addr × Str)} {C : Addr} {H H' : Hp} {x pa : Addr} {m : MS} (t : Tabs T H) (M : MAt C H x pa m) (k : Keep x pa H H') : Tabs T H' := fun y hy => by
  obtain ⟨ps, h1, h2, h3⟩ := t y hy
  obtain ⟨dx, fs, ho, _⟩ := M.at
  obtain ⟨xs, hl, _⟩ := M.pl
  refine ⟨ps, ?_, h2, fun pos cv hc => ?_⟩
  · exact k _ _ h1 (ne_of h1 ho (by intro z; cases z)) (ne_of h1 hl (by intro z; cases z))
  · obtain ⟨c, e1, e2⟩ := h3 pos cv hc
    exact ⟨c, e1, k _ _ e2 (ne_of e2 ho (by intro z; unfold CodeO at z; cases z)) (ne_of e2 hl (by intro z; unfold CodeO at z; cases z))⟩
/-- no sign of the plan -/
def BadSg (many : Nat) (b : V) : Prop := flatV b = true ∧ L2.inV b ((signs many).map fun c => V.str (tx [c])) = false
theorem bad10a : ∀ many < 5, L2.inV V.non ((signs many).map fun c => V.str (tx [c])) = false := by decide +kernel
theorem bad10b : ∀ many < 5, L2.inV (V.str "") ((signs many).map fun c => V.str (tx [c])) = false := by decide +kernel
theorem bad10c : ∀ many < 5, L2.inV (V.str "ab") ((signs many).map fun c => V.str (tx [c])) = false := by decide +kernel
theorem bad10d : ∀ many < 5, L2.inV (V.str "e") ((signs many).map fun c => V.str (tx [c])) = false := by decide +kernel
theorem bad10e : ∀ many < 5, L2.inV (V.str "-") ((signs many).map fun c => V.str (tx [c])) = false := by decide +kernel
theorem bad10f : ∀ many < 5, L2.inV (V.int 0) ((signs many).map fun c => V.str (tx [c])) = false := by decide +kernel
theorem bad10g : ∀ many < 5, L2.inV (V.str "aa") ((signs many).map fun c => V.str (tx [c])) = false := by decide +kernel
theorem bad10 {many : Nat} (h : many ≤ 4) {r : Int} (r0 : 0 ≤ r) (r1 : r < 7) : ∃ b, atI [V.non, .str "", .str "ab", .str "e", .str "-", .int 0, .str "aa"] r = some b ∧ BadSg many b := by
  have h5 : many < 5 := by omega
  have hr : r = 0 ∨ r = 1 ∨ r = 2 ∨ r = 3 ∨ r = 4 ∨ r = 5 ∨ r = 6 := by omega
  rcases hr with rfl | rfl | rfl | rfl | rfl | rfl | rfl
  · exact ⟨_, rfl, rfl, bad10a _ h5⟩
  · exact ⟨_, rfl, rfl, bad10b _ h5⟩
  · exact ⟨_, rfl, rfl, bad10c _ h5⟩
  · exact ⟨_, rfl, rfl, bad10d _ h5⟩
  · exact ⟨_, rfl, rfl, bad10e _ h5⟩
  · exact ⟨_, rfl, rfl, bad10f _ h5⟩
  · exact ⟨_, rfl, rfl, bad10g _ h5⟩
theorem eq_si {K : PySem.W.Frag} {H : Hp} {Q : VK} {a b : Addr} {w : Str} {i : Int} (hw : PyData.strOk w = true) (ha : H a = some (.tup [.str w, .int i])) (hb : H b = some (.tup [.str w, .int i])) (q : Q (.bl true) H) : rEqD K (.ref a) (.ref b) H Q := by
  have cl : PyData.canLay0 (.tuple [.str w, .int i]) = true := by
    show (PyData.strOk w && (true && true)) = true
    rw [hw]
    rfl
  have sh : SeqAt.shaped (.tuple [.str w, .int i]) = true := by
    show (PyData.canLay0 (.tuple [.str w, .int i]) && decide (PyData.depth (.tuple [.str w, .int i]) ≤ 64)) = true
    rw [cl]
    rfl
  refine ⟨_, _, .tup (SqT.of ha) (.cons (.str _) (.cons (.int _) .nil)), .tup (SqT.of hb) (.cons (.str _) (.cons (.int _) .nil)), sh, sh, ?_⟩
  rw [SeqAt.eqv_refl _ cl]
  exact q
theorem fallV_ne {room : Nat} {L : List Nat} (h : ¬ L.length = room) : fallV room L = .non := by
  unfold fallV
  cases L with
  | nil => rfl
  | cons c r => exact if_neg h
theorem fallV_eq {room c : Nat} {r : List Nat} (h : (c :: r).length = room) : fallV room (c :: r) = .str (tx [c]) := if_pos h
open LamX in
theorem tabs_updK {T : List (Addr × Str)} {H : Hp} {a : Addr} {kvs : List (Key × V)} {o : HO} (t : Tabs T H) (h : H a = some (.dK kvs)) : Tabs T (upd H a o) := fun p hp => by
  obtain ⟨ps, h1, h2, h3⟩ := t p hp
  refine ⟨ps, ?_, h2, fun pos cv hc => ?_⟩
  · rw [upd_ne (ne_of h1 h (by intro z; cases z))]
    exact h1
  · obtain ⟨c, e1, e2⟩ := h3 pos cv hc
    exact ⟨c, e1, by rw [upd_ne (ne_of e2 h (by intro z; unfold CodeO at z; cases z))]; exact e2⟩
theorem Tups.dK {H : Hp} {a : Addr} {kvs : List (Key × V)} {o : HO} (h : H a = some (.dK kvs)) : Tups H (upd H a o) := ⟨fun b zs e => by
  rw [upd_ne (ne_of e h (by intro z; cases z))]
  exact e, fun b ob zs e => by
  rw [upd_ne (ne_of e h (by intro z; cases z))]
  exact e⟩
/-! ### promises -/
def spLPrice : Sp := fun vs H Q _ => ∃ (v : V) (p : Pl) (l : List Nat), vs = [v, .str (tx l)] ∧ PlanAt H v p ∧ p.Ok ∧ l.length ≤ 20000 ∧ (∀ c ∈ l, c = 45 ∨ c ∈ signs p.many) ∧ giv (.int (sprc (cst p) l)) H Q
open LamX in
def spLDeed (C : Addr) (T : List (Addr × Str)) : Sp := fun vs H Q _ => ∃ (p q md ql x pm : Addr) (ns : List Int) (z : Int) (v : V) (pl : Pl) (first : List Nat) (past : List (List Nat)) (m : MS),
  vs = [.ref p, .ref md, .ref x] ∧ D10 C H p q md ql x pm ns z v pl first past m ∧ Deeds pl first past m ∧ past.length ≤ 35 ∧ (∀ c ∈ first, c ∈ signs pl.many) ∧ Tabs T H ∧
  ∀ (ns' : List Int) (z' : Int) (past' : List (List Nat)) (m' : MS) (H' : Hp), D10 C H' p q md ql x pm ns' z' v pl first past' m' → Deeds pl first past' m' → past'.length ≤ past.length + 1 → Tabs T H' → Q (.bl true) H'
end SK
namespace SK
open PySem PySem.Spec PyProof.Rows L2
/-! ### two walks in one list -/
theorem lc2_range {lo : Int} {n : Nat} {wi1 : TI} {g g1 : TG} {tt tt1 : TT} {te : TE} {vs vs1 : List Nat} {σ : L2.St} {H1 : Hp} {D : Addr} {Qd : Hp → Prop} (Pv : Nat → Hp → Prop) (h0 : Pv 0 (upd H1 D (.lst [])))
    (hs : ∀ i H, i < n → Pv i H → g (.int (lo + i)) (wipe σ vs) H fun σ2 H2 => wipe σ2 vs = wipe σ vs ∧ tt σ2 H2 fun b H3 =>
      if b = true then wi1 σ2 H3 fun J1 H4 => ∃ W1 : Nat → Nat → Hp → Prop, (∃ m, W1 0 m H4) ∧ ∀ j k H, W1 j k H →
        (J1.stop j H ∧ Pv (i + 1) H) ∨ (J1.go j H ∧ ∃ Nx1 : Hp → Prop, (∀ H', Nx1 H' → ∃ k', k' < k ∧ W1 (j + 1) k' H') ∧ ∀ x H', J1.yld j H x H' → g1 x (wipe σ2 vs1) H' fun σ3 H5 => wipe σ3 vs1 = wipe σ2 vs1 ∧ tt1 σ3 H5 fun b H6 =>
          if b = true then te σ3 H6 fun y H7 => ∃ acc, H7 D = some (.lst acc) ∧ acc.length < sizeLine ∧ Nx1 (upd H7 D (.lst (acc ++ [y]))) else Nx1 H6)
      else Pv (i + 1) H3) (hd : ∀ H, Pv n H → Qd H) :
    ∃ W : Nat → Nat → Hp → Prop, (∃ m, W 0 m (upd H1 D (.lst []))) ∧ ∀ i m H, W i m H →
      ((Itr lo n).stop i H ∧ Qd H) ∨ ((Itr lo n).go i H ∧ ∃ Nx : Hp → Prop, (∀ H', Nx H' → ∃ m', m' < m ∧ W (i + 1) m' H') ∧ ∀ x H', (Itr lo n).yld i H x H' → g x (wipe σ vs) H' fun σ2 H2 => wipe σ2 vs = wipe σ vs ∧ tt σ2 H2 fun b H3 =>
        if b = true then wi1 σ2 H3 fun J1 H4 => ∃ W1 : Nat → Nat → Hp → Prop, (∃ m, W1 0 m H4) ∧ ∀ j k H, W1 j k H →
          (J1.stop j H ∧ Nx H) ∨ (J1.go j H ∧ ∃ Nx1 : Hp → Prop, (∀ H', Nx1 H' → ∃ k', k' < k ∧ W1 (j + 1) k' H') ∧ ∀ x H', J1.yld j H x H' → g1 x (wipe σ2 vs1) H' fun σ3 H5 => wipe σ3 vs1 = wipe σ2 vs1 ∧ tt1 σ3 H5 fun b H6 =>
            if b = true then te σ3 H6 fun y H7 => ∃ acc, H7 D = some (.lst acc) ∧ acc.length < sizeLine ∧ Nx1 (upd H7 D (.lst (acc ++ [y]))) else Nx1 H6)
        else Nx H3) := by
  refine ⟨fun i m H => m = n - i ∧ i ≤ n ∧ Pv i H, ⟨n, by simp, Nat.zero_le _, h0⟩, ?_⟩
  rintro i m H ⟨rfl, hi, p⟩
  by_cases hlt : i < n
  · refine .inr ⟨hlt, Pv (i + 1), fun H' p' => ⟨n - (i + 1), by omega, rfl, hlt, p'⟩, fun x H' y => ?_⟩
    obtain ⟨e, y⟩ := y
    subst e y
    exact hs i _ hlt p
  · have e : i = n := by omega
    subst e
    exact .inl ⟨Nat.le_refl _, hd H p⟩
/-- the inner one -/
theorem in_range {lo : Int} {n : Nat} {g : TG} {tt : TT} {te : TE} {vs : List Nat} {σ : L2.St} {H1 : Hp} {D : Addr} {Qd : Hp → Prop} (Pv : Nat → Hp → Prop) (h0 : Pv 0 H1)
    (hs : ∀ i H, i < n → Pv i H → g (.int (lo + i)) (wipe σ vs) H fun σ2 H2 => wipe σ2 vs = wipe σ vs ∧ tt σ2 H2 fun b H3 =>
      if b = true then te σ2 H3 fun y H4 => ∃ acc, H4 D = some (.lst acc) ∧ acc.length < sizeLine ∧ Pv (i + 1) (upd H4 D (.lst (acc ++ [y]))) else Pv (i + 1) H3) (hd : ∀ H, Pv n H → Qd H) :
    ∃ W : Nat → Nat → Hp → Prop, (∃ m, W 0 m H1) ∧ ∀ i m H, W i m H →
      ((Itr lo n).stop i H ∧ Qd H) ∨ ((Itr lo n).go i H ∧ ∃ Nx : Hp → Prop, (∀ H', Nx H' → ∃ m', m' < m ∧ W (i + 1) m' H') ∧ ∀ x H', (Itr lo n).yld i H x H' → g x (wipe σ vs) H' fun σ2 H2 => wipe σ2 vs = wipe σ vs ∧ tt σ2 H2 fun b H3 =>
        if b = true then te σ2 H3 fun y H4 => ∃ acc, H4 D = some (.lst acc) ∧ acc.length < sizeLine ∧ Nx (upd H4 D (.lst (acc ++ [y]))) else Nx H3) := by
  refine ⟨fun i m H => m = n - i ∧ i ≤ n ∧ Pv i H, ⟨n, by simp, Nat.zero_le _, h0⟩, ?_⟩
  rintro i m H ⟨rfl, hi, p⟩
  by_cases hlt : i < n
  · refine .inr ⟨hlt, Pv (i + 1), fun H' p' => ⟨n - (i + 1), by omega, rfl, hlt, p'⟩, fun x H' y => ?_⟩
    obtain ⟨e, y⟩ := y
    subst e y
    exact hs i _ hlt p
  · have e : i = n := by omega
    subst e
    exact .inl ⟨Nat.le_refl _, hd H p⟩
/-! ### how many triples -/
def cutR (g j : Nat) : List (Nat × Nat) := ((List.range j).filter fun k => decide (0 < k) || decide (g = 0)).map fun k => (g, k)
def cutN (room s i : Nat) : List (Nat × Nat) := (List.range i).flatMap fun g => cutR g (room - max g s + 1)
def cutL (room s : Nat) : List (Nat × Nat) := cutN room s (room + 1)
def tally (room many : Nat) : Nat := ((List.range (room + 1)).map fun s => many ^ s * (cutL room s).length).sum
theorem cutR_len (g : Nat) : ∀ j, (cutR g j).length ≤ j := fun j => by
  unfold cutR
  rw [List.length_map]
  have := List.length_filter_le (fun k => decide (0 < k) || decide (g = 0)) (List.range j)
  rw [List.length_range] at this
  exact this
theorem cutR_succ (g j : Nat) : cutR g (j + 1) = cutR g j ++ if 0 < j ∨ g = 0 then [(g, j)] else [] := by
  unfold cutR
  rw [List.range_succ, List.filter_append, List.map_append]
  by_cases h : 0 < j ∨ g = 0
  · rw [if_pos h]
    have e : (decide (0 < j) || decide (g = 0)) = true := by simpa using h
    simp [e]
  · rw [if_neg h]
    have e : (decide (0 < j) || decide (g = 0)) = false := by
      rw [Bool.eq_false_iff]
      intro z
      exact h (by simpa using z)
    simp [e]
theorem cutN_succ (room s i : Nat) : cutN room s (i + 1) = cutN room s i ++ cutR i (room - max i s + 1) := by
  unfold cutN
  rw [List.range_succ, List.flatMap_append]
  simp
theorem cutN_len {room s : Nat} (h : room ≤ 9) : ∀ i, (cutN room s i).length ≤ 10 * i
  | 0 => Nat.zero_le _
  | i + 1 => by
    rw [cutN_succ, List.length_append]
    have := cutN_len (s := s) h i
    have := cutR_len i (room - max i s + 1)
    omega
theorem cutL_len {room s : Nat} (h : room ≤ 9) : (cutL room s).length ≤ 100 := by
  have := cutN_len (s := s) h (room + 1)
  unfold cutL
  omega
theorem PairsAt.snoc {H : Hp} {w : Nat × Nat} {a : Addr} (ha : H a = some (.tup [.int (w.1 : Int), .int (w.2 : Int)])) : ∀ {ps : List (Nat × Nat)} {vs : List V}, PairsAt H ps vs → PairsAt H (ps ++ [w]) (vs ++ [.ref a])
  | [], _, h => by
    cases h
    exact ⟨a, [], rfl, ha, rfl⟩
  | _ :: _, _, ⟨b, s, h1, h2, h3⟩ => by
    subst h1
    exact ⟨b, s ++ [.ref a], rfl, h2, h3.snoc ha⟩
def spCuts : Sp := fun vs H Q _ => ∃ (v : V) (p : Pl) (s : Nat), vs = [v, .int (s : Int)] ∧ PlanAt H v p ∧ p.Ok ∧ s ≤ p.room ∧ ∀ (D : Addr) (H' : Hp) (xs : List V), Same H H' → H D = none → H' D = some (.lst xs) → PairsAt H' (cutL p.room s) xs → Q (.ref D) H'
def spLaying : Sp := fun vs H Q _ => ∃ (v : V) (p : Pl) (s : Nat), vs = [v, .int (s : Int)] ∧ PlanAt H v p ∧ p.Ok ∧ s ≤ p.room ∧ giv (.int ((p.many ^ s * (cutL p.room s).length : Nat) : Int)) H Q
def spMany : Sp := fun vs H Q _ => ∃ (v : V) (p : Pl), vs = [v] ∧ PlanAt H v p ∧ p.Ok ∧ giv (.int ((tally p.room p.many : Nat) : Int)) H Q
end SK
namespace SK
open PySem PySem.Spec PyProof.Rows L2
/-! ### texts by their numbers -/
def dg (m : Nat) : Nat → Nat → List Nat
  | 0, _ => []
  | s + 1, n => dg m s (n / m) ++ [97 + n % m]
def nm (m : Nat) (l : List Nat) : Nat := l.foldl (fun a c => a * m + (c - 97)) 0
theorem nm_app (m : Nat) (l : List Nat) (c : Nat) : nm m (l ++ [c]) = nm m l * m + (c - 97) := by
  unfold nm
  rw [List.foldl_append]
  rfl
theorem dg_len (m : Nat) : ∀ s n, (dg m s n).length = s
  | 0, _ => rfl
  | s + 1, n => by
    show (dg m s (n / m) ++ [_]).length = s + 1
    rw [List.length_append, dg_len m s]
    rfl
theorem dg_in {m : Nat} (h1 : 1 ≤ m) (h4 : m ≤ 4) : ∀ s n, ∀ c ∈ dg m s n, c ∈ signs m
  | 0, _, c, h => by simp [dg] at h
  | s + 1, n, c, h => by
    rcases List.mem_append.mp (show c ∈ dg m s (n / m) ++ [97 + n % m] from h) with h | h
    · exact dg_in h1 h4 s _ c h
    · have e : c = 97 + n % m := by simpa using h
      have := Nat.mod_lt n h1
      exact (signs_mem h4).mpr (by omega)
theorem nm_dg {m : Nat} (h1 : 1 ≤ m) : ∀ s n, n < m ^ s → nm m (dg m s n) = n
  | 0, n, h => by
    have e : n = 0 := by simpa using h
    subst e
    rfl
  | s + 1, n, h => by
    show nm m (dg m s (n / m) ++ [97 + n % m]) = n
    have hq : n / m < m ^ s := Nat.div_lt_of_lt_mul (by rw [Nat.mul_comm, ← Nat.pow_succ]; exact h)
    rw [nm_app, nm_dg h1 s _ hq, Nat.add_sub_cancel_left, Nat.mul_comm]
    exact Nat.div_add_mod n m
theorem rev_ind {α : Type} {P : List α → Prop} (h0 : P []) (hs : ∀ l x, P l → P (l ++ [x])) (l : List α) : P l := by
  have h : ∀ n (l : List α), l.length = n → P l := fun n => by
    induction n with
    | zero =>
      intro l hl
      rw [List.length_eq_zero_iff.mp hl]
      exact h0
    | succ n ih =>
      intro l hl
      rcases List.eq_nil_or_concat l with e | ⟨r, x, e⟩
      · rw [e] at hl
        cases hl
      · rw [List.concat_eq_append] at e
        subst e
        refine hs r x (ih r ?_)
        rw [List.length_append] at hl
        exact Nat.succ.inj hl
  exact h _ l rfl
theorem dg_nm {m : Nat} (h4 : m ≤ 4) : ∀ l : List Nat, (∀ c ∈ l, c ∈ signs m) → dg m l.length (nm m l) = l ∧ nm m l < m ^ l.length := by
  refine rev_ind (fun _ => ⟨rfl, by show 0 < m ^ 0; simp⟩) fun l c ih h => ?_
  obtain ⟨e1, e2⟩ := ih fun x hx => h x (List.mem_append_left _ hx)
  have hc := (signs_mem h4).mp (h c (List.mem_append_right _ (List.mem_singleton.mpr rfl)))
  have hm : 0 < m := by omega
  rw [nm_app, List.length_append]
  have a1 : (nm m l * m + (c - 97)) / m = nm m l := by
    rw [Nat.mul_comm, Nat.mul_add_div hm, Nat.div_eq_of_lt (by omega), Nat.add_zero]
  have a2 : (nm m l * m + (c - 97)) % m = c - 97 := by
    rw [Nat.mul_comm, Nat.mul_add_mod, Nat.mod_eq_of_lt (by omega)]
  constructor
  · show dg m l.length ((nm m l * m + (c - 97)) / m) ++ [97 + (nm m l * m + (c - 97)) % m] = l ++ [c]
    rw [a1, a2, e1]
    congr 2
    omega
  · show nm m l * m + (c - 97) < m ^ (l.length + 1)
    rw [Nat.pow_succ]
    calc nm m l * m + (c - 97) < nm m l * m + m := by omega
      _ = (nm m l + 1) * m := by rw [Nat.add_mul, Nat.one_mul]
      _ ≤ m ^ l.length * m := Nat.mul_le_mul_right m e2
/-- the digits from the front -/
theorem dg_front {m : Nat} : ∀ s n, dg m (s + 1) n = (97 + n / m ^ s % m) :: dg m s n
  | 0, n => by
    show [] ++ [97 + n % m] = [97 + n / m ^ 0 % m]
    rw [Nat.pow_zero, Nat.div_one]
    rfl
  | s + 1, n => by
    show dg m (s + 1) (n / m) ++ [97 + n % m] = _
    rw [dg_front s (n / m), Nat.div_div_eq_div_mul, ← Nat.pow_succ']
    rfl
/-- texts of the same size, in the order of their numbers -/
theorem nm_lt_iff {m : Nat} (h4 : m ≤ 4) {a b : List Nat} (hl : a.length = b.length) (ha : ∀ c ∈ a, c ∈ signs m) (hb : ∀ c ∈ b, c ∈ signs m) : a < b ↔ nm m a < nm m b := by
  have main : ∀ (a b : List Nat) (x y : Nat), a.length = b.length → (∀ c ∈ a, c ∈ signs m) → (∀ c ∈ b, c ∈ signs m) → x = y → (a < b ↔ a.foldl (fun a c => a * m + (c - 97)) x < b.foldl (fun a c => a * m + (c - 97)) y) := by
    have gap : ∀ (a b : List Nat) (x y : Nat), a.length = b.length → (∀ c ∈ a, c ∈ signs m) → (∀ c ∈ b, c ∈ signs m) → x < y → a.foldl (fun a c => a * m + (c - 97)) x < b.foldl (fun a c => a * m + (c - 97)) y := by
      intro a
      induction a with
      | nil =>
        intro b x y hl _ _ h
        cases b with
        | nil => exact h
        | cons _ _ => cases hl
      | cons c r ih =>
        intro b x y hl ha hb h
        cases b with
        | nil => cases hl
        | cons d s =>
          have hc := (signs_mem h4).mp (ha c (List.mem_cons_self ..))
          have hd := (signs_mem h4).mp (hb d (List.mem_cons_self ..))
          refine ih s _ _ (Nat.succ.inj hl) (fun z hz => ha z (List.mem_cons_of_mem _ hz)) (fun z hz => hb z (List.mem_cons_of_mem _ hz)) ?_
          have : (x + 1) * m ≤ y * m := Nat.mul_le_mul_right m h
          rw [Nat.add_mul, Nat.one_mul] at this
          show x * m + (c - 97) < y * m + (d - 97)
          omega
    intro a
    induction a with
    | nil =>
      intro b x y hl _ _ h
      cases b with
      | nil =>
        subst h
        simp
      | cons _ _ => cases hl
    | cons c r ih =>
      intro b x y hl ha hb h
      cases b with
      | nil => cases hl
      | cons d s =>
        subst h
        have hc := (signs_mem h4).mp (ha c (List.mem_cons_self ..))
        have hd := (signs_mem h4).mp (hb d (List.mem_cons_self ..))
        have hr : ∀ z ∈ r, z ∈ signs m := fun z hz => ha z (List.mem_cons_of_mem _ hz)
        have hs : ∀ z ∈ s, z ∈ signs m := fun z hz => hb z (List.mem_cons_of_mem _ hz)
        rw [List.cons_lt_cons_iff, List.foldl_cons, List.foldl_cons]
        rcases Nat.lt_trichotomy c d with e | e | e
        · exact ⟨fun _ => gap r s _ _ (Nat.succ.inj hl) hr hs (by omega), fun _ => .inl e⟩
        · subst e
          have := ih s (x * m + (c - 97)) _ (Nat.succ.inj hl) hr hs rfl
          rw [← this]
          constructor
          · rintro (z | ⟨_, z⟩)
            · omega
            · exact z
          · exact fun z => .inr ⟨rfl, z⟩
        · refine ⟨fun z => ?_, fun z => ?_⟩
          · rcases z with z | ⟨z, _⟩ <;> omega
          · have := gap s r _ _ (Nat.succ.inj hl).symm hs hr (show x * m + (d - 97) < x * m + (c - 97) by omega)
            omega
  exact main a b 0 0 hl ha hb rfl
/-! ### the cuts by their places -/
def cidx (room s g k : Nat) : Nat := (cutN room s g).length + (if g = 0 then k else k - 1)
def cutOk (room s g k : Nat) : Prop := (0 < k ∨ g = 0) ∧ k + max g s ≤ room
theorem cutR_at (g : Nat) : ∀ j i x, (cutR g j)[i]? = some x → x.1 = g ∧ (0 < x.2 ∨ g = 0) ∧ x.2 < j ∧ i = (if g = 0 then x.2 else x.2 - 1)
  | 0, i, x, h => by simp [cutR] at h
  | j + 1, i, x, h => by
    rw [cutR_succ] at h
    have hl : (cutR g j).length = if g = 0 then j else j - 1 := by
      clear h
      induction j with
      | zero => simp [cutR]
      | succ j ih =>
        rw [cutR_succ, List.length_append, ih]
        by_cases e : g = 0
        · simp [e]
        · by_cases e2 : 0 < j
          · simp [e, e2]
            omega
          · have : j = 0 := by omega
            subst this
            simp [e]
    by_cases hi : i < (cutR g j).length
    · rw [List.getElem?_append_left hi] at h
      obtain ⟨a, b, c, d⟩ := cutR_at g j i x h
      exact ⟨a, b, by omega, d⟩
    · rw [List.getElem?_append_right (by omega)] at h
      by_cases e : 0 < j ∨ g = 0
      · rw [if_pos e] at h
        have hz : i - (cutR g j).length = 0 := by
          obtain ⟨z, _⟩ := List.getElem?_eq_some_iff.mp h
          simpa using z
        rw [hz] at h
        have ex : x = (g, j) := (Option.some.inj h).symm
        subst ex
        refine ⟨rfl, e, Nat.lt_succ_self j, ?_⟩
        rw [hl] at hi hz
        show i = if g = 0 then j else j - 1
        split <;> simp_all <;> omega
      · rw [if_neg e] at h
        simp at h
theorem cutR_has (g : Nat) : ∀ j k, (0 < k ∨ g = 0) → k < j → (cutR g j)[if g = 0 then k else k - 1]? = some (g, k)
  | 0, k, _, h => absurd h (Nat.not_lt_zero _)
  | j + 1, k, hk, h => by
    have hl : ∀ j, (cutR g j).length = if g = 0 then j else j - 1 := fun j => by
      induction j with
      | zero => simp [cutR]
      | succ j ih =>
        rw [cutR_succ, List.length_append, ih]
        by_cases e : g = 0
        · simp [e]
        · by_cases e2 : 0 < j
          · simp [e, e2]
            omega
          · have : j = 0 := by omega
            subst this
            simp [e]
    rw [cutR_succ]
    by_cases e : k < j
    · have := cutR_has g j k hk e
      obtain ⟨z, _⟩ := List.getElem?_eq_some_iff.mp this
      rw [List.getElem?_append_left z]
      exact this
    · have ek : k = j := by omega
      subst ek
      rw [List.getElem?_append_right (by rw [hl]; exact Nat.le_refl _), hl, Nat.sub_self, if_pos hk]
      rfl
theorem cutN_at (room s : Nat) : ∀ n i x, (cutN room s n)[i]? = some x → x.1 < n ∧ (0 < x.2 ∨ x.1 = 0) ∧ x.2 ≤ room - max x.1 s ∧ i = cidx room s x.1 x.2
  | 0, i, x, h => by simp [cutN] at h
  | n + 1, i, x, h => by
    rw [cutN_succ] at h
    by_cases hi : i < (cutN room s n).length
    · rw [List.getElem?_append_left hi] at h
      obtain ⟨a, b, c, d⟩ := cutN_at room s n i x h
      exact ⟨by omega, b, c, d⟩
    · rw [List.getElem?_append_right (by omega)] at h
      obtain ⟨a, b, c, d⟩ := cutR_at n _ _ x h
      subst a
      refine ⟨Nat.lt_succ_self _, b, by omega, ?_⟩
      unfold cidx
      omega
theorem cutN_has (room s : Nat) : ∀ n g k, g < n → (0 < k ∨ g = 0) → k ≤ room - max g s → (cutN room s n)[cidx room s g k]? = some (g, k)
  | 0, g, k, h, _, _ => absurd h (Nat.not_lt_zero _)
  | n + 1, g, k, h, hk, hm => by
    rw [cutN_succ]
    by_cases e : g < n
    · have := cutN_has room s n g k e hk hm
      obtain ⟨z, _⟩ := List.getElem?_eq_some_iff.mp this
      rw [List.getElem?_append_left z]
      exact this
    · have eg : g = n := by omega
      subst eg
      unfold cidx
      rw [List.getElem?_append_right (Nat.le_add_right _ _), Nat.add_sub_cancel_left]
      exact cutR_has g _ k hk (by omega)
theorem cutN_mono (room s : Nat) {a b : Nat} (h : a ≤ b) : (cutN room s a).length ≤ (cutN room s b).length := by
  induction h with
  | refl => exact Nat.le_refl _
  | step _ ih =>
    rw [cutN_succ, List.length_append]
    omega
theorem cidx_in {room s g k : Nat} (h : cutOk room s g k) (hs : s ≤ room) : cidx room s g k < (cutL room s).length ∧ (cutL room s)[cidx room s g k]? = some (g, k) := by
  have hg : g < room + 1 := by
    have := h.2
    omega
  have e := cutN_has room s (room + 1) g k hg h.1 (by have := h.2; omega)
  exact ⟨(List.getElem?_eq_some_iff.mp e).1, e⟩
theorem cut_of {room s i : Nat} {x : Nat × Nat} (hs : s ≤ room) (h : (cutL room s)[i]? = some x) : cutOk room s x.1 x.2 ∧ i = cidx room s x.1 x.2 := by
  obtain ⟨a, b, c, d⟩ := cutN_at room s _ i x h
  exact ⟨⟨b, by omega⟩, d⟩
theorem cidx_lt {room s g k g' k' : Nat} (h : cutOk room s g k) (h' : cutOk room s g' k') : cidx room s g k < cidx room s g' k' ↔ (g < g' ∨ (g = g' ∧ k < k')) := by
  have lt : ∀ {g k g' k' : Nat}, cutOk room s g k → cutOk room s g' k' → g < g' → cidx room s g k < cidx room s g' k' := fun {g k g' k'} a b e => by
    have e1 := cutN_has room s (g + 1) g k (Nat.lt_succ_self g) a.1 (by have := a.2; omega)
    have e2 := (List.getElem?_eq_some_iff.mp e1).1
    have e3 := cutN_mono room s (show g + 1 ≤ g' by omega)
    show _ < (cutN room s g').length + _
    omega
  rcases Nat.lt_trichotomy g g' with e | e | e
  · exact ⟨fun _ => .inl e, fun _ => lt h h' e⟩
  · subst e
    have a := h.1
    have b := h'.1
    unfold cidx
    constructor
    · intro z
      refine .inr ⟨rfl, ?_⟩
      split at z <;> omega
    · rintro (z | ⟨_, z⟩)
      · omega
      · split <;> omega
  · have := lt h' h e
    exact ⟨fun z => by omega, fun z => by rcases z with z | ⟨z, _⟩ <;> omega⟩
theorem cut_pos {room s : Nat} (hs : s ≤ room) : 0 < (cutL room s).length := by
  have := (cidx_in (room := room) (s := s) (g := 0) (k := 0) ⟨.inr rfl, by omega⟩ hs).1
  omega
/-! ### triples by their numbers -/
def hml (room m s : Nat) : Nat := m ^ s * (cutL room s).length
def ahead (room m s : Nat) : Nat := ((List.range s).map (hml room m)).sum
theorem ahead_succ (room m s : Nat) : ahead room m (s + 1) = ahead room m s + hml room m s := by
  unfold ahead
  rw [List.range_succ, List.map_append, List.sum_append]
  simp
theorem ahead_mono (room m : Nat) {a b : Nat} (h : a ≤ b) : ahead room m a ≤ ahead room m b := by
  induction h with
  | refl => exact Nat.le_refl _
  | step _ ih =>
    rw [ahead_succ]
    omega
theorem tally_ahead (room m : Nat) : tally room m = ahead room m (room + 1) := rfl
theorem place_uniq {room m s l s' l' : Nat} (e : ahead room m s + l = ahead room m s' + l') (h : l < hml room m s) (h' : l' < hml room m s') : s = s' ∧ l = l' := by
  rcases Nat.lt_trichotomy s s' with z | z | z
  · have := ahead_mono room m (show s + 1 ≤ s' by omega)
    rw [ahead_succ] at this
    omega
  · subst z
    exact ⟨rfl, by omega⟩
  · have := ahead_mono room m (show s' + 1 ≤ s by omega)
    rw [ahead_succ] at this
    omega
def tof (room m s left : Nat) : Tr := ⟨((cutL room s).getD (left % (cutL room s).length) (0, 0)).1, ((cutL room s).getD (left % (cutL room s).length) (0, 0)).2, dg m s (left / (cutL room s).length)⟩
def nof (room m : Nat) (t : Tr) : Nat := ahead room m t.l.length + (nm m t.l * (cutL room t.l.length).length + cidx room t.l.length t.g t.k)
theorem tof_cut {room s left : Nat} (hs : s ≤ room) : ∃ x, (cutL room s)[left % (cutL room s).length]? = some x ∧ cutOk room s x.1 x.2 ∧ left % (cutL room s).length = cidx room s x.1 x.2 := by
  have hp := cut_pos hs
  have hl := Nat.mod_lt left hp
  have e : (cutL room s)[left % (cutL room s).length]? = some (cutL room s)[left % (cutL room s).length] := List.getElem?_eq_getElem hl
  obtain ⟨a, b⟩ := cut_of hs e
  exact ⟨_, e, a, b⟩
theorem tof_ok {room m s left : Nat} (h1 : 1 ≤ m) (h4 : m ≤ 4) (hs : s ≤ room) : TrOk room m (tof room m s left) := by
  obtain ⟨x, e, ⟨a, b⟩, _⟩ := tof_cut (left := left) hs
  unfold tof
  rw [List.getD_eq_getElem?_getD, e]
  refine ⟨by show x.1 + x.2 ≤ room; omega, ?_, fun z => ?_, dg_in h1 h4 _ _⟩
  · show x.2 + (dg m s _).length ≤ room
    rw [dg_len]
    omega
  · have z : x.2 = 0 := z
    show x.1 = 0
    omega
theorem nof_tof {room m s left : Nat} (h1 : 1 ≤ m) (hs : s ≤ room) (hl : left < hml room m s) : nof room m (tof room m s left) = ahead room m s + left := by
  obtain ⟨x, e, _, b⟩ := tof_cut (left := left) hs
  have hp := cut_pos hs
  have hq : left / (cutL room s).length < m ^ s := Nat.div_lt_of_lt_mul (by rw [Nat.mul_comm]; exact hl)
  unfold nof tof
  rw [List.getD_eq_getElem?_getD, e]
  simp only [dg_len, Option.getD_some]
  rw [nm_dg h1 _ _ hq, ← b]
  congr 1
  rw [Nat.mul_comm]
  exact Nat.div_add_mod ..
theorem TrOk.cut {room m : Nat} {t : Tr} (ok : TrOk room m t) : cutOk room t.l.length t.g t.k ∧ t.l.length ≤ room := by
  have a := ok.gk
  have b := ok.kl
  have c := ok.z
  refine ⟨⟨?_, by omega⟩, by omega⟩
  by_cases h : t.k = 0
  · exact .inr (c h)
  · exact .inl (by omega)
theorem tof_nof {room m : Nat} {t : Tr} (h4 : m ≤ 4) (ok : TrOk room m t) : nm m t.l * (cutL room t.l.length).length + cidx room t.l.length t.g t.k < hml room m t.l.length ∧ tof room m t.l.length (nm m t.l * (cutL room t.l.length).length + cidx room t.l.length t.g t.k) = t := by
  obtain ⟨hc, hs⟩ := ok.cut
  obtain ⟨hi, he⟩ := cidx_in hc hs
  obtain ⟨e1, e2⟩ := dg_nm h4 t.l ok.s
  have hp := cut_pos hs
  have a1 : (nm m t.l * (cutL room t.l.length).length + cidx room t.l.length t.g t.k) / (cutL room t.l.length).length = nm m t.l := by
    rw [Nat.mul_comm, Nat.mul_add_div hp, Nat.div_eq_of_lt hi, Nat.add_zero]
  have a2 : (nm m t.l * (cutL room t.l.length).length + cidx room t.l.length t.g t.k) % (cutL room t.l.length).length = cidx room t.l.length t.g t.k := by
    rw [Nat.mul_comm, Nat.mul_add_mod, Nat.mod_eq_of_lt hi]
  constructor
  · unfold hml
    calc _ < nm m t.l * (cutL room t.l.length).length + (cutL room t.l.length).length := by omega
      _ = (nm m t.l + 1) * (cutL room t.l.length).length := by rw [Nat.add_mul, Nat.one_mul]
      _ ≤ _ := Nat.mul_le_mul_right _ e2
  · unfold tof
    rw [a1, a2, List.getD_eq_getElem?_getD, he, e1]
    rfl
theorem nof_lt {room m : Nat} {t : Tr} (h4 : m ≤ 4) (ok : TrOk room m t) : nof room m t < tally room m := by
  have a := (tof_nof h4 ok).1
  have b := ahead_mono room m (show t.l.length + 1 ≤ room + 1 by have := ok.cut.2; omega)
  rw [ahead_succ] at b
  rw [tally_ahead]
  unfold nof
  omega
/-- how ranks lie is how numbers lie -/
def rankLt (t u : Tr) : Bool := if t.l.length = u.l.length then (if t.l = u.l then (if t.g = u.g then decide (t.k < u.k) else decide (t.g < u.g)) else decide (t.l < u.l)) else decide (t.l.length < u.l.length)
theorem rank_nof {room m : Nat} {t u : Tr} (h4 : m ≤ 4) (a : TrOk room m t) (b : TrOk room m u) : rankLt t u = decide (nof room m t < nof room m u) := by
  obtain ⟨ca, la⟩ := a.cut
  obtain ⟨cb, lb⟩ := b.cut
  obtain ⟨ia, _⟩ := cidx_in ca la
  obtain ⟨ib, _⟩ := cidx_in cb lb
  have ta := (tof_nof h4 a).1
  have tb := (tof_nof h4 b).1
  unfold rankLt
  by_cases e1 : t.l.length = u.l.length
  · rw [if_pos e1]
    have hn : nof room m t < nof room m u ↔ nm m t.l * (cutL room u.l.length).length + cidx room u.l.length t.g t.k < nm m u.l * (cutL room u.l.length).length + cidx room u.l.length u.g u.k := by
      unfold nof
      rw [e1]
      omega
    rw [e1] at ca ia
    by_cases e2 : t.l = u.l
    · rw [if_pos e2]
      have hc := cidx_lt ca cb
      rw [e2] at hn
      by_cases e3 : t.g = u.g
      · rw [if_pos e3]
        refine decide_eq_decide.mpr ?_
        rw [hn]
        omega
      · rw [if_neg e3]
        refine decide_eq_decide.mpr ?_
        rw [hn]
        omega
    · rw [if_neg e2]
      refine decide_eq_decide.mpr ?_
      rw [hn, nm_lt_iff h4 e1 a.s b.s]
      have hne : nm m t.l ≠ nm m u.l := fun z => e2 (by rw [← (dg_nm h4 t.l a.s).1, ← (dg_nm h4 u.l b.s).1, e1, z])
      rcases Nat.lt_or_gt_of_ne hne with z | z
      · refine ⟨fun _ => ?_, fun _ => z⟩
        have := Nat.mul_le_mul_right (cutL room u.l.length).length (show nm m t.l + 1 ≤ nm m u.l from z)
        rw [Nat.add_mul, Nat.one_mul] at this
        omega
      · refine ⟨fun y => by omega, fun y => ?_⟩
        have := Nat.mul_le_mul_right (cutL room u.l.length).length (show nm m u.l + 1 ≤ nm m t.l from z)
        rw [Nat.add_mul, Nat.one_mul] at this
        omega
  · rw [if_neg e1]
    refine decide_eq_decide.mpr ?_
    rcases Nat.lt_or_gt_of_ne e1 with z | z
    · refine ⟨fun _ => ?_, fun _ => z⟩
      have := ahead_mono room m (show t.l.length + 1 ≤ u.l.length from z)
      rw [ahead_succ] at this
      unfold nof
      omega
    · refine ⟨fun y => by omega, fun y => ?_⟩
      have := ahead_mono room m (show u.l.length + 1 ≤ t.l.length from z)
      rw [ahead_succ] at this
      unfold nof at y
      omega
end SK
/-! ### sorted of tuples of a number, a text, two numbers -/
namespace SK
open PySem PySem.Spec PyProof.Rows L2
abbrev Rk := Int × List Nat × Int × Int
def lex4 (a b : Rk) : Bool := if a.1 = b.1 then (if a.2.1 = b.2.1 then (if a.2.2.1 = b.2.2.1 then decide (a.2.2.2 < b.2.2.2) else decide (a.2.2.1 < b.2.2.1)) else decide (a.2.1 < b.2.1)) else decide (a.1 < b.1)
def IsRk (h : Heap) (v : Value) (r : Rk) : Prop := ∃ a o t1 t2 t3 t4 n, v = .ref a ∧ h.get? a = some o ∧ o.cls = .type "tuple" ∧ o.data = .seq #[.int r.1 t1, .str (tx r.2.1) t2, .int r.2.2.1 t3, .int r.2.2.2 t4] n
theorem IsRk.keeps {h h' : Heap} {v : Value} {r : Rk} (p : IsRk h v r) (k : ∀ b o, h.get? b = some o → o.cls = .type "tuple" → h'.get? b = some o) : IsRk h' v r := by
  obtain ⟨a, o, t1, t2, t3, t4, n, e, ho, hc, hd⟩ := p
  exact ⟨a, o, t1, t2, t3, t4, n, e, k _ _ ho hc, hc, hd⟩
section
variable {prog : Program} {w : World} {A : Around} {E : Value → Shared → Prop} {s : Shared}
theorem rk_cmp {vs : List Value} {k : Value → Rk} (hp : ∀ v ∈ vs, IsRk s.heap v (k v)) : SrtO.Cmp prog w A s (tuples' true) (fun p => p.1 ∈ vs) (SrtO.lt2 fun v u => lex4 (k v) (k u)) := by
  intro p q hm hm'
  have h1 := hp _ hm
  have h2 := hp _ hm'
  show wpAny (model prog w) A (keyLt' (tuples' true) p.1 q.1) (fun r s' => s' = s ∧ r = lex4 (k p.1) (k q.1)) (fun _ _ => False) s
  unfold lex4
  generalize k p.1 = x at h1 ⊢
  generalize k q.1 = y at h2 ⊢
  obtain ⟨i, l, b, c⟩ := x
  obtain ⟨i', l', b', c'⟩ := y
  dsimp only
  obtain ⟨a, o, t1, t2, t3, t4, n, e, ho, hc, hd⟩ := h1
  obtain ⟨a', o', u1, u2, u3, u4, n', e', ho', hc', hd'⟩ := h2
  rw [e, e']
  refine PySem.W.kat_lt ho hd ho' hd' ?_
  show PySem.W.KatLex prog w A true (decide (4 < 4)) _ [(.int i t1, .int i' u1), (.str (tx l) t2, .str (tx l') u2), (.int b t3, .int b' u3), (.int c t4, .int c' u4)] 0 s
  refine PySem.W.kat_cons (SeqAt.EqAt.int_int i t1 i' u1 prog w _ _ ?_)
  refine PySem.W.kat_go (fun e1 => ?_) (fun e1 => ?_)
  · have ex : i = i' := by simpa using e1
    rw [if_pos ex]
    refine PySem.W.kat_yes (PySem.W.kat_cons (SeqAt.EqAt.str_str (tx l) t2 (tx l') u2 prog w _ _ ?_))
    refine PySem.W.kat_go (fun e2 => ?_) (fun e2 => ?_)
    · have ey : l = l' := str_inj.mp (eq_of_beq e2)
      rw [if_pos ey]
      refine PySem.W.kat_yes (PySem.W.kat_cons (SeqAt.EqAt.int_int b t3 b' u3 prog w _ _ ?_))
      refine PySem.W.kat_go (fun e3 => ?_) (fun e3 => ?_)
      · have ez : b = b' := by simpa using e3
        rw [if_pos ez]
        refine PySem.W.kat_yes (PySem.W.kat_cons (SeqAt.EqAt.int_int c t4 c' u4 prog w _ _ ?_))
        refine PySem.W.kat_go (fun e4 => ?_) (fun e4 => ?_)
        · have ew : c = c' := by simpa using e4
          refine PySem.W.kat_yes (PySem.W.kat_nil ⟨rfl, ?_⟩)
          rw [ew]
          simp
        · refine PySem.W.kat_no (PySem.W.kat_one _ _ (PyProof.Rows.lt_int ?_))
          exact (show s = s ∧ decide (c < c') = decide (c < c') from ⟨rfl, rfl⟩)
      · have ez : ¬ b = b' := by simpa using e3
        rw [if_neg ez]
        refine PySem.W.kat_no (PySem.W.kat_one _ _ (PyProof.Rows.lt_int ?_))
        exact (show s = s ∧ decide (b < b') = decide (b < b') from ⟨rfl, rfl⟩)
    · have ey : ¬ l = l' := fun z => by
        subst z
        simp at e2
      rw [if_neg ey]
      refine PySem.W.kat_no (PySem.W.kat_one _ _ (PyProof.Rows.lt_str ?_))
      exact (show s = s ∧ decide ((tx l).cps.toList < (tx l').cps.toList) = decide (l < l') from ⟨rfl, rfl⟩)
  · have ex : ¬ i = i' := by simpa using e1
    rw [if_neg ex]
    exact PySem.W.kat_no (oneLt_int ⟨rfl, rfl⟩)
theorem rk_firsts {h : Heap} {k : Value → Rk} : ∀ {vs : List Value}, (∀ v ∈ vs, IsRk h v (k v)) → ∃ fs : List Value, PySem.W.KatTups h vs fs ∧ fs.length = vs.length ∧ ∀ f ∈ fs, ∃ x t, f = Value.int x t
  | [], _ => ⟨[], PySem.W.KatTups.nil, rfl, fun _ hm => by simp at hm⟩
  | v :: vs, hp => by
    obtain ⟨fs, h1, h2, h3⟩ := rk_firsts (vs := vs) fun v' hm => hp v' (List.mem_cons_of_mem _ hm)
    obtain ⟨a, o, t1, t2, t3, t4, n, e, ho, hc, hd⟩ := hp v (List.mem_cons_self ..)
    generalize k v = r at hd
    subst e
    refine ⟨.int r.1 t1 :: fs, PySem.W.KatTups.cons ho hc hd rfl h1, by rw [List.length_cons, List.length_cons, h2], fun f hm => ?_⟩
    rcases List.mem_cons.mp hm with rfl | hm
    · exact ⟨r.1, t1, rfl⟩
    · exact h3 f hm
theorem cmp_of {κ : SortKind} {P : Keyed → Prop} {lt lt' : Keyed → Keyed → Bool} (c : SrtO.Cmp prog w A s κ P lt) (h : ∀ p q, P p → P q → lt p q = lt' p q) : SrtO.Cmp prog w A s κ P lt' := fun p q hp hq => by
  have := c p q hp hq
  rw [h p q hp hq] at this
  exact this
theorem rk_sortable {a : Addr} {vs : List Value} {k : Value → Rk} {key : Value → Int} (h0 : 0 < vs.length) (hp : ∀ v ∈ vs, IsRk s.heap v (k v)) (hk : ∀ v ∈ vs, ∀ u ∈ vs, lex4 (k v) (k u) = decide (key v < key u)) (ha : ∀ o, s.heap.get? a = some o → o.cls ≠ .type "tuple") : SrtO.SortableO prog w A s a vs fun v u => decide (key v < key u) := by
  intro h' keep
  have hp' : ∀ v ∈ vs, IsRk h' v (k v) := fun v hm => (hp v hm).keeps fun b o e c => keep b o (fun z => by subst z; exact ha o e c) e
  obtain ⟨fs, h1, h2, h3⟩ := rk_firsts hp'
  refine ⟨tuples' true, fun Q E hq => ?_, cmp_of (rk_cmp hp') fun p q hm hm' => hk _ hm _ hm'⟩
  refine PySem.W.kat_kind (T := .type "int") h1 (by omega) (fun f hm => ?_) (by rfl) ?_
  · obtain ⟨x, t, rfl⟩ := h3 f hm
    exact PySem.W.Looks.now
  · have e : (Value.type "int" != Value.type "tuple") = true := by first | decide +kernel | rfl | decide
    rw [e]
    exact hq
end
theorem swo_key {α : Type} (key : α → Int) : SrtO.Swo fun x y => decide (key x < key y) := by
  refine ⟨fun x y h => ?_, fun x y z h1 h2 => ?_⟩
  · have := of_decide_eq_true h
    exact decide_eq_false (by omega)
  · have a := of_decide_eq_false h1
    have b := of_decide_eq_false h2
    exact decide_eq_false (by omega)
/-- sorted(xs), xs a list of such tuples that lie as key says -/
def rSorted4 (K : PySem.W.Frag) : List V → Hp → VK → Prop := fun vs H Q => ∃ (a : Addr) (xs : List V) (k : V → Rk) (key : V → Int), vs = [V.ref a] ∧ SqL K H a xs ∧ (∀ x ∈ xs, ∃ t, x = V.ref t ∧ H t = some (.tup [.int (k x).1, .str (tx (k x).2.1), .int (k x).2.2.1, .int (k x).2.2.2])) ∧
  (∀ x ∈ xs, ∀ y ∈ xs, lex4 (k x) (k y) = decide (key x < key y)) ∧
  ∀ ys p, SrtO.Srtd (fun x y => decide (key x < key y)) ys → SrtO.Stb (fun x y => decide (key x < key y)) ys xs → H p = none → Q (.ref p) (upd H p (.lst ys))
theorem cr_sorted4 {X : Cx} : CallR X (.builtin "sorted") (rSorted4 X.K) := by
  intro pins s σ H vs us Q I r h
  obtain ⟨a, xs, k, key, rfl, hs, hx, hkey, q⟩ := h
  obtain ⟨its, rv, hl, hz⟩ := I.list hs
  obtain ⟨u, rfl, ru⟩ := vals1 r
  obtain rfl : u = Value.ref a := ru
  obtain ⟨e1, e2⟩ := refs_back rv fun x m => by
    obtain ⟨t, e, _⟩ := hx x m
    exact ⟨t, e⟩
  have hmem : ∀ v ∈ its, backV v ∈ xs := fun v hv => by rw [e1]; exact List.mem_map.mpr ⟨_, hv, rfl⟩
  have hrk : ∀ v ∈ its, IsRk s.heap v (k (backV v)) := fun v hv => by
    obtain ⟨t, rfl⟩ := e2 v hv
    obtain ⟨t', e, ht⟩ := hx _ (hmem _ hv)
    have et : t = t' := by
      have e : V.ref t = V.ref t' := e
      cases e
      rfl
    subst et
    obtain ⟨_, its2, r2, o, ho, hc, n, hd⟩ := I.hok _ _ ht
    cases r2 with
    | cons a1 r2 =>
    cases r2 with
    | cons a2 r2 =>
    cases r2 with
    | cons a3 r2 =>
    cases r2 with
    | cons a4 r2 =>
    cases r2
    obtain ⟨t1, rfl⟩ := a1
    obtain ⟨t2, rfl⟩ := a2
    obtain ⟨t3, rfl⟩ := a3
    obtain ⟨t4, rfl⟩ := a4
    exact ⟨t, o, t1, t2, t3, t4, n, rfl, ho, hc, hd⟩
  refine SrtO.sorted_ord (ltv := fun v u => decide (key (backV v) < key (backV u))) (swo_key fun v => key (backV v)) hl.isList (by rw [← rv.length]; exact hz) (fun h2 h₁ a' ha' kk => ?_) fun out h1 h2 => ?_
  · refine rk_sortable (k := fun v => k (backV v)) (key := fun v => key (backV v)) (s := { s with heap := h₁ }) (by omega) (fun v hm => (hrk v hm).keeps fun b o e _ => (kk b o e).2) (fun v hv u hu => hkey _ (hmem v hv) _ (hmem u hu)) fun o e => ?_
    have e' : some o = some (seqObj "list" its.toArray 0) := e.symm.trans ha'
    cases e'
    intro c
    exact absurd (Value.type.inj c) (by decide)
  · have h3 : ∀ u ∈ out, ∃ a, u = Value.ref a := fun u hu => e2 u (h2.perm.mem_iff.mp hu)
    obtain ⟨n, hn⟩ := PyProof.Rows.sortedAll_at s.heap its out.toArray
    have hb : SrtO.Stb (fun x y => decide (key x < key y)) (out.map backV) xs := by
      rw [e1]
      exact SrtO.Stb.map (swo_key key) backV h2
    refine ⟨.ref _, upd H (s.heap.objs.size + 1) (.lst (out.map backV)), I.laid (t' := s.toks) (fun _ _ => PyProof.Rows.sortedAll_old) (Nat.le_succ _) ⟨?_, out, n, vals_back h3, hn⟩, rfl, q _ _ (SrtO.srtd_map h1) hb (I.hok.fresh (Nat.le_succ _))⟩
    rw [hb.len]
    exact hz
theorem sgn_ix {m c : Nat} (h : c ∈ signs m) : ∃ r, Builtin.Str.occurrences (tx [97, 98, 99, 100]) (tx [c]) 0 (tx [97, 98, 99, 100]).length 1 = (c - 97) :: r := by
  have h4 : c = 97 ∨ c = 98 ∨ c = 99 ∨ c = 100 := by
    have := List.mem_of_mem_take (show c ∈ List.take m [97, 98, 99, 100] from h)
    simpa using this
  rcases h4 with rfl | rfl | rfl | rfl
  · exact ⟨[], by decide +kernel⟩
  · exact ⟨[], by decide +kernel⟩
  · exact ⟨[], by decide +kernel⟩
  · exact ⟨[], by decide +kernel⟩
theorem hu65 {k : Nat} {A : Around} (r : Room k A) : A.units + 65 < cLine := by have := r.un; omega
theorem b_sorted : bootBuiltins "sorted" = some (.builtin "sorted") := by decide +kernel
end SK
namespace SK
open PySem PySem.Spec PyProof.Rows L2
/-! ### all triples, in the order of their numbers -/
theorem fm_at {α β : Type} (f : α → List β) (L : Nat) : ∀ (l : List α) (j : Nat), (∀ x ∈ l, (f x).length = L) → (l.flatMap f)[j]? = (l[j / L]?).bind fun x => (f x)[j % L]?
  | [], j, _ => by simp
  | a :: r, j, h => by
    have ha := h a (List.mem_cons_self ..)
    rw [List.flatMap_cons]
    by_cases hj : j < L
    · rw [List.getElem?_append_left (by omega), Nat.div_eq_of_lt hj, Nat.mod_eq_of_lt hj]
      rfl
    · by_cases hL : L = 0
      · subst hL
        have e : ∀ r : List α, (∀ x ∈ r, (f x).length = 0) → r.flatMap f = [] := fun r hr => by
          rw [List.flatMap_eq_nil_iff]
          exact fun x hx => List.length_eq_zero_iff.mp (hr x hx)
        rw [List.length_eq_zero_iff.mp ha, e r fun x hx => h x (List.mem_cons_of_mem _ hx), Nat.div_zero, Nat.mod_zero]
        show ([] : List β)[j]? = (f a)[j]?
        rw [List.length_eq_zero_iff.mp ha]
      · rw [List.getElem?_append_right (by omega), ha, fm_at f L r (j - L) fun x hx => h x (List.mem_cons_of_mem _ hx)]
        have e1 : j / L = (j - L) / L + 1 := by
          rw [Nat.div_eq_sub_div (by omega) (by omega)]
        have e2 : j % L = (j - L) % L := Nat.mod_eq_sub_mod (by omega)
        rw [e1, e2, List.getElem?_cons_succ]
theorem fm_length {α β : Type} (f : α → List β) (L : Nat) : ∀ (l : List α), (∀ x ∈ l, (f x).length = L) → (l.flatMap f).length = l.length * L
  | [], _ => by simp
  | a :: r, h => by
    rw [List.flatMap_cons, List.length_append, fm_length f L r fun x hx => h x (List.mem_cons_of_mem _ hx), h a (List.mem_cons_self ..), List.length_cons, Nat.succ_mul, Nat.add_comm]
theorem signs_at {m j : Nat} (h4 : m ≤ 4) {c : Nat} (h : (signs m)[j]? = some c) : c = 97 + j := by
  unfold signs at h
  obtain ⟨hl, e⟩ := List.getElem?_eq_some_iff.mp h
  rw [List.getElem_take] at e
  rw [List.length_take] at hl
  have : j = 0 ∨ j = 1 ∨ j = 2 ∨ j = 3 := by simp at hl; omega
  rcases this with z | z | z | z <;> subst z <;> exact e.symm
theorem signs_length {m : Nat} (h4 : m ≤ 4) : (signs m).length = m := by
  unfold signs
  rw [List.length_take]
  show min m 4 = m
  omega
theorem lay_at {m : Nat} (h4 : m ≤ 4) : ∀ (s j : Nat) (l : List Nat), (lay m s)[j]? = some l → l = dg m s j
  | 0, j, l, h => by
    cases j with
    | zero => exact (Option.some.inj h).symm
    | succ j => simp [lay] at h
  | s + 1, j, l, h => by
    have e := fm_at (fun l : List Nat => (signs m).map fun c => l ++ [c]) m (lay m s) j fun x _ => by rw [List.length_map, signs_length h4]
    rw [show lay m (s + 1) = (lay m s).flatMap fun l => (signs m).map fun c => l ++ [c] from rfl, e] at h
    obtain ⟨x, hx, h2⟩ := Option.bind_eq_some_iff.mp h
    rw [List.getElem?_map] at h2
    obtain ⟨c, hc, rfl⟩ := Option.map_eq_some_iff.mp h2
    rw [lay_at h4 s _ x hx, signs_at h4 hc]
    rfl
/-- the triples that lay this -/
def rowT (room : Nat) (l : List Nat) : List Tr := (cutL room l.length).map fun x => ⟨x.1, x.2, l⟩
def trsN (room m n : Nat) : List Tr := (stk m n).flatMap (rowT room)
def trs (room m : Nat) : List Tr := trsN room m room
theorem lay_row {room m s : Nat} (h4 : m ≤ 4) : ((lay m s).flatMap (rowT room)).length = hml room m s ∧ ∀ j t, ((lay m s).flatMap (rowT room))[j]? = some t → t = tof room m s j := by
  have hc : ∀ x ∈ lay m s, (rowT room x).length = (cutL room s).length := fun x hx => by
    unfold rowT
    rw [List.length_map, (lay_mem hx).1]
  constructor
  · rw [fm_length _ _ _ hc, lay_len, signs_length h4]
    rfl
  · intro j t h
    rw [fm_at _ _ _ _ hc] at h
    obtain ⟨x, hx, h2⟩ := Option.bind_eq_some_iff.mp h
    have hl := (lay_mem (List.mem_of_getElem? hx)).1
    unfold rowT at h2
    rw [List.getElem?_map, hl] at h2
    obtain ⟨y, hy, rfl⟩ := Option.map_eq_some_iff.mp h2
    unfold tof
    rw [List.getD_eq_getElem?_getD, hy, lay_at h4 s _ x hx]
    rfl
theorem stk_row {room m : Nat} (h1 : 1 ≤ m) (h4 : m ≤ 4) : ∀ n, n ≤ room → (trsN room m n).length = ahead room m (n + 1) ∧ ∀ j t, (trsN room m n)[j]? = some t → TrOk room m t ∧ nof room m t = j := by
  have at_ : ∀ s, s ≤ room → ∀ j t, ((lay m s).flatMap (rowT room))[j]? = some t → TrOk room m t ∧ nof room m t = ahead room m s + j := fun s hs j t h => by
    obtain ⟨e1, e2⟩ := lay_row (room := room) (s := s) h4
    have hj : j < hml room m s := by
      rw [← e1]
      exact (List.getElem?_eq_some_iff.mp h).1
    rw [e2 j t h]
    exact ⟨tof_ok h1 h4 hs, nof_tof h1 hs hj⟩
  intro n
  induction n with
  | zero =>
    intro _
    have e : trsN room m 0 = (lay m 0).flatMap (rowT room) := rfl
    rw [e]
    obtain ⟨e1, _⟩ := lay_row (room := room) (s := 0) h4
    refine ⟨by rw [e1, ahead_succ]; simp [ahead], fun j t h => ?_⟩
    have := at_ 0 (Nat.zero_le _) j t h
    simpa [ahead] using this
  | succ n ih =>
    intro hn
    obtain ⟨i1, i2⟩ := ih (by omega)
    obtain ⟨e1, _⟩ := lay_row (room := room) (s := n + 1) h4
    have e : trsN room m (n + 1) = trsN room m n ++ (lay m (n + 1)).flatMap (rowT room) := by
      show (stk m n ++ lay m (n + 1)).flatMap _ = _
      rw [List.flatMap_append]
      rfl
    rw [e]
    refine ⟨by rw [List.length_append, i1, e1, ← ahead_succ], fun j t h => ?_⟩
    by_cases hj : j < (trsN room m n).length
    · rw [List.getElem?_append_left hj] at h
      exact i2 j t h
    · rw [List.getElem?_append_right (by omega)] at h
      obtain ⟨a, b⟩ := at_ (n + 1) hn _ t h
      exact ⟨a, by rw [b, i1]; omega⟩
theorem trs_len {room m : Nat} (h1 : 1 ≤ m) (h4 : m ≤ 4) : (trs room m).length = tally room m := (stk_row h1 h4 room (Nat.le_refl _)).1
theorem trs_at {room m : Nat} (h1 : 1 ≤ m) (h4 : m ≤ 4) {j : Nat} {t : Tr} (h : (trs room m)[j]? = some t) : TrOk room m t ∧ nof room m t = j := (stk_row h1 h4 room (Nat.le_refl _)).2 j t h
/-- numbers tell triples -/
theorem nof_inj {room m : Nat} {t u : Tr} (h4 : m ≤ 4) (a : TrOk room m t) (b : TrOk room m u) (e : nof room m t = nof room m u) : t = u := by
  obtain ⟨a1, a2⟩ := tof_nof h4 a
  obtain ⟨b1, b2⟩ := tof_nof h4 b
  obtain ⟨e1, e2⟩ := place_uniq (show ahead room m t.l.length + _ = ahead room m u.l.length + _ from e) a1 b1
  have e3 : tof room m t.l.length (nm m t.l * (cutL room t.l.length).length + cidx room t.l.length t.g t.k) = tof room m u.l.length (nm m u.l * (cutL room u.l.length).length + cidx room u.l.length u.g u.k) := by
    rw [← e2, e1]
  rw [← a2, ← b2]
  exact e3
theorem tally_few : ∀ r ≤ 4, ∀ m ≤ 4, tally r m ≤ 10000 := by decide +kernel
theorem tally_le {room m : Nat} (h9 : room ≤ 9) (h4 : m ≤ 4) : tally room m ≤ 262144000 := by
  have key : ∀ n, n ≤ 10 → ahead room m n ≤ n * 26214400 := fun n => by
    induction n with
    | zero => intro _; simp [ahead]
    | succ n ih =>
      intro hn
      have h1 := ih (by omega)
      have h2 := pow_le9 (n := n) h4 (by omega)
      have h3 : hml room m n ≤ 262144 * 100 := Nat.mul_le_mul h2 (cutL_len h9)
      rw [ahead_succ]
      omega
  have := key (room + 1) (by omega)
  rw [tally_ahead]
  omega
theorem tally_pos {room m : Nat} (h1 : 1 ≤ m) : 0 < tally room m := by
  have h := cut_pos (room := room) (s := 0) (Nat.zero_le _)
  have := ahead_mono room m (show 1 ≤ room + 1 by omega)
  rw [tally_ahead]
  rw [ahead_succ] at this
  have e : hml room m 0 = (cutL room 0).length := by
    unfold hml
    rw [Nat.pow_zero, Nat.one_mul]
  omega
/-- where the cuts end -/
theorem cutL_end {room s : Nat} (h : 1 ≤ room) (hs : s ≤ room) : cutN room s room = cutL room s := by
  unfold cutL
  rw [cutN_succ]
  have e : room - max room s + 1 = 0 + 1 := by omega
  rw [e, cutR_succ, if_neg (by omega)]
  simp [cutR]
/-! ### lists of triples in the heap -/
structure TsAt (H : Hp) (ts : List Tr) (xs : List V) : Prop where
  len : xs.length = ts.length
  at_ : ∀ (i : Nat) (x : V), xs[i]? = some x → ∃ t, ts[i]? = some t ∧ TripAt H x t
theorem TsAt.nil {H : Hp} : TsAt H [] [] := ⟨rfl, fun i x h => by simp at h⟩
theorem TsAt.mono {H H' : Hp} {ts : List Tr} {xs : List V} (h : TsAt H ts xs) (s : Same H H') : TsAt H' ts xs := ⟨h.len, fun i x e => by
  obtain ⟨t, e1, e2⟩ := h.at_ i x e
  exact ⟨t, e1, e2.mono s⟩⟩
theorem TsAt.tups {H H' : Hp} {ts : List Tr} {xs : List V} (h : TsAt H ts xs) (s : Tups H H') : TsAt H' ts xs := ⟨h.len, fun i x e => by
  obtain ⟨t, e1, e2⟩ := h.at_ i x e
  exact ⟨t, e1, e2.tups s⟩⟩
theorem TsAt.snoc {H : Hp} {ts : List Tr} {xs : List V} {x : V} {t : Tr} (h : TsAt H ts xs) (hx : TripAt H x t) : TsAt H (ts ++ [t]) (xs ++ [x]) := by
  refine ⟨by rw [List.length_append, List.length_append, h.len]; rfl, fun i y e => ?_⟩
  by_cases hi : i < xs.length
  · rw [List.getElem?_append_left hi] at e
    obtain ⟨t', e1, e2⟩ := h.at_ i y e
    exact ⟨t', by rw [List.getElem?_append_left (by have := h.len; omega)]; exact e1, e2⟩
  · rw [List.getElem?_append_right (by omega)] at e
    have hz : i - xs.length = 0 := by
      obtain ⟨z, _⟩ := List.getElem?_eq_some_iff.mp e
      simpa using z
    rw [hz] at e
    have ey : x = y := Option.some.inj e
    subst ey
    exact ⟨t, by rw [List.getElem?_append_right (by have := h.len; omega), ← h.len, hz]; rfl, hx⟩
/-- the triple with a number -/
def tnum (room m n : Nat) : Tr := (trs room m).getD n ⟨0, 0, []⟩
theorem tnum_ok {room m n : Nat} (h1 : 1 ≤ m) (h4 : m ≤ 4) (h : n < tally room m) : (trs room m)[n]? = some (tnum room m n) ∧ TrOk room m (tnum room m n) ∧ nof room m (tnum room m n) = n := by
  have hl : n < (trs room m).length := by
    rw [trs_len h1 h4]
    exact h
  have e : (trs room m)[n]? = some (tnum room m n) := by
    unfold tnum
    rw [List.getD_eq_getElem?_getD, List.getElem?_eq_getElem hl]
    rfl
  exact ⟨e, trs_at h1 h4 e⟩
theorem tof_num {room m s l n : Nat} (h1 : 1 ≤ m) (h4 : m ≤ 4) (hs : s ≤ room) (e : ahead room m s + l = n) (hl : l < hml room m s) (hn : n < tally room m) : tof room m s l = tnum room m n := by
  obtain ⟨_, a, b⟩ := tnum_ok h1 h4 hn
  refine nof_inj h4 (tof_ok h1 h4 hs) a ?_
  rw [nof_tof h1 hs hl, b, e]
theorem tnum_nof {room m : Nat} {t : Tr} (h1 : 1 ≤ m) (h4 : m ≤ 4) (ok : TrOk room m t) : tnum room m (nof room m t) = t := by
  obtain ⟨_, a, b⟩ := tnum_ok h1 h4 (nof_lt h4 ok)
  exact nof_inj h4 a ok b
/-! ### the cuts, as data -/
def cutD (x : Nat × Nat) : PyData := .tuple [.int (x.1 : Int), .int (x.2 : Int)]
theorem dp_cuts {K : PySem.W.Frag} {H : Hp} : ∀ {ws : List (Nat × Nat)} {xs : List V}, PairsAt H ws xs → DpAll K H xs (ws.map cutD)
  | [], xs, h => by
    have e : xs = [] := h
    subst e
    exact .nil
  | w :: r, xs, h => by
    obtain ⟨a, s, rfl, ha, hr⟩ := h
    exact .cons (.tup (SqT.of ha) (.cons (.int _) (.cons (.int _) .nil))) (dp_cuts hr)
theorem shCuts (ws : List (Nat × Nat)) : SeqAt.shaped (.list (ws.map cutD)) = true := by
  have h1 : ∀ ws : List (Nat × Nat), PyData.canLayAll0 (ws.map cutD) = true := fun ws => by
    induction ws with
    | nil => rfl
    | cons n r ih =>
      show (PyData.canLay0 (cutD n) && PyData.canLayAll0 (r.map cutD)) = true
      rw [ih]
      rfl
  have h2 : ∀ ws : List (Nat × Nat), PyData.depthAll (ws.map cutD) ≤ 1 := fun ws => by
    induction ws with
    | nil => exact Nat.zero_le _
    | cons n r ih =>
      show max (PyData.depth (cutD n)) (PyData.depthAll (r.map cutD)) ≤ 1
      exact Nat.max_le.mpr ⟨Nat.le_refl _, ih⟩
  show (PyData.canLayAll0 (ws.map cutD) && decide (PyData.depthAll (ws.map cutD) + 1 ≤ 64)) = true
  rw [h1, Bool.true_and]
  have := h2 ws
  exact decide_eq_true (by omega)
theorem eqv_cutD (x y : Nat × Nat) : PyData.eqv (cutD x) (cutD y) = decide (x = y) := by
  have e : PyData.eqv (cutD x) (cutD y) = (((x.1 : Int) == (y.1 : Int)) && (((x.2 : Int) == (y.2 : Int)) && true)) := by
    simp [cutD, PyData.eqv, PyData.eqvAll]
  rw [e, Bool.and_true]
  obtain ⟨a, b⟩ := x
  obtain ⟨c, d⟩ := y
  by_cases h : (a, b) = (c, d)
  · cases h
    simp
  · rw [decide_eq_false h]
    rw [Bool.eq_false_iff]
    intro z
    rw [Bool.and_eq_true, beq_iff_eq, beq_iff_eq] at z
    have z1 : a = c := Int.ofNat.inj z.1
    have z2 : b = d := Int.ofNat.inj z.2
    exact h (by rw [z1, z2])
/-! ### ranks, as data -/
def rkD (t : Tr) : PyData := .tuple [.int (t.l.length : Int), .str (tx t.l), .int (t.g : Int), .int (t.k : Int)]
def rkV (t : Tr) : List V := [.int (t.l.length : Int), .str (tx t.l), .int (t.g : Int), .int (t.k : Int)]
theorem alk_ts {H : Hp} {a b : Addr} {ts : List Tr} {xs ys : List V} {n : Nat} (ha : H a = some (.lst xs)) (hb : H b = some (.lst ys)) (hx : TsAt H ts xs) (hy : TsAt H ts ys) (hz : ts.length ≤ 10000) : Alk H (n + 3) (.ref a) (.ref b) := by
  refine .inr ⟨a, b, xs, ys, rfl, rfl, .inr ⟨ha, hb⟩, hx.len.trans hy.len.symm, by rw [hy.len]; exact hz, fun i x y e1 e2 => ?_⟩
  obtain ⟨t, f1, f2⟩ := hx.at_ i x e1
  obtain ⟨u, g1, g2⟩ := hy.at_ i y e2
  have e : t = u := Option.some.inj (f1.symm.trans g1)
  subst e
  exact alk_trip f2 g2
theorem alk_ints {H : Hp} {a b : Addr} {ns : List Int} {n : Nat} (ha : H a = some (.lst (ns.map V.int))) (hb : H b = some (.lst (ns.map V.int))) (hz : ns.length ≤ 10000) : Alk H (n + 2) (.ref a) (.ref b) := by
  refine .inr ⟨a, b, _, _, rfl, rfl, .inr ⟨ha, hb⟩, rfl, by rw [List.length_map]; exact hz, fun i x y e1 e2 => ?_⟩
  have e : x = y := Option.some.inj (e1.symm.trans e2)
  subst e
  rw [List.getElem?_map] at e1
  obtain ⟨z, _, rfl⟩ := Option.map_eq_some_iff.mp e1
  exact .inl ⟨rfl, trivial⟩
theorem alk_two2 {H : Hp} {n : Nat} {a b : Addr} {x y x' y' : V} (hx : Alk H n x x') (hy : Alk H n y y') (ha : H a = some (.lst [x, y])) (hb : H b = some (.lst [x', y'])) : Alk H (n + 1) (.ref a) (.ref b) :=
  .inr ⟨a, b, _, _, rfl, rfl, .inr ⟨ha, hb⟩, rfl, by show 2 ≤ 10000; decide, fun i u w e1 e2 => by
    match i, e1, e2 with
    | 0, e1, e2 => cases e1; cases e2; exact hx
    | 1, e1, e2 => cases e1; cases e2; exact hy⟩
/-- a list of ranks -/
structure RkAt (H : Hp) (ts : List Tr) (xs : List V) : Prop where
  len : xs.length = ts.length
  at_ : ∀ (i : Nat) (x : V), xs[i]? = some x → ∃ (t : Tr) (a : Addr), ts[i]? = some t ∧ x = .ref a ∧ H a = some (.tup (rkV t))
theorem RkAt.nil {H : Hp} : RkAt H [] [] := ⟨rfl, fun i x h => by simp at h⟩
theorem RkAt.mono {H H' : Hp} {ts : List Tr} {xs : List V} (h : RkAt H ts xs) (s : Same H H') : RkAt H' ts xs := ⟨h.len, fun i x e => by
  obtain ⟨t, a, e1, e2, e3⟩ := h.at_ i x e
  exact ⟨t, a, e1, e2, s _ _ e3⟩⟩
theorem RkAt.snoc {H : Hp} {ts : List Tr} {xs : List V} {a : Addr} {t : Tr} (h : RkAt H ts xs) (hx : H a = some (.tup (rkV t))) : RkAt H (ts ++ [t]) (xs ++ [.ref a]) := by
  refine ⟨by rw [List.length_append, List.length_append, h.len]; rfl, fun i y e => ?_⟩
  by_cases hi : i < xs.length
  · rw [List.getElem?_append_left hi] at e
    obtain ⟨t', b, e1, e2⟩ := h.at_ i y e
    exact ⟨t', b, by rw [List.getElem?_append_left (by have := h.len; omega)]; exact e1, e2⟩
  · rw [List.getElem?_append_right (by omega)] at e
    have hz : i - xs.length = 0 := by
      obtain ⟨z, _⟩ := List.getElem?_eq_some_iff.mp e
      simpa using z
    rw [hz] at e
    exact ⟨t, a, by rw [List.getElem?_append_right (by have := h.len; omega), ← h.len, hz]; rfl, (Option.some.inj e).symm, hx⟩
theorem RkAt.dp {K : PySem.W.Frag} {H : Hp} : ∀ {ts : List Tr} {xs : List V}, RkAt H ts xs → DpAll K H xs (ts.map rkD)
  | [], [], _ => .nil
  | [], x :: r, h => by cases h.len
  | t :: r, [], h => by cases h.len
  | t :: r, x :: s, h => by
    obtain ⟨t', a, e1, rfl, e3⟩ := h.at_ 0 x rfl
    have e : t = t' := Option.some.inj e1
    subst e
    exact .cons (.tup (SqT.of e3) (.cons (.int _) (.cons (.str _) (.cons (.int _) (.cons (.int _) .nil))))) (RkAt.dp ⟨Nat.succ.inj h.len, fun i y e => h.at_ (i + 1) y e⟩)
theorem strOk_sg {m : Nat} {l : List Nat} (h : ∀ c ∈ l, c ∈ signs m) : PyData.strOk (tx l) = true := strOk_tx fun c hc => signs_lt (h c hc)
theorem shRk {room m : Nat} (ts : List Tr) (h : ∀ t ∈ ts, TrOk room m t) : SeqAt.shaped (.list (ts.map rkD)) = true ∧ PyData.canLay0 (.list (ts.map rkD)) = true := by
  have h1 : ∀ ts : List Tr, (∀ t ∈ ts, TrOk room m t) → PyData.canLayAll0 (ts.map rkD) = true := fun ts h => by
    induction ts with
    | nil => rfl
    | cons t r ih =>
      have e := strOk_sg (h t (List.mem_cons_self ..)).s
      show ((true && (PyData.strOk (tx t.l) && (true && (true && true)))) && PyData.canLayAll0 (r.map rkD)) = true
      rw [ih fun x hx => h x (List.mem_cons_of_mem _ hx), e]
      rfl
  have h2 : ∀ ts : List Tr, PyData.depthAll (ts.map rkD) ≤ 1 := fun ts => by
    induction ts with
    | nil => exact Nat.zero_le _
    | cons n r ih =>
      show max (PyData.depth (rkD n)) (PyData.depthAll (r.map rkD)) ≤ 1
      exact Nat.max_le.mpr ⟨Nat.le_refl _, ih⟩
  refine ⟨?_, h1 ts h⟩
  show (PyData.canLayAll0 (ts.map rkD) && decide (PyData.depthAll (ts.map rkD) + 1 ≤ 64)) = true
  rw [h1 ts h, Bool.true_and]
  have := h2 ts
  exact decide_eq_true (by omega)
/-- two lists of the same ranks -/
theorem ne_rks {K : PySem.W.Frag} {H : Hp} {Q : VK} {a b : Addr} {xs ys : List V} {ts : List Tr} {room m : Nat} (ok : ∀ t ∈ ts, TrOk room m t) (ha : H a = some (.lst xs)) (hb : H b = some (.lst ys)) (hx : RkAt H ts xs) (hy : RkAt H ts ys) (q : Q (.bl false) H) : rNeD K (.ref a) (.ref b) H Q := by
  obtain ⟨s1, s2⟩ := shRk ts ok
  refine ⟨_, _, .lst (SqL.of ha) hx.dp, .lst (SqL.of hb) hy.dp, s1, s1, ?_⟩
  rw [SeqAt.eqv_refl _ s2]
  exact q
theorem ne_si {K : PySem.W.Frag} {H : Hp} {Q : VK} {a b : Addr} {w : Str} {i : Int} (hw : PyData.strOk w = true) (ha : H a = some (.tup [.str w, .int i])) (hb : H b = some (.tup [.str w, .int i])) (q : Q (.bl false) H) : rNeD K (.ref a) (.ref b) H Q := by
  have cl : PyData.canLay0 (.tuple [.str w, .int i]) = true := by
    show (PyData.strOk w && (true && true)) = true
    rw [hw]
    rfl
  have sh : SeqAt.shaped (.tuple [.str w, .int i]) = true := by
    show (PyData.canLay0 (.tuple [.str w, .int i]) && decide (PyData.depth (.tuple [.str w, .int i]) ≤ 64)) = true
    rw [cl]
    rfl
  refine ⟨_, _, .tup (SqT.of ha) (.cons (.str _) (.cons (.int _) .nil)), .tup (SqT.of hb) (.cons (.str _) (.cons (.int _) .nil)), sh, sh, ?_⟩
  rw [SeqAt.eqv_refl _ cl]
  exact q
theorem sorted_one {l m : List Int} (p : l.Perm m) (hl : l.Pairwise (· ≤ ·)) (hm : m.Pairwise (· ≤ ·)) : l = m :=
  List.Perm.eq_of_pairwise (fun a b _ _ h1 h2 => Int.le_antisymm h1 h2) hl hm p
/-- a rank read off the heap -/
def rkOf (H : Hp) : V → Rk
  | .ref a => match H a with
    | some (.tup [.int i, .str s, .int g, .int k]) => (i, s.cps.toList, g, k)
    | _ => (0, [], 0, 0)
  | _ => (0, [], 0, 0)
def rkT (r : Rk) : Tr := ⟨r.2.2.1.toNat, r.2.2.2.toNat, r.2.1⟩
theorem rkOf_at {H : Hp} {a : Addr} {t : Tr} (h : H a = some (.tup (rkV t))) : rkOf H (.ref a) = ((t.l.length : Int), t.l, (t.g : Int), (t.k : Int)) ∧ rkT (rkOf H (.ref a)) = t := by
  have e : rkOf H (.ref a) = ((t.l.length : Int), t.l, (t.g : Int), (t.k : Int)) := by
    show (match H a with
      | some (.tup [.int i, .str s, .int g, .int k]) => (i, s.cps.toList, g, k)
      | _ => (0, [], 0, 0)) = _
    rw [h]
    rfl
  refine ⟨e, ?_⟩
  rw [e]
  rfl
theorem lex_rank (t u : Tr) : lex4 ((t.l.length : Int), t.l, (t.g : Int), (t.k : Int)) ((u.l.length : Int), u.l, (u.g : Int), (u.k : Int)) = rankLt t u := by
  unfold lex4 rankLt
  dsimp only
  simp only [Int.ofNat_inj, Int.ofNat_lt]
/-- ranks that lie as their numbers: sorted they stay -/
theorem rk_stay {H : Hp} {room m : Nat} {ts : List Tr} {xs ys : List V} (h4 : m ≤ 4) (ok : ∀ t ∈ ts, TrOk room m t) (hx : RkAt H ts xs) (hs : (ts.map fun t => ((nof room m t : Nat) : Int)).Pairwise (· ≤ ·))
    (hy : SrtO.Srtd (fun x y => decide (((nof room m (rkT (rkOf H x)) : Nat) : Int) < ((nof room m (rkT (rkOf H y)) : Nat) : Int))) ys) (hp : ys.Perm xs) : RkAt H ts ys := by
  have at_ : ∀ v ∈ xs, ∃ (t : Tr) (a : Addr), t ∈ ts ∧ v = .ref a ∧ H a = some (.tup (rkV t)) := fun v hv => by
    obtain ⟨i, hi⟩ := List.getElem?_of_mem hv
    obtain ⟨t, a, e1, e2, e3⟩ := hx.at_ i v hi
    exact ⟨t, a, List.mem_of_getElem? e1, e2, e3⟩
  have ex : xs.map (fun v => ((nof room m (rkT (rkOf H v)) : Nat) : Int)) = ts.map fun t => ((nof room m t : Nat) : Int) := by
    apply List.ext_getElem?
    intro i
    rw [List.getElem?_map, List.getElem?_map]
    cases hi : xs[i]? with
    | none =>
      have := List.getElem?_eq_none_iff.mp hi
      rw [List.getElem?_eq_none (by rw [← hx.len]; exact this)]
      rfl
    | some v =>
      obtain ⟨t, a, e1, rfl, e3⟩ := hx.at_ i v hi
      rw [e1]
      show some (((nof room m (rkT (rkOf H (V.ref a))) : Nat) : Int)) = some ((nof room m t : Nat) : Int)
      rw [(rkOf_at e3).2]
  have ey : ys.map (fun v => ((nof room m (rkT (rkOf H v)) : Nat) : Int)) = ts.map fun t => ((nof room m t : Nat) : Int) := by
    rw [← ex] at hs ⊢
    refine sorted_one (hp.map _) ?_ hs
    exact List.pairwise_map.mpr (hy.imp fun {x y} h => Int.not_lt.mp (of_decide_eq_false h))
  refine ⟨by rw [hp.length_eq, hx.len], fun i y e => ?_⟩
  obtain ⟨t, a, ht, rfl, h3⟩ := at_ y (hp.mem_iff.mp (List.mem_of_getElem? e))
  have e4 := congrArg (fun l : List Int => l[i]?) ey
  simp only [List.getElem?_map] at e4
  rw [e] at e4
  obtain ⟨u, hu, e5⟩ := Option.map_eq_some_iff.mp e4.symm
  have e6 : nof room m u = nof room m t := by
    dsimp only at e5
    rw [(rkOf_at h3).2] at e5
    exact Int.ofNat.inj e5
  have e7 := nof_inj h4 (ok u (List.mem_of_getElem? hu)) (ok t ht) e6
  subst e7
  exact ⟨u, a, hu, rfl, h3⟩
end SK
namespace SK
open PySem PySem.Spec PyProof.Rows L2
/-! ### an error of an own class whose __init__ says super().__init__(f"..") and keeps its value -/
def inSc (par : Str) : Scope := { kind := .function, names := [("self", .local), (par, .local), ("__class__", .free), ("super", .globalImplicit)], isGenerator := false, isCoroutine := false, more := [] }
structure InPos where
  p0 : Pos
  p1 : Pos
  p2 : Pos
  p3 : Pos
  p4 : Pos
  p5 : Pos
  p6 : Pos
  p7 : Pos
  p8 : Pos
  p9 : Pos
  q0 : Pos
  q1 : Pos
  q2 : Pos
def inBody (par msg : Str) (j : InPos) : List Stmt :=
  [.Expr (.Call (.Attribute (.Call (.Name "super" j.p0) [] [] j.p1) "__init__" j.p2) [.JoinedStr [.Constant (.str msg) 0 j.p3, .FormattedValue (.Name par j.p4) (-1) none j.p5] j.p6] [] j.p7) j.p8,
   .Assign [.Attribute (.Name "self" j.p9) par j.q0] (.Name par j.q1) j.q2]
abbrev inArg (par msg : Str) (j : InPos) : Expr := .JoinedStr [.Constant (.str msg) 0 j.p3, .FormattedValue (.Name par j.p4) (-1) none j.p5] j.p6
abbrev inCall (par msg : Str) (j : InPos) : Expr := .Call (.Attribute (.Call (.Name "super" j.p0) [] [] j.p1) "__init__" j.p2) [inArg par msg j] [] j.p7
structure InPosOk (par msg : Str) (j : InPos) : Prop where
  he : ∀ env : Env, ∃ pl : Sem Bool, eval (inCall par msg j) env = (do
      let ov ← attributeBase (.Call (.Name "super" j.p0) [] [] j.p1) "__init__" env (eval (.Call (.Name "super" j.p0) [] [] j.p1) env)
      standAt j.p2.atName
      let (f, first) ← holding [ov] (getMethod ov "__init__" pl)
      callWith j.p7 f first (backTo j.p7 (starEach [inArg par msg j] env)) [])
  h1 : ∀ env : Env, swapsWith (inCall par msg j) none j.p8.line env = pure false
  h2 : ∀ env : Env, swapsWith (.Name par j.q1) (some (.Attribute (.Name "self" j.p9) par j.q0)) j.q2.line env = pure false
/-- what is known of such a class -/
structure InC (prog : Program) (K : PySem.W.Frag) (mg : Str → Option Value) (x : Str) (D : Addr) (par msg : Str) (j : InPos) (args : Arguments) : Prop where
  T : OexC K D
  g : mg x = some (.ref D)
  ini : ∃ (fI cda cc : Addr) (qual : Str) (oc kV doc pm ct : Value) (od an : Option Addr) (osl : Array (Option Value)),
    PySem.W.findIn K (.ref D) "__init__" = some (some (.ref fI)) ∧ PySem.W.typeIn K (.ref fI) = some (.type "function") ∧
    K.lookup fI = some ⟨oc, od, .func (PySem.W.ksFn "__init__" qual args (inBody par msg j) (inSc par) .none kV doc pm an (.ref cda) ct cc), osl⟩ ∧ PySem.W.codeIn K (.ref cda) qual = true ∧
    (∃ (ccl : Value) (cdd : Option Addr) (vs : Array Value) (ccs : Array (Option Value)) (file : Str) (tf : Tok), K.lookup cda = some ⟨ccl, cdd, .fields vs, ccs⟩ ∧ vs[2]? = some (.str file tf) ∧ ((prog.main.file : Str) == file) = true) ∧
    (∃ (cl : Value) (cld : Option Addr) (csl : Array (Option Value)), K.lookup cc = some ⟨cl, cld, .cell (some (.ref D)), csl⟩)
  ap : (args.posonlyargs ++ args.args).head?.map (·.arg) = some "self"
  bind : ∀ (qual : Str) (kV doc pm : Value) (an : Option Addr) (cdv ct : Value) (cc : Addr) (u v : Value), bindArgs (PySem.W.ksFn "__init__" qual args (inBody par msg j) (inSc par) .none kV doc pm an cdv ct cc) ⟨[u, v], []⟩ = pure [(("self" : Str), u), (par, v)]
  mro : PySem.W.mroIn K D (.ref D) = some true
  sup : PySem.W.ks_superIn K D D "__init__" = some (some (.builtin "ValueError.__init__"))
  ve : PySem.W.subIn K (.ref D) (.type "ValueError") = some true
  opq : PySem.W.nsIn K cStatics "thirdparty.any" = some none
  nsup : mg "super" = none
  top : (prog.main.scope.names.lookup ("super" : Str)).isSome = false
  no : PySem.W.findIn K (.ref D) par = some none
  sh : msg.length ≤ 100
  pos : InPosOk par msg j
def spIn (D : Addr) (par : Str) : Sp := fun vs H Q _ => ∃ (x : Addr) (v : Int), vs = [.ref x, .int v] ∧ H x = some (exo x D none) ∧ v.natAbs.log2 < 1000 ∧
  ∀ dx, H dx = none → dx ≠ x → Q .non (upd (upd H dx (exd dx [(par, .int v)])) x (exo x D (some dx)))
section
variable {P : Program} {w : World} {K : PySem.W.Frag} {mg : Str → Option Value} {base : Heap} {CX : CXT}
/-- the wrapper called -/
theorem mw_call {X : Cx} {pins : List (Addr × Obj)} {σ : L2.St} {H : Hp} {s : Shared} {u a C : Addr} {us : List Value} {Q : Value → Shared → Prop} {E : Value → Shared → Prop} {A : Around} (T : OexC X.K C) (I : Inv X pins σ H s) (e : H a = some (exo a C none))
    (hu : s.heap.get? u = some (PySem.W.kxs_mw "ValueError.__init__" a)) (hl : us.length ≤ sizeLine) (h : ∀ s', Inv X pins σ H s' → Q .none s') : wpAny (model X.prog X.w) A (call (.ref u) us) Q E s := by
  obtain ⟨nm, q, N, bs, bm, sn, sub, ab, col, dd, k0, k1, k2, k3, k5, hC, hbm⟩ := T.cls
  obtain ⟨t1, ho⟩ := exo_at I.hok e
  obtain ⟨hp, g, d, t, os⟩ := s
  refine wpAny_call (codeAny_of_tree ?_)
  show wpAny _ A.in1 (callAny (.ref u) ⟨us, []⟩) _ _ _
  simp only [callAny]
  refine wpAny_bind (wpAny_load hu ?_)
  simp only [PySem.W.kxs_mw, show (Value.type "method-wrapper" == Value.type "method" || Value.type "method-wrapper" == Value.type "builtin_function_or_method" || Value.type "method-wrapper" == Value.type "method-wrapper") = true by decide, if_true]
  refine PySem.W.KFB.if_so (by decide) ?_
  refine wpAny_bind (PySem.W.check_bound_init F.excBase_ValueError.toExcCallFacts (I.kIn _ _ hC) ho rfl ?_)
  refine wpAny_bind (wpAny_pure (wpAny_pure ?_))
  refine ⟨plainId_quiet F.excBase_ValueError.init.plain _, codeAny_builtin F.excBase_ValueError.initEntry ?_⟩
  refine PySem.W.exc_init_tree (cls := .ref C) (t0 := t1) (dv := none) (c2 := .none) (c3 := .none) (b4 := .bool false) ho hl fun h' k hx _ => ?_
  have J := I.write (t' := t) (x := a) (e := a) (o := exo a C none) (by rw [e]; exact True.intro) (.inl rfl) k ⟨_, hx⟩ (exo_ok hx)
  have eu : upd H a (exo a C none) = H := by
    funext b
    by_cases hb : b = a
    · rw [hb, upd_same, e]
    · rw [upd_ne hb]
  rw [eu] at J
  exact h _ J
theorem in_scope {par : Str} (hpar : par = "part" ∨ par = "number" ∨ par = "place") : NdefX.NScope ["self", par, "__class__"] ["self", par] ["__class__"] (inSc par) := by
  rcases hpar with rfl | rfl | rfl <;> exact NdefX.nscope_by (by decide +kernel)
theorem in_ok {x : Str} {D : Addr} {par msg : Str} {j : InPos} {args : Arguments} (T : InC P K mg x D par msg j args) (hpar : par = "part" ∨ par = "number" ∨ par = "place") :
    ∃ (fI : Addr) (fd : FuncData), PySem.W.findIn K (.ref D) "__init__" = some (some (.ref fI)) ∧ PySem.W.typeIn K (.ref fI) = some (.type "function") ∧ FnOk P w K mg base CX 1 fI fd ["self", par] (spIn D par) ∧ L2.Binds K fd ["self", par] [] := by
  obtain ⟨fI, cda, cc, qual, oc, kV, doc, pm, ct, od, an, osl, iC, tI, lk, hcd, ⟨ccl, cdd, vs0, ccs, file, tf, lc, hvs, hfile⟩, ⟨cl, cld, csl, lcell⟩⟩ := T.ini
  refine ⟨fI, PySem.W.ksFn "__init__" qual args (inBody par msg j) (inSc par) .none kV doc pm an (.ref cda) ct cc, iC, tI, ⟨fun vs H Q E h => ?_, fun A outer s H ar us vs Q E hr e0 hb r hsp => ?_⟩, .all fun us hl => ?_⟩
  · obtain ⟨a, v, rfl, _⟩ := h
    rfl
  · have KX : K.In s.heap := e0.mod.kin.keeps fun b o e => (e0.bs b o e).1
    have lim : s.heap.NoLimit := e0.mod.nolimit.keeps fun b o e => (e0.bs b o e).1
    obtain ⟨a, v, rfl, ha, hv, q⟩ := hsp
    cases r with
    | @cons _ u0 _ ur ra rr =>
    cases rr with
    | @cons _ u1 _ ur rv rr =>
    cases rr
    obtain rfl : u0 = Value.ref a := ra
    obtain ⟨tv, rfl⟩ := rv
    have S := in_scope hpar
    have CA : NdefX.CellsAt [("__class__", cc)] ["__class__"] [some (V.ref D)] s.heap H := by
      have hb0 := e0.mod.kin _ _ lcell
      obtain ⟨h1, h2⟩ := e0.bs _ _ hb0
      have one : ∀ y c, ([("__class__", cc)] : List (Str × Addr)).lookup y = some c → y = "__class__" ∧ c = cc := fun y c h => by
        have := PySem.mem_of_lookup h
        simpa using this
      refine ⟨rfl, fun y c h => ?_, fun y z c h h' => ?_, fun i y h => ?_⟩
      · obtain ⟨_, rfl⟩ := one y c h
        exact ⟨h2, _, _, h1, rfl⟩
      · rw [(one y c h).1, (one z c h').1]
      · cases i with
        | zero =>
          cases h
          refine ⟨cc, rfl, fun v hv => ?_⟩
          cases hv
          exact ⟨_, rfl, _, h1, rfl⟩
        | succ i => simp at h
    refine ks_codeAny_call_defAt (fd := PySem.W.ksFn "__init__" qual args (inBody par msg j) (inSc par) .none kV doc pm an (.ref cda) ct cc) (body := inBody par msg j) (binds := ([("self" : Str), par]).zip [Value.ref a, Value.int v tv]) hr.depth (KX _ _ lk) rfl lim (PySem.W.codeRec_of KX hcd) rfl hb (fun y hy => S.nocell y hy) (fun y hy => S.par _ (List.of_mem_zip hy).1) (fun h₁ hns kp => ?_) rfl rfl rfl
    have I := NdefX.inv_startN (CX := CX) (F := ⟨"__init__", qual, args, inBody par msg j, inSc par, [("__class__", cc)], cda⟩) (f := fI) (E := E) (tk := s.toks + (([("self" : Str), par]).zip [Value.ref a, Value.int v tv]).length) S hr.hd e0 (vs := [V.ref a, V.int v]) rfl (.cons rfl (.cons ⟨tv, rfl⟩ .nil)) CA hns kp
    obtain ⟨pl, he⟩ := T.pos.he (callEnv (PySem.W.ksFn "__init__" qual args (inBody par msg j) (inSc par) .none kV doc pm an (.ref cda) ct cc) s.heap.objs.size fI)
    refine ks_wpAt_execs_cons (ks_wpAt_Expr_any (ks_wpAt_MethodCall (pl := pl) ?_ he) rfl (T.pos.h1 _))
    obtain ⟨arg0, harg, hargn⟩ : ∃ arg0, (args.posonlyargs ++ args.args).head? = some arg0 ∧ arg0.arg = "self" := by
      have e := T.ap
      obtain ⟨a0, h1, h2⟩ := Option.map_eq_some_iff.mp e
      exact ⟨a0, h1, h2⟩
    have X1 : K.In h₁ := KX.keeps kp
    have ks : (inSc par).names.lookup ("super" : Str) = some .globalImplicit := by rcases hpar with rfl | rfl | rfl <;> rfl
    have kc : (inSc par).names.lookup ("__class__" : Str) = some .free := by rcases hpar with rfl | rfl | rfl <;> rfl
    have ka : (inSc par).names.lookup ("self" : Str) = some .local := by rcases hpar with rfl | rfl | rfl <;> rfl
    have hnd : ("self" : Str) ≠ par := by rcases hpar with rfl | rfl | rfl <;> decide
    obtain ⟨mb, hm1, hm2⟩ := e0.mod.blt
    have B1 : ∀ b o, base.get? b = some o → h₁.get? b = some o := fun b o e => kp _ _ (e0.bs b o e).1
    refine ks_wpAt_super_base (f := fI) (cc := cda) ks kc rfl rfl (X1 _ _ lk) rfl harg rfl (X1 _ _ lc) rfl hvs hfile T.top ?_
    refine PySem.W.ks_loadName_global rfl ks (Calls.loadGlobal_builtin (e0.mod.glob.keeps B1) T.nsup (hm1.keeps B1) ((hm2 _ (by decide)).trans (by decide +kernel : bootBuiltins "super" = some (.type "super"))) ⟨rfl, ?_⟩)
    refine wpAny_loadName_free rfl kc rfl ⟨_, X1 _ _ lcell, rfl⟩ ?_
    rw [hargn]
    refine wpAny_loadName_local rfl ka hns (v := .ref a) (by
      show ([((par : Str), Value.int v tv), (("self" : Str), Value.ref a)] : List (Str × Value)).lookup ("self" : Str) = _
      rw [List.lookup_cons]
      have e : (("self" : Str) == par) = false := by simpa using hnd
      rw [e]
      rfl) ?_
    obtain ⟨nm, q', N', bs, bm, sn, sub, ab, col, dd, k0, k1, k2, k3, k5, hC, hbm⟩ := T.T.cls
    obtain ⟨t1, ho⟩ := exo_at I.hok ha
    have hcl : PySem.W.clsIn K D = some { name := nm, bases := bs, mro := .ref D :: bm, ns := N', qualname := q', hasDict := true, slotNames := sn, subclasses := sub, abstract := ab, collection := col, hasDel := false } := by unfold PySem.W.clsIn; rw [hC] <;> rfl
    refine ks_wpAny_isType_cls (X1 _ _ hC) rfl ⟨rfl, ?_⟩
    refine ks_wpAny_call_super (X1 _ _ hC) rfl ho rfl (fun c e => by cases e) (PySem.W.looks_mroIn X1 T.mro) (fun h' e' k' => ?_)
    have I2 := I.kept (h' := h') (t' := s.toks + (([("self" : Str), par]).zip [Value.ref a, Value.int v tv]).length) k'
    have X2 : K.In h' := X1.keeps k'
    have haD : a ≠ D := fun z => by
      have := (e0.bs _ _ (e0.mod.kin _ _ hC)).2
      rw [← z, ha] at this
      cases this
    have J : PySem.W.InstAt h' a { cls := .ref D, dict := none, data := .fields #[.ref t1, .none, .none, .none, .bool false, .none] } D none := ⟨k' _ _ ho, rfl, rfl, trivial⟩
    have hsup := T.sup
    unfold PySem.W.ks_superIn at hsup
    rw [hcl] at hsup
    refine PySem.W.kxs_getMethod PySem.W.kxs_ValueError e' (PySem.W.looks_opaque X2 T.opq) (l₀ := .ref D :: bm) ?_ rfl X2 hsup (J.type.andThen (PySem.W.looks_subIn X2 T.ve)) haD rfl ?_
    · exact (PySem.W.looks_clsIn X2 hcl).andThen .now
    have I3 := I2.kept (h' := h'.push (PySem.W.kxs_mw "ValueError.__init__" a)) (t' := s.toks + (([("self" : Str), par]).zip [Value.ref a, Value.int v tv]).length + 1) (fun b o e => Heap.get?_push_of_some _ e)
    have hmw : (h'.push (PySem.W.kxs_mw "ValueError.__init__" a)).get? h'.objs.size = some (PySem.W.kxs_mw "ValueError.__init__" a) := Heap.get?_push_at rfl rfl
    have I4 := I3.pins_of (pins' := [(h'.objs.size, PySem.W.kxs_mw "ValueError.__init__" a)]) (fun p hp => by
      have e : p = (h'.objs.size, PySem.W.kxs_mw "ValueError.__init__" a) := by simpa using hp
      subst e
      refine ⟨hmw, I2.hok.fresh (Nat.le_refl _), Nat.ne_of_gt I2.lt, I2.nofs (Nat.le_refl _), fun v e => by cases e⟩)
    refine PySem.W.kxs_callWith (i := "ValueError.__init__") (x := a) rfl (Calls.evalArgs_plain ?_)
    have vpar : Vis (inSc par) par := .inl (by rcases hpar with rfl | rfl | rfl <;> rfl)
    have vself : Vis (inSc par) "self" := .inl ka
    have d1 : (par == ("__debug__" : Str)) = false := by rcases hpar with rfl | rfl | rfl <;> decide
    have d2 : (par == ("__classdict__" : Str)) = false := by rcases hpar with rfl | rfl | rfl <;> decide
    have pa : PA (NdefX.ncx CX P w K mg base ["self", par, "__class__"] ⟨"__init__", qual, args, inBody par msg j, inSc par, [("__class__", cc)], cda⟩ fI A outer s H E) [inArg par msg j] _ :=
      pa_cons (pe_joined (.cons pe_str (.cons (pe_fmt (pe_var (i := 1) rfl vpar d1 d2)) .nil))) pa_nil
    have hlen : (Str.empty ++ msg).length ≤ 100 := by
      show (Str.empty.cps ++ msg.cps).size ≤ 100
      rw [Array.size_append]
      have := T.sh
      show 0 + msg.cps.size ≤ 100
      rw [Nat.zero_add]
      exact this
    have hlen2 : ∀ y : Str, y.length ≤ 1921 → ((Str.empty ++ msg) ++ y).length ≤ 100000 := fun y hy => by
      show ((Str.empty ++ msg).cps ++ y.cps).size ≤ 100000
      rw [Array.size_append]
      have e1 : (Str.empty ++ msg).cps.size ≤ 100 := hlen
      have e2 : y.cps.size ≤ 1921 := hy
      omega
    refine thn (pa.run j.p7 _ _ _ H (fun vs H' => H' = H ∧ vs.length = 1) I4 ⟨msg, rfl, sz (by omega), .int v, rfl, .inr ⟨v, rfl, by omega, _, rfl, sz (hlen2 _ (int_text_len_1921 (by omega))), rfl, rfl⟩⟩) fun us s2 hus => ?_
    obtain ⟨vs2, H2, I5, rus, eH, hvl⟩ := hus
    rw [eH] at I5
    have hul : us.length ≤ sizeLine := by
      rw [← rus.length, hvl]
      decide
    obtain ⟨hu5, _⟩ := I5.pin (h'.objs.size, PySem.W.kxs_mw "ValueError.__init__" a) (List.mem_append_right _ (List.mem_singleton.mpr rfl))
    refine ⟨hu5, mw_call T.T I5 ha hu5 hul fun s6 I6 => ?_⟩
    have I7 := I6.pins_of (pins' := []) (fun p hp => by cases hp)
    refine wpAt_of_wpAny ?_
    have ps : PSs (NdefX.ncx CX P w K mg base ["self", par, "__class__"] ⟨"__init__", qual, args, inBody par msg j, inSc par, [("__class__", cc)], cda⟩ fI A outer s H E) [.Assign [.Attribute (.Name "self" j.p9) par j.q0] (.Name par j.q1) j.q2] _ :=
      pss_one (ps_ost (pe_var (i := 0) rfl vself) (pe_var (i := 1) rfl vpar d1 d2) (T.pos.h2 _))
    refine wpAny_mono (ps.run [] s6 _ H { nx := fun _ H' => Q .non H', rt := Q } I7 ⟨.int v, rfl, .ref a, rfl, a, D, rfl, T.T, T.no, .inl ⟨ha, fun dx hdx hne => q dx hdx hne⟩⟩) (fun fl s' hs => ?_) fun e s' hs => hs
    have fin : ∀ {σ' : L2.St} {H' : Hp} {v' : V} {u : Value}, Inv (NdefX.ncx CX P w K mg base ["self", par, "__class__"] ⟨"__init__", qual, args, inBody par msg j, inSc par, [("__class__", cc)], cda⟩ fI A outer s H E) [] σ' H' s' → L2.RelV v' u → Q v' H' → CE outer P w H s Q u s' :=
      fun {σ' H' v' u} J rv q => ⟨v', H', J.os, J.bare, J.base, J.hok, rv, q⟩
    cases fl with
    | ret u =>
      obtain ⟨v', σ', H', J, rv, q⟩ := hs
      exact fin J rv q
    | next =>
      obtain ⟨σ', H', J, q⟩ := hs
      exact fin (v' := V.non) (u := Value.none) J rfl q
    | brk =>
      obtain ⟨_, _, _, q⟩ := hs
      exact False.elim q
    | cont =>
      obtain ⟨_, _, _, q⟩ := hs
      exact False.elim q
  · match us, hl with
    | [u, v], _ => exact T.bind _ _ _ _ _ _ _ _ _ _
end
end SK
namespace SK
open PySem PySem.Spec PyProof.Rows L2
/-! ### isinstance of a caught error that may have a dict -/
def rIsE2 (K : PySem.W.Frag) (D a : Addr) (d : Option Addr) : List V → Hp → VK → Prop := fun xs H Q => ∃ (c : V) (cv : Value) (b : Bool), xs = [.ref a, c] ∧ (∀ u, RelV c u → u = cv) ∧ PySem.W.kitOne K (.ref D) cv = some b ∧ (∀ dd, d = some dd → ∃ fs, H dd = some (.xd fs)) ∧ Q (.bl b) H
theorem call_isE2 {X : Cx} {a D : Addr} {d : Option Addr} {oe : Obj} {pn : List (Addr × Obj)} (C : ExcC X.K D) (hz : Zc (.ref D) d oe) (hf : ∃ vs, oe.data = .fields vs) : CallR (X.suite a ((a, oe) :: pn)) (.builtin "isinstance") (rIsE2 X.K D a d) := by
  intro pins s σ H xs us Q I r h
  obtain ⟨c, cv, b, rfl, hcv, e, hdd, q⟩ := h
  cases r with
  | cons rx rr =>
    cases rr with
    | cons rt rr =>
      cases rr
      cases rx
      have ec := hcv _ rt
      subst ec
      obtain ⟨hget, _⟩ := I.pin (a, oe) (List.mem_append.mpr (.inl List.mem_cons_self))
      obtain ⟨vs, hv⟩ := hf
      have J : ∃ od, PySem.W.InstAt s.heap a oe D od := by
        obtain ⟨oc, od, oda, osl⟩ := oe
        obtain ⟨h1, h2⟩ := hz
        dsimp only at h1 h2 hv
        subst h1 h2 hv
        cases od with
        | none => exact ⟨none, hget, rfl, rfl, trivial⟩
        | some dd =>
          obtain ⟨fs, hfs⟩ := hdd dd rfl
          have hx : ObjOk X.prog X.w H s.heap dd (.xd fs) := I.hok dd _ hfs
          obtain ⟨mA, ⟨o, es, ep, ho, _⟩, _⟩ := hx
          exact ⟨some o, hget, rfl, rfl, ho⟩
      obtain ⟨od, J⟩ := J
      have hcl : (PySem.W.clsIn X.K D).isSome = true := by
        obtain ⟨cd, hc, _⟩ := PySem.W.any_some C.hd
        rw [hc]
        rfl
      exact PySem.W.kia_one (PySem.W.kitx_exc hcl C.hg C.hk C.hs C.ha C.hn C.ht C.hm) I.kIn J e (fun z => nomatch z) fun tk => ⟨.bl b, H, I.kept (t' := tk) fun _ _ z => z, rfl, q⟩
/-! ### which of the nine, with their values -/
def nAt (n : Nine) : Nat → Addr
  | 0 => n.c0
  | 1 => n.c1
  | 2 => n.c2
  | 3 => n.c3
  | 4 => n.c4
  | 5 => n.c5
  | 6 => n.c6
  | 7 => n.c7
  | _ => n.c8
def parOf : Nat → Option Str
  | 1 => some "number"
  | 2 => some "part"
  | 6 => some "place"
  | 8 => some "number"
  | _ => none
structure TOne9 (K : PySem.W.Frag) (n : Nine) (CS : Addr) (i : Nat) : Prop where
  one : TOne K n CS (nAt n i) i
  part : PySem.W.findIn K (.ref (nAt n i)) "part" = some none
  number : PySem.W.findIn K (.ref (nAt n i)) "number" = some none
  place : PySem.W.findIn K (.ref (nAt n i)) "place" = some none
theorem TOne9.xf {K : PySem.W.Frag} {n : Nine} {CS : Addr} {i : Nat} (T : TOne9 K n CS i) : XfC K (nAt n i) := ⟨T.one.ex.hg, T.one.ex.hk, T.one.ex.hs, T.one.ex.hd⟩
/-- what the caught one carries -/
def Fld (i : Nat) (d : Option Addr) (v : Int) (H : Hp) : Prop := match parOf i with
  | none => d = none ∧ v = 0
  | some f => ∃ dd, d = some dd ∧ H dd = some (.xd [(f, .int v)])
theorem Fld.same {i : Nat} {d : Option Addr} {v : Int} {H H' : Hp} (h : Fld i d v H) (s : Same H H') : Fld i d v H' := by
  unfold Fld at h ⊢
  split at h
  · exact h
  · obtain ⟨dd, e, h⟩ := h
    exact ⟨dd, e, s _ _ h⟩
theorem Fld.xd {i : Nat} {d : Option Addr} {v : Int} {H : Hp} (h : Fld i d v H) : ∀ dd, d = some dd → ∃ fs, H dd = some (.xd fs) := by
  unfold Fld at h
  split at h
  · rintro dd rfl
    cases h.1
  · obtain ⟨dd, e, h⟩ := h
    rintro d' rfl
    cases e
    exact ⟨_, h⟩
/-- what is told: the value, or the word of the error and its value -/
def TT9 (is : Nat → Prop) (n : Nine) : (XK → Hp → VK → Prop) → Hp → VK → Prop := fun tl H Q =>
  tl (fun cls d H' => ∃ (i : Nat) (w : Str) (v : Int), is i ∧ i < 9 ∧ nineN[i]? = some w ∧ cls = .ref (nAt n i) ∧ Fld i d v H' ∧ ∀ (H2 : Hp) (p : Addr), Same H' H2 → H2 p = some (.tup [.str w, .int v]) → Q (.ref p) H2) H Q
theorem mkI {H1 : Hp} {D : Addr} {par : Str} {i : Int} {Q : XK} (hi : i.natAbs.log2 < 1000) (q : ∀ d H2, Same H1 H2 → H2 d = some (.xd [(par, .int i)]) → Q (.ref D) (some d) H2) :
    [V.int i].length ≤ 1000 ∧ ∀ a, H1 a = none → spIn D par (.ref a :: ([V.int i] ++ [])) (upd H1 a (exo a D none))
      (fun v H2 => v = .non ∧ ∃ (d : Addr) (fs : List (Str × V)), H2 a = some (exo a D (some d)) ∧ H2 d = some (exd d fs) ∧ H1 d = none ∧ Q (.ref D) (some d) (upd (del H2 a) d (.xd fs))) (fun _ _ _ => False) := by
  refine ⟨by show 1 ≤ 1000; decide, fun a ha => ⟨a, i, rfl, upd_same, hi, fun dx hdx hne => ⟨rfl, dx, _, upd_same, by rw [upd_ne hne, upd_same], ?_, q dx _ (fun b o e => ?_) upd_same⟩⟩⟩
  · rw [upd_ne hne] at hdx
    exact hdx
  · have hd1 : H1 dx = none := by
      rw [upd_ne hne] at hdx
      exact hdx
    have h1 : b ≠ dx := ne_of_none e hd1
    have h2 : b ≠ a := ne_of_none e ha
    rw [upd_ne h1, del_ne h2, upd_ne h2, upd_ne h1, upd_ne h2]
    exact e
theorem ps_raiseI {X : Cx} {W : WX} {x par msg : Str} {D : Addr} {j : InPos} {k : Nat} {args : Arguments} {e : Expr} {ta : TA} {p pos rpos : Pos} (hc : X.calm = true) (tk : Takes X W) (T : InC X.prog X.K X.mg x D par msg j args) (hpar : par = "part" ∨ par = "number" ∨ par = "place")
    (hr : Room k X.A) (hk : 2 ≤ k) (hg : Gl X x) (ha : PA X [e] ta) (hdb : (x == ("__debug__" : Str)) = false := by decide) (hst : starEach [e] X.env = (false, eval e X.env) :: starEach [] X.env := by rfl) (hpl : (backTo pos (starEach [] X.env)).any (·.1) = false := by rfl) :
    PS X (.Raise (some (.Call (.Name x p) [e] [] pos)) none rpos) (fun _ σ H => tMkO D (spIn D par) [] ta σ H fun cls d H' => W cls d σ H') := by
  obtain ⟨fI, fd, iC, tI, F1, hb⟩ := in_ok (P := X.prog) (w := X.w) (base := X.base) (CX := CX0) T hpar
  exact ps_raise hc tk (pmk_oex (ds := []) (dvs := []) T.T iC tI F1 (hr.mono hk) hb .nil pass0 hg T.g ha hdb hst hpl)
end SK
namespace SK
open PySem PySem.Spec PyProof.Rows L2 LamX
/-! ### captured cells, tracked for a call -/
def CellO (c : Addr) (o : Obj) : HO := .ext fun h => h.get? c = some o
abbrev Cs := List (Addr × Obj)
def addC (H : Hp) (cs : Cs) : Hp := fun b => match cs.lookup b with
  | some o => some (CellO b o)
  | none => H b
def subC (H : Hp) (cs : Cs) : Hp := fun b => match cs.lookup b with
  | some _ => none
  | none => H b
theorem addC_at {H : Hp} {cs : Cs} {c : Addr} {o : Obj} (h : cs.lookup c = some o) : addC H cs c = some (CellO c o) := by
  unfold addC
  rw [h]
theorem addC_ne {H : Hp} {cs : Cs} {b : Addr} (h : cs.lookup b = none) : addC H cs b = H b := by
  unfold addC
  rw [h]
theorem subC_at {H : Hp} {cs : Cs} {c : Addr} {o : Obj} (h : cs.lookup c = some o) : subC H cs c = none := by
  unfold subC
  rw [h]
theorem subC_ne {H : Hp} {cs : Cs} {b : Addr} (h : cs.lookup b = none) : subC H cs b = H b := by
  unfold subC
  rw [h]
/-- none of them is tracked -/
def Off (H : Hp) (cs : Cs) : Prop := ∀ c o, cs.lookup c = some o → H c = none
/-- all of them are tracked -/
def On (H : Hp) (cs : Cs) : Prop := ∀ c o, cs.lookup c = some o → H c = some (CellO c o)
theorem On.add {H : Hp} {cs : Cs} : On (addC H cs) cs := fun _ _ h => addC_at h
theorem On.same {H H' : Hp} {cs : Cs} (h : On H cs) (s : Same H H') : On H' cs := fun c o e => s _ _ (h c o e)
theorem Off.sub {H : Hp} {cs : Cs} : Off (subC H cs) cs := fun _ _ h => subC_at h
theorem Off.not {H : Hp} {cs : Cs} (f : Off H cs) {b : Addr} {u : HO} (e : H b = some u) : cs.lookup b = none := by
  cases h : cs.lookup b with
  | none => rfl
  | some o =>
    rw [f b o h] at e
    cases e
theorem On.not {H : Hp} {cs : Cs} (f : On H cs) {b : Addr} {u : HO} (e : H b = some u) (n : ∀ o, u ≠ CellO b o) : cs.lookup b = none := by
  cases h : cs.lookup b with
  | none => rfl
  | some o =>
    rw [f b o h] at e
    exact absurd (Option.some.inj e).symm (n o)
theorem On.notN {H : Hp} {cs : Cs} (f : On H cs) {b : Addr} (e : H b = none) : cs.lookup b = none := by
  cases h : cs.lookup b with
  | none => rfl
  | some o =>
    rw [f b o h] at e
    cases e
theorem cellO_tup {c : Addr} {o : Obj} {xs : List V} : HO.tup xs ≠ CellO c o := fun z => by
  unfold CellO at z
  cases z
theorem cellO_own {c x : Addr} {o : Obj} : HO.own x ≠ CellO c o := fun z => by
  unfold CellO at z
  cases z
theorem cellO_frz {c : Addr} {o ob : Obj} {u : HO} : HO.frz ob u ≠ CellO c o := fun z => by
  unfold CellO at z
  cases z
theorem cellO_tbl {c : Addr} {o : Obj} {ps : Array Value} : HO.tbl ps ≠ CellO c o := fun z => by
  unfold CellO at z
  cases z
/-- what stood stands, the cells told or not -/
theorem Same.sub {H H2 : Hp} {cs : Cs} (f : Off H cs) (s : Same (addC H cs) H2) : Same H (subC H2 cs) := fun b u e => by
  have hb := f.not e
  rw [subC_ne hb]
  exact s _ _ (by rw [addC_ne hb]; exact e)
theorem Same.toAdd {H : Hp} {cs : Cs} (f : Off H cs) : Same H (addC H cs) := fun b u e => by
  rw [addC_ne (f.not e)]
  exact e
/-- .. a lambda's frame within it, the cells told again behind it -/
theorem Same.back {H' H2 : Hp} {cs : Cs} (on : On H' cs) (off : Off H2 cs) (s : Same (subC H' cs) H2) : Same H' (addC H2 cs) := fun b u e => by
  cases z : cs.lookup b with
  | some o =>
    rw [on b o z] at e
    cases e
    exact addC_at z
  | none =>
    rw [addC_ne z]
    exact s _ _ (by rw [subC_ne z]; exact e)
theorem Fld.add {i : Nat} {d : Option Addr} {v : Int} {H : Hp} {cs : Cs} (h : Fld i d v H) (off : Off H cs) : Fld i d v (addC H cs) := h.same (Same.toAdd off)
section
variable {P : Program} {w : World} {H H2 : Hp} {h : Heap} {cs : Cs}
theorem hok_add (f : Off H cs) (at_ : ∀ c o, cs.lookup c = some o → h.get? c = some o) (hok : HOk P w H h) : HOk P w (addC H cs) h := fun b u z => by
  cases e : cs.lookup b with
  | some o =>
    rw [addC_at e] at z
    cases z
    exact ⟨at_ b o e, ⟨o, at_ b o e⟩, fun h1 h2 z k => k _ z⟩
  | none =>
    rw [addC_ne e] at z
    exact (hok b u z).stay (fun c v _ q => q) (fun c hc => by rw [addC_ne (f.not hc)]; exact hc) fun c xs hc => by rw [addC_ne (f.not hc)]; exact hc
theorem hok_sub (f : On H cs) (hok : HOk P w H h) : HOk P w (subC H cs) h := fun b u z => by
  cases e : cs.lookup b with
  | some o =>
    rw [subC_at e] at z
    cases z
  | none =>
    rw [subC_ne e] at z
    exact (hok b u z).stay (fun c v _ q => q) (fun c hc => by rw [subC_ne (f.not hc fun _ => cellO_own)]; exact hc) fun c xs hc => by rw [subC_ne (f.not hc fun _ => cellO_tup)]; exact hc
theorem cell_get (f : On H cs) (hok : HOk P w H h) {c : Addr} {o : Obj} (e : cs.lookup c = some o) : h.get? c = some o := by
  have x : ObjOk P w H h c (.ext fun h => h.get? c = some o) := hok c _ (f c o e)
  exact x.1
variable {K : PySem.W.Frag} {mg : Str → Option Value} {base : Heap} {A : Around} {outer : List Env} {s s' : Shared} {Q : VK} {E : XK} {u : Value}
theorem env0_add (e0 : Env0 P w K mg base A outer s H) (f : Off H cs) (at_ : ∀ c o, cs.lookup c = some o → s.heap.get? c = some o ∧ base.get? c = none ∧ c ∉ frs outer) : Env0 P w K mg base A outer s (addC H cs) := by
  refine ⟨e0.frames, e0.mod, fun b o e => ⟨(e0.bs b o e).1, ?_⟩, e0.bsz, e0.funs, fun b hb => ?_, hok_add f (fun c o e => (at_ c o e).1) e0.hok, e0.bare⟩
  · cases z : cs.lookup b with
    | none => rw [addC_ne z]; exact (e0.bs b o e).2
    | some o' =>
      rw [(at_ b o' z).2.1] at e
      cases e
  · cases z : cs.lookup b with
    | none => rw [addC_ne z]; exact e0.frf b hb
    | some o' => exact absurd hb (at_ b o' z).2.2
theorem env0_sub (e0 : Env0 P w K mg base A outer s H) (f : On H cs) : Env0 P w K mg base A outer s (subC H cs) := by
  refine ⟨e0.frames, e0.mod, fun b o e => ⟨(e0.bs b o e).1, ?_⟩, e0.bsz, e0.funs, fun b hb => ?_, hok_sub f e0.hok, e0.bare⟩
  · rw [subC_ne (f.notN (e0.bs b o e).2)]
    exact (e0.bs b o e).2
  · rw [subC_ne (f.notN (e0.frf b hb))]
    exact e0.frf b hb
/-- behind a call with the cells told -/
theorem ce_sub (f : Off H cs) (at_ : ∀ c o, cs.lookup c = some o → s.heap.get? c = some o ∧ c ∉ frs outer) (c : CE outer P w (addC H cs) s (fun v H2 => On H2 cs ∧ Q v (subC H2 cs)) u s') : CE outer P w H s Q u s' := by
  obtain ⟨v, H2, os, bare, un, hok, r, on, q⟩ := c
  refine ⟨v, subC H2 cs, os, bare, ?_, hok_sub on hok, r, q⟩
  exact {
    keep := fun b o e n hf hx => by
      cases z : cs.lookup b with
      | none => exact un.keep b o e (by rw [addC_ne z]; exact n) hf hx
      | some o' =>
        have e2 := (at_ b o' z).1
        rw [e] at e2
        cases e2
        exact cell_get on hok z
    slot := fun b o e n hf hx => by
      cases z : cs.lookup b with
      | none => exact un.slot b o e (by rw [addC_ne z]; exact n) hf hx
      | some o' => exact absurd hf (at_ b o' z).2
    free := fun b o e n hx => by
      cases z : cs.lookup b with
      | none =>
        rw [subC_ne z]
        exact un.free b o e (by rw [addC_ne z]; exact n) hx
      | some o' => exact subC_at z
    there := un.there
    tups := fun b xs e => by
      have z := f.not e
      rw [subC_ne z]
      exact un.tups b xs (by rw [addC_ne z]; exact e)
    frzs := fun b o v e => by
      have z := f.not e
      rw [subC_ne z]
      exact un.frzs b o v (by rw [addC_ne z]; exact e)
    tbls := fun b ps e => by
      have z := f.not e
      rw [subC_ne z]
      exact un.tbls b ps (by rw [addC_ne z]; exact e) }
/-- .. within one, the cells let go for a frame of their own -/
theorem ce_add (f : On H cs) (hok : HOk P w H s.heap) (frf : ∀ b ∈ frs outer, H b = none) (c : CE outer P w (subC H cs) s (fun v H2 => Off H2 cs → Q v (addC H2 cs)) u s') : CE outer P w H s Q u s' := by
  obtain ⟨v, H2, os, bare, un, hok2, r, q⟩ := c
  have nfr : ∀ c o, cs.lookup c = some o → c ∉ frs outer := fun c o e hm => by
    have := frf c hm
    rw [f c o e] at this
    cases this
  have at2 : ∀ c o, cs.lookup c = some o → s'.heap.get? c = some o := fun c o e => un.keep c o (cell_get f hok e) (subC_at e) (nfr c o e) (by simp)
  have off2 : Off H2 cs := fun c o e => un.free c o (cell_get f hok e) (subC_at e) (by simp)
  refine ⟨v, addC H2 cs, os, bare, ?_, hok_add off2 at2 hok2, r, q off2⟩
  exact {
    keep := fun b o e n hf hx => un.keep b o e (by rw [subC_ne (f.notN n)]; exact n) hf hx
    slot := fun b o e n hf hx => un.slot b o e (by rw [subC_ne (f.notN n)]; exact n) hf hx
    free := fun b o e n hx => by
      have z := f.notN n
      rw [addC_ne z]
      exact un.free b o e (by rw [subC_ne z]; exact n) hx
    there := un.there
    tups := fun b xs e => by
      have z := f.not e fun _ => cellO_tup
      rw [addC_ne z]
      exact un.tups b xs (by rw [subC_ne z]; exact e)
    frzs := fun b o v e => by
      have z := f.not e fun _ => cellO_frz
      rw [addC_ne z]
      exact un.frzs b o v (by rw [subC_ne z]; exact e)
    tbls := fun b ps e => by
      have z := f.not e fun _ => cellO_tbl
      rw [addC_ne z]
      exact un.tbls b ps (by rw [subC_ne z]; exact e) }
theorem cx_add (f : On H cs) (hok : HOk P w H s.heap) (frf : ∀ b ∈ frs outer, H b = none) (c : L2.CX P w outer (subC H cs) s (fun cls d H2 => Off H2 cs → E cls d (addC H2 cs)) u s') : L2.CX P w outer H s E u s' := by
  obtain ⟨a, B, H2, cls, d, rfl, fl, hok2, ub, na, os, ag, hE⟩ := c
  have nfr : ∀ c o, cs.lookup c = some o → c ∉ frs outer := fun c o e hm => by
    have := frf c hm
    rw [f c o e] at this
    cases this
  have at2 : ∀ c o, cs.lookup c = some o → B.get? c = some o := fun c o e => ub.keep c o (cell_get f hok e) (subC_at e) (nfr c o e)
  have off2 : Off H2 cs := fun c o e => ub.free c o (cell_get f hok e) (subC_at e)
  have za : cs.lookup a = none := by
    cases z : cs.lookup a with
    | none => rfl
    | some o =>
      have h1 := at2 a o z
      rw [fl.2.1] at h1
      cases h1
  refine ⟨a, B, addC H2 cs, cls, d, rfl, fl, hok_add off2 at2 hok2, ?_, by rw [addC_ne za]; exact na, os, ag, hE off2⟩
  exact {
    keep := fun b o e n hf => ub.keep b o e (by rw [subC_ne (f.notN n)]; exact n) hf
    slot := fun b o e hf => ub.slot b o e hf
    free := fun b o e n => by
      have z := f.notN n
      rw [addC_ne z]
      exact ub.free b o e (by rw [subC_ne z]; exact n)
    there := ub.there
    tups := fun b xs e => by
      have z := f.not e fun _ => cellO_tup
      rw [addC_ne z]
      exact ub.tups b xs (by rw [subC_ne z]; exact e)
    frzs := fun b o v e => by
      have z := f.not e fun _ => cellO_frz
      rw [addC_ne z]
      exact ub.frzs b o v (by rw [subC_ne z]; exact e)
    tbls := fun b ps e => by
      have z := f.not e fun _ => cellO_tbl
      rw [addC_ne z]
      exact ub.tbls b ps (by rw [subC_ne z]; exact e) }
end
/-! ### a call, the captured cells told -/
/-- cs: what the cells of the names fr hold, the slots being σ -/
structure CsIs (cells : List (Str × Addr)) (N : List Str) (fr : List Str) (σ : L2.St) (cs : Cs) (H : Hp) : Prop where
  off : Off H cs
  has : ∀ y ∈ fr, ∃ (c : Addr) (o : Obj), cells.lookup y = some c ∧ cs.lookup c = some o ∧ (∃ v, o.data = .cell v) ∧ ∀ (i : Nat) (v : V), N[i]? = some y → σ[i]? = some (some v) → ∃ u, RelV v u ∧ o.data = .cell (some u)
section
variable {X : Cx} {pins : List (Addr × Obj)} {σ : L2.St} {H : Hp} {s : Shared}
/-- the names fr are cells of the running def -/
structure FrOk (X : Cx) (fr : List Str) : Prop where
  own : ∀ y ∈ fr, X.fn y = true
  kind : ∀ y ∈ fr, X.env.scope.names.lookup y = some .cell
theorem cs_of (I : Inv X pins σ H s) : ∀ fr : List Str, FrOk X fr → ∃ cs : Cs, CsIs X.env.cells X.N fr σ cs H ∧ ∀ c o, cs.lookup c = some o → s.heap.get? c = some o ∧ X.base.get? c = none ∧ c ∉ frs X.stack
  | [], _ => ⟨[], ⟨fun c o e => by simp at e, fun y hy => by simp at hy⟩, fun c o e => by simp at e⟩
  | y :: r, F => by
    obtain ⟨cs, h1, h2⟩ := cs_of I r ⟨fun z hz => F.own z (List.mem_cons_of_mem _ hz), fun z hz => F.kind z (List.mem_cons_of_mem _ hz)⟩
    have hk := F.kind y (List.mem_cons_self ..)
    obtain ⟨c, hc⟩ := I.ok.has y (.inl hk)
    obtain ⟨v, o, ho, hd⟩ := I.cell y c hc
    have hcab := I.ok.cab y c (F.own y (List.mem_cons_self ..)) hc
    have hbase : X.base.get? c = none := Heap.get?_none_of_le (Nat.le_trans I.ok.bsz hcab)
    have hfr : c ∉ frs X.stack := fun hm => by
      rcases List.mem_cons.mp (I.stkSub c hm) with e | e
      · exact I.cne y c hc e
      · obtain ⟨_, o', ho', _⟩ := I.ok.funs.mem e
        exact absurd (Nat.lt_of_lt_of_le (Heap.lt_size ho') hcab) (Nat.lt_irrefl _)
    have look : ∀ b, ((c, o) :: cs).lookup b = if b = c then some o else cs.lookup b := fun b => by
      by_cases e : b = c
      · subst e
        simp
      · have e2 : (b == c) = false := by simpa using e
        rw [List.lookup_cons, e2, if_neg e]
    refine ⟨(c, o) :: cs, ⟨fun b o' e => ?_, fun z hz => ?_⟩, fun b o' e => ?_⟩
    · rw [look] at e
      split at e
      · rename_i q
        subst q
        exact I.freeC y _ hc
      · exact h1.off b o' e
    · rcases List.mem_cons.mp hz with rfl | hz
      · refine ⟨c, o, hc, by rw [look, if_pos rfl], ⟨v, hd⟩, fun i v' e1 e2 => ?_⟩
        obtain ⟨m, hn, hl⟩ := I.loc
        obtain ⟨u, ru, q⟩ := hl i z v' e1 e2 (.inr (.inl hk))
        rcases q with ⟨k', _⟩ | ⟨_, c3, e', o3, ho3, hd3⟩
        · have k' : X.env.scope.names.lookup z = some .local := k'
          rw [hk] at k'
          cases k'
        · rw [hc] at e'
          cases e'
          rw [ho] at ho3
          cases ho3
          exact ⟨u, ru, hd3⟩
      · obtain ⟨c2, o2, e1, e2, e3, e4⟩ := h1.has z hz
        by_cases e : c2 = c
        · subst e
          refine ⟨c2, o, e1, by rw [look, if_pos rfl], ⟨v, hd⟩, fun i v' q1 q2 => ?_⟩
          obtain ⟨u, ru, hu⟩ := e4 i v' q1 q2
          have := (h2 c2 o2 e2).1
          rw [ho] at this
          cases this
          exact ⟨u, ru, hu⟩
        · exact ⟨c2, o2, e1, by rw [look, if_neg e]; exact e2, e3, e4⟩
    · rw [look] at e
      split at e
      · rename_i q
        subst q
        cases e
        exact ⟨ho, hbase, hfr⟩
      · exact h2 b o' e
def tCallC (X : Cx) (fr : List Str) (sp : Sp) (t : TA) : TE := fun σ H Q => t σ H fun vs H1 => ∀ cs : Cs, X.Ok → σ.length = X.N.length → CsIs X.env.cells X.N fr σ cs H1 → sp vs (addC H1 cs) (fun v H2 => On H2 cs ∧ Q v (subC H2 cs)) C8.E0
variable {k j : Nat} {sp : Sp} {x : Str} {p pos : Pos} {e : Expr} {es : List Expr} {t : TA} {fr : List Str}
theorem pe_cC (c : C8.Cal X.prog X.w X.K X.mg X.base k x sp []) (hr : Room j X.A) (hk : k ≤ j) (hg : Gl X x) (F : FrOk X fr) (ha : PA X (e :: es) t)
    (hdb : (x == ("__debug__" : Str)) = false := by decide) (he : starEach (e :: es) X.env = (false, eval e X.env) :: starEach es X.env := by rfl) (hpl : (backTo pos (starEach es X.env)).any (·.1) = false := by rfl) :
    PE X (.Call (.Name x p) (e :: es) [] pos) (tCallC X fr sp t) := by
  obtain ⟨f, fd, ps, ds, Fn, hm, kp, b, d⟩ := c.ex
  refine ⟨fun pins s σ H Q I h => ?_⟩
  refine wpAny_Call_Name_kw (ld_glob I hg hm ?_ hdb)
  refine PySem.W.callWith_K (h₀ := X.base) I.ok.mod.kin kp (thn (ha.run pos pins s σ H _ I h) fun us s1 ⟨vs, H1, I1, r, q⟩ => ⟨I1.kIn, ?_⟩) he hpl
  obtain ⟨cs, hcs, hat⟩ := cs_of I1 fr F
  have q1 := q cs I1.ok I1.len hcs
  cases d
  have hl : us.length = ps.length := by rw [← r.length]; exact Fn.len _ _ _ _ q1
  refine wpAny_call (codeAny_mono (Fn.run X.A X.stack s1 (addC H1 cs) ⟨us, []⟩ us vs _ _ (hr.mono hk) (env0_add I1.env0 hcs.off hat) (by simpa using b s1 us I1.kIn (by simpa using hl)) r q1) fun r s' hq => ?_)
  cases r with
  | error e => exact (show False from hq).elim
  | ok fl =>
    cases fl with
    | ret u => exact I1.after (ce_sub hcs.off (fun c o e => ⟨(hat c o e).1, (hat c o e).2.2⟩) hq)
    | next => exact False.elim hq
    | brk => exact False.elim hq
    | cont => exact False.elim hq
end
end SK
namespace SK
open PySem PySem.Spec PyProof.Rows L2 LamX
/-! ### lambdas as values -/
structure LF where
  params : Arguments
  body : Expr
  scope : Scope
  cl : List (Str × Addr)
  dV : Value
  c : Addr
  qual : Str
abbrev LF.fd (F : LF) (doc pm ctv : Value) : FuncData := PySem.W.kdv_fn "<lambda>" F.qual F.params (.expr F.body) F.scope F.cl F.dV doc pm (.ref F.c) ctv
def LamO (f : Addr) (F : LF) : HO := .ext fun h => ∃ (od : Option Addr) (sl : Array (Option Value)) (doc pm ctv : Value), h.get? f = some (⟨.type "function", od, .func (F.fd doc pm ctv), sl⟩ : Obj)
structure LamAt (H : Hp) (f : Addr) (F : LF) : Prop where
  fn : H f = some (LamO f F)
  code : H F.c = some (CodeO F.c F.qual)
  dflt : F.dV = .none ∨ ∃ t, F.dV = .ref t ∧ H t = some (.tup [.int 0])
theorem LamAt.mono {H H' : Hp} {f : Addr} {F : LF} (h : LamAt H f F) (s : Same H H') : LamAt H' f F := ⟨s _ _ h.fn, s _ _ h.code, h.dflt.imp id fun ⟨t, e, ht⟩ => ⟨t, e, s _ _ ht⟩⟩
theorem lamO_at {P : Program} {w : World} {H : Hp} {h : Heap} {f : Addr} {F : LF} (hok : HOk P w H h) (e : H f = some (LamO f F)) : ∃ (od : Option Addr) (sl : Array (Option Value)) (doc pm ctv : Value), h.get? f = some (⟨.type "function", od, .func (F.fd doc pm ctv), sl⟩ : Obj) := by
  have x : ObjOk P w H h f (.ext fun h => ∃ (od : Option Addr) (sl : Array (Option Value)) (doc pm ctv : Value), h.get? f = some (⟨.type "function", od, .func (F.fd doc pm ctv), sl⟩ : Obj)) := hok f _ e
  exact x.1
/-- no parameter but such that are never read; captured names and globals -/
structure LamS2 (N fr : List Str) (sc scope : Scope) : Prop where
  kind : scope.kind = .function
  co : scope.isCoroutine = false
  gen : scope.isGenerator = false
  nocell : ∀ y ∈ scope.names, y.2 ≠ .cell
  own : ∀ y ∈ scope.names, y.2 = .local → y.1 ∉ N
  free : ∀ y ∈ scope.names, y.2 = .free → y.1 ∈ fr
def lamS2B (N fr : List Str) (scope : Scope) : Bool :=
  decide (scope.kind = .function) && !scope.isCoroutine && !scope.isGenerator && scope.names.all fun y => !decide (y.2 = .cell) && (!decide (y.2 = .local) || !decide (y.1 ∈ N)) && (!decide (y.2 = .free) || decide (y.1 ∈ fr))
theorem lamS2_by {N fr : List Str} {sc scope : Scope} (h : lamS2B N fr scope = true) : LamS2 N fr sc scope := by
  unfold lamS2B at h
  simp only [Bool.and_eq_true, Bool.or_eq_true, Bool.not_eq_true', decide_eq_true_eq, decide_eq_false_iff_not, List.all_eq_true] at h
  obtain ⟨⟨⟨h1, h2⟩, h3⟩, h4⟩ := h
  exact ⟨h1, h2, h3, fun y hy => (h4 y hy).1.1, fun y hy e => (h4 y hy).1.2.elim (fun z => absurd e z) id, fun y hy e => (h4 y hy).2.elim (fun z => absurd e z) id⟩
/-- what its call without arguments binds -/
def LamBind (F : LF) : Prop := ∀ (doc pm ctv : Value) (s : Shared), (F.dV = .none ∨ ∃ (t : Addr) (o : Obj) (n : Nat) (tk : Tok), F.dV = .ref t ∧ s.heap.get? t = some o ∧ o.data = .seq #[.int 0 tk] n) →
  ∃ binds : List (Str × Value), BindsTo s (F.fd doc pm ctv) ⟨[], []⟩ binds ∧ ∀ y ∈ binds, F.scope.names.lookup y.1 = some .local
/-- what the function at f gives, called without arguments wherever H stands -/
def LamT (P : Program) (w : World) (K : PySem.W.Frag) (mg : Str → Option Value) (base : Heap) (k : Nat) (H : Hp) (f : Addr) (tl : XK → Hp → VK → Prop) : Prop :=
  ∀ (A : Around) (outer : List Env) (s : Shared) (H' : Hp) (Q : VK) (E : XK), Room k A → Env0 P w K mg base A outer s H' → Same H H' → tl E H' Q → codeAny (model P w) A (.call (.ref f) ⟨[], []⟩) (CR (L2.CX P w) outer P w H' s Q E) s
theorem LamT.mono {P : Program} {w : World} {K : PySem.W.Frag} {mg : Str → Option Value} {base : Heap} {k : Nat} {H H2 : Hp} {f : Addr} {tl : XK → Hp → VK → Prop} (h : LamT P w K mg base k H f tl) (s : Same H H2) : LamT P w K mg base k H2 f tl :=
  fun A outer s' H' Q E hr e0 s2 q => h A outer s' H' Q E hr e0 (s.trans s2) q
section
variable {X : Cx} {F : LF} {f : Addr} {k : Nat} {cs : Cs} {σ : L2.St} {H : Hp} {fr : List Str} {tb : XK → TE}
abbrev tlOf (tb : XK → TE) (σ : L2.St) (cs : Cs) : XK → Hp → VK → Prop := fun E H' Q => tb (fun cls d H2 => Off H2 cs → E cls d (addC H2 cs)) σ (subC H' cs) (fun v H2 => Off H2 cs → Q v (addC H2 cs))
theorem lam_t (ok : X.Ok) (L : LamS2 X.N fr X.env.scope F.scope) (hfr : FrOk X fr) (hcl : F.cl = cloFrom X.env.cells F.scope.names []) (hq : F.qual = X.env.qual ++ "<lambda>") (hb : LamBind F)
    (hbody : ∀ (A : Around) (outer : List Env) (s : Shared) (H : Hp) (E : XK), Room k (A.deeper (lamEnv X F.scope s.heap.objs.size f F.c)) → PE (lamCx X A outer s H E F.scope f F.c) F.body (tb E))
    (hlen : σ.length = X.N.length) (hL : LamAt H f F) (C : CsIs X.env.cells X.N fr σ cs H) : LamT X.prog X.w X.K X.mg X.base (k + 1) (addC H cs) f (tlOf tb σ cs) := by
  obtain ⟨params, body, scope, cl, dV, c', qual⟩ := F
  dsimp only at L hcl hq hbody hb
  subst hcl hq
  intro A outer s H' Q E hr e0 hs q
  have hL' : LamAt (addC H cs) f ⟨params, body, scope, cloFrom X.env.cells scope.names [], dV, c', X.env.qual ++ "<lambda>"⟩ :=
    ⟨by rw [addC_ne (C.off.not hL.fn)]; exact hL.fn, by rw [addC_ne (C.off.not hL.code)]; exact hL.code, hL.dflt.imp id fun ⟨t, e, ht⟩ => ⟨t, e, by rw [addC_ne (C.off.not ht)]; exact ht⟩⟩
  have hL2 := hL'.mono hs
  have on : On H' cs := On.add.same hs
  have e1 := env0_sub e0 on
  obtain ⟨od, sl, doc, pm, ctv, ho⟩ := lamO_at e0.hok hL2.fn
  have hcode := NdefX.codeO_at e0.hok hL2.code
  have lim : s.heap.NoLimit := e0.mod.nolimit.keeps fun b o e => (e0.bs b o e).1
  obtain ⟨binds, hbi, hloc⟩ := hb doc pm ctv s (by
    rcases hL2.dflt with e | ⟨t, e, ht⟩
    · exact .inl e
    · obtain ⟨_, its, rv, ob, h1, h2, h3, h4⟩ := e0.hok t _ ht
      cases rv with
      | cons ra rb =>
        cases rb
        obtain ⟨tk, rfl⟩ := ra
        exact .inr ⟨t, ob, h3, tk, e, h1, h4⟩)
  have hfree : ∀ y ∈ scope.names, y.2 = .free → ∃ c, X.env.cells.lookup y.1 = some c := fun y hy e => by
    obtain ⟨c, o, h1, _⟩ := C.has y.1 (L.free y hy e)
    exact ⟨c, h1⟩
  refine PySem.W.kla_callFunE hr.depth ho rfl L.co L.gen rfl hcode (hbi _ _ _ _ ?_)
  refine wpAny_newFunctionEnv (fun y hy => L.nocell y hy) hloc (fun h₁ hns hsb => ⟨lim.fresh _ hsb, ?_⟩) L.kind
  show codeAny _ _ (.expr body (lamEnv X scope s.heap.objs.size f c')) _ _
  have kp : ∀ b o, s.heap.get? b = some o → h₁.get? b = some o := fun b o e => hsb.extBut b o (Nat.ne_of_lt (Heap.lt_size e)) (Heap.get?_push_of_some _ e)
  have noA : ∀ b : Addr, b ∉ (lamCx X A outer s (subC H' cs) (fun cls d H2 => Off H2 cs → E cls d (addC H2 cs)) scope f c').ex := fun b z => absurd (show b ∈ ([] : List Addr) from z) (by simp)
  have cget : ∀ y c, (cloFrom X.env.cells scope.names []).lookup y = some c → X.env.cells.lookup y = some c ∧ (y, NameKind.free) ∈ scope.names := fun y c e => by
    refine ⟨NdefX.clo_cm hfree e, ?_⟩
    rcases cloFrom_mem (PySem.mem_of_lookup e) with hm | ⟨h1, _⟩
    · cases hm
    · exact h1
  have ccell : ∀ y c, (cloFrom X.env.cells scope.names []).lookup y = some c → ∃ o, cs.lookup c = some o ∧ (∃ v, o.data = .cell v) ∧ h₁.get? c = some o ∧ ∀ (i : Nat) (v : V), X.N[i]? = some y → σ[i]? = some (some v) → ∃ u, RelV v u ∧ o.data = .cell (some u) := fun y c e => by
    obtain ⟨h1, h2⟩ := cget y c e
    obtain ⟨c2, o, q1, q2, q3, q4⟩ := C.has y (L.free _ h2 rfl)
    rw [h1] at q1
    cases q1
    exact ⟨o, q2, q3, kp _ _ (cell_get on e0.hok q2), q4⟩
  have J : Inv (lamCx X A outer s (subC H' cs) (fun cls d H2 => Off H2 cs → E cls d (addC H2 cs)) scope f c') [] σ (subC H' cs) { s with heap := h₁, toks := s.toks + binds.length } := by
    refine ⟨⟨e1.mod, L.kind, rfl, rfl, Nat.le_refl _, fun y z c e2 e3 => ok.inj y z c (cget y c e2).1 (cget z c e3).1, fun y hy => ?_, fun y c z _ => ?_, fun _ => hr.hd, Around.frames_deeper e1.frames, .inr ⟨rfl, rfl⟩, fun b z => absurd z (noA b), e1.bs, e1.bsz, fun b _ _ => noA b,
        fun b z => absurd z (noA b), e1.funs, e1.frf⟩,
      rfl, e1.bare, Un.kept kp, ⟨_, hns, fun i y v q1 q2 q3 => ?_⟩, fun y c e => ?_, e1.hok.fresh (Nat.le_refl _), fun y c e => ?_, fun q hq => absurd (show q ∈ ([] : List (Addr × Obj)) ++ [] from hq) (by simp), e1.hok.kept kp, hlen⟩
    · have hy : scope.names.lookup y = some .cell ∨ scope.names.lookup y = some .free := hy
      rcases hy with hy | hy
      · exact absurd rfl (L.nocell _ (PySem.mem_of_lookup hy))
      · have hm := PySem.mem_of_lookup hy
        obtain ⟨c, hc⟩ := hfree _ hm rfl
        exact ⟨c, NdefX.clo_has hfree hm hc⟩
    · have z : false = true := z
      cases z
    · have q3 : Vis scope y := q3
      rcases q3 with z | z | z
      · exact absurd (List.mem_of_getElem? (show X.N[i]? = some y from q1)) (L.own _ (PySem.mem_of_lookup z) rfl)
      · exact absurd rfl (L.nocell _ (PySem.mem_of_lookup z))
      · have hm := PySem.mem_of_lookup z
        obtain ⟨c, hc⟩ := hfree _ hm rfl
        have hcc := NdefX.clo_has hfree hm hc
        obtain ⟨o, _, _, ho1, hv⟩ := ccell y c hcc
        obtain ⟨u, ru, hu⟩ := hv i v q1 q2
        exact ⟨u, ru, .inr ⟨.inr z, c, hcc, o, ho1, hu⟩⟩
    · obtain ⟨o, _, ⟨v, hd⟩, ho1, _⟩ := ccell y c e
      exact ⟨v, o, ho1, hd⟩
    · obtain ⟨o, h1, _⟩ := ccell y c e
      exact subC_at h1
  refine PySem.W.kla_codeExpr (wpAny_mono ((hbody A outer s (subC H' cs) (fun cls d H2 => Off H2 cs → E cls d (addC H2 cs)) (hr.deeper _)).run [] _ _ (subC H' cs) (fun v H2 => Off H2 cs → Q v (addC H2 cs)) J q) (fun v s' hq => ?_) fun e s' hq => ?_)
  · obtain ⟨w', H2, J', rv, q2⟩ := hq
    exact ce_add on e0.hok e0.frf ⟨w', H2, J'.os, J'.bare, J'.base, J'.hok, rv, q2⟩
  · exact wpAny_mono hq (fun _ s'' h => cx_add on e0.hok e0.frf h) fun e' s'' h => cx_add on e0.hok e0.frf h
end
/-- what a lambda promises, made in the context X -/
def LamG (X : Cx) (k : Nat) (fr : List Str) (H : Hp) (f : Addr) (tb : XK → TE) : Prop := ∃ F : LF, LamAt H f F ∧ ∀ (σ : L2.St) (cs : Cs) (H2 : Hp), X.Ok → σ.length = X.N.length → LamAt H2 f F → CsIs X.env.cells X.N fr σ cs H2 →
  LamT X.prog X.w X.K X.mg X.base (k + 1) (addC H2 cs) f (tlOf tb σ cs)
theorem LamG.mono {X : Cx} {k : Nat} {fr : List Str} {H H' : Hp} {f : Addr} {tb : XK → TE} (h : LamG X k fr H f tb) (s : Same H H') : LamG X k fr H' f tb := by
  obtain ⟨F, h1, h2⟩ := h
  exact ⟨F, h1.mono s, h2⟩
theorem lamO_tbl {f : Addr} {F : LF} {ps : Array Value} : LamO f F ≠ .tbl ps := fun z => by
  unfold LamO at z
  cases z
theorem lamO_lst {f : Addr} {F : LF} {xs : List V} : LamO f F ≠ .lst xs := fun z => by
  unfold LamO at z
  cases z
theorem codeO_lst {c : Addr} {q : Str} {xs : List V} : CodeO c q ≠ .lst xs := fun z => by
  unfold CodeO at z
  cases z
theorem LamG.ext {X : Cx} {k : Nat} {fr : List Str} {H H' : Hp} {f : Addr} {tb : XK → TE} (h : LamG X k fr H f tb) (s : ExtN H H') : LamG X k fr H' f tb := by
  obtain ⟨F, h1, h2⟩ := h
  exact ⟨F, ⟨s _ _ h1.fn fun ps => lamO_tbl, s _ _ h1.code fun ps => codeO_ne ps, h1.dflt.imp id fun ⟨t, e, ht⟩ => ⟨t, e, s _ _ ht fun ps z => by cases z⟩⟩, h2⟩
theorem LamG.upd {X : Cx} {k : Nat} {fr : List Str} {H : Hp} {f a : Addr} {xs : List V} {o : HO} {tb : XK → TE} (h : LamG X k fr H f tb) (e : H a = some (.lst xs)) : LamG X k fr (upd H a o) f tb := by
  obtain ⟨F, h1, h2⟩ := h
  exact ⟨F, ⟨by rw [upd_ne (ne_of h1.fn e lamO_lst)]; exact h1.fn, by rw [upd_ne (ne_of h1.code e codeO_lst)]; exact h1.code, h1.dflt.imp id fun ⟨t, e', ht⟩ => ⟨t, e', by rw [upd_ne (ne_of ht e (by intro z; cases z))]; exact ht⟩⟩, h2⟩
theorem LamG.at {X : Cx} {k : Nat} {fr : List Str} {H : Hp} {f : Addr} {tb : XK → TE} {σ : L2.St} {cs : Cs} (h : LamG X k fr H f tb) (ok : X.Ok) (hl : σ.length = X.N.length) (C : CsIs X.env.cells X.N fr σ cs H) : LamT X.prog X.w X.K X.mg X.base (k + 1) (addC H cs) f (tlOf tb σ cs) := by
  obtain ⟨F, h1, h2⟩ := h
  exact h2 σ cs H ok hl h1 C
section
variable {X : Cx} {pins : List (Addr × Obj)} {σ : L2.St} {H : Hp} {s : Shared}
theorem lamO_ok {P : Program} {w : World} {H : Hp} {h : Heap} {f : Addr} {F : LF} {doc pm ctv : Value} (e : h.get? f = some (⟨.type "function", none, .func (F.fd doc pm ctv), #[]⟩ : Obj)) : ObjOk P w H h f (LamO f F) :=
  ⟨⟨none, #[], doc, pm, ctv, e⟩, ⟨_, e⟩, fun h1 h2 ⟨od, sl, doc, pm, ctv, z⟩ k => ⟨od, sl, doc, pm, ctv, k _ z⟩⟩
theorem mk_tail {T : List (Addr × Str)} {c P : Addr} {params : Arguments} {body : Expr} {scope : Scope} {pos : Pos} {fl : Nat} {dV : Value} {E : Value → Shared → Prop} {Q : Value → Shared → Prop} (I : Inv X pins σ H s) (TB : TabB X.base X.mg c P) (hcode : X.env.code = .ref c)
    (hm : (P, X.env.qual ++ "<lambda>") ∈ T) (hu : ∀ p ∈ T, p.1 = P → p.2 = X.env.qual ++ "<lambda>") (hT : Tabs T H) (hfree : ∀ y ∈ scope.names, y.2 = .free → ∃ c, X.env.cells.lookup y.1 = some c) (hd : dV = .none ∨ ∃ t, dV = .ref t ∧ H t = some (.tup [.int 0]))
    (h : ∀ (f c' : Addr) (H1 : Hp) (s' : Shared), Inv X pins σ H1 s' → ExtN H H1 → Tabs T H1 → H f = none → LamAt H1 f ⟨params, body, scope, cloFrom X.env.cells scope.names [], dV, c', X.env.qual ++ "<lambda>"⟩ → Q (.ref f) s') :
    wpAny (model X.prog X.w) X.A (makeTail "<lambda>" (X.env.qual ++ "<lambda>") params (.expr body) scope X.env dV .none none pos fl) Q E s := by
  obtain ⟨ps, hP, ht, ha⟩ := hT _ hm
  have bP : s.heap.BuiltinsAt X.mg P := TB.bm.keeps I.bk
  have hP' : s.heap.get? P = some { cls := .none, data := .fields ps } := I.hok P _ hP
  have fin : ∀ {f c' : Addr} {H1 : Hp} {h' : Heap} {tk : Nat} {doc pm ctv : Value}, Inv X pins σ H1 { s with heap := h', toks := tk } → f = h'.objs.size → ExtN H H1 → Tabs T H1 → H1 c' = some (CodeO c' (X.env.qual ++ "<lambda>")) → s.heap.objs.size ≤ h'.objs.size →
      Q (.ref f) { s with heap := h'.push (PySem.W.kdv_obj "<lambda>" (X.env.qual ++ "<lambda>") params (.expr body) scope (cloFrom X.env.cells scope.names []) dV doc pm c' ctv), toks := tk } := fun {f c' H1 h' tk doc pm ctv} J ef eN T1 hc hsz => by
    subst ef
    have hn : H1 h'.objs.size = none := J.hok.fresh (Nat.le_refl _)
    have J2 := J.laid (t' := tk) (a := h'.objs.size) (o := LamO h'.objs.size ⟨params, body, scope, cloFrom X.env.cells scope.names [], dV, c', X.env.qual ++ "<lambda>"⟩) (h' := h'.push (PySem.W.kdv_obj "<lambda>" (X.env.qual ++ "<lambda>") params (.expr body) scope (cloFrom X.env.cells scope.names []) dV doc pm c' ctv)) (fun b o e => Heap.get?_push_of_some _ e) (Nat.le_refl _) (lamO_ok (Heap.get?_push_size _ rfl))
    have sm := Same.new hn (LamO h'.objs.size ⟨params, body, scope, cloFrom X.env.cells scope.names [], dV, c', X.env.qual ++ "<lambda>"⟩)
    refine h _ c' _ _ J2 (eN.trans (ExtN.of sm)) (T1.ext sm) (I.hok.fresh hsz) ⟨upd_same, sm _ _ hc, hd.imp id fun ⟨t, e, ht⟩ => ⟨t, e, sm _ _ (eN _ _ ht fun ps z => by cases z)⟩⟩
  cases hc : codeAmong pos ps.toList with
  | none =>
    refine PySem.W.kdv_makeTail (mg := X.mg) (c := c) (P := P) (ps := ps) (closure_ok hfree) I.ok.glob (I.mod.glob.keeps I.bk) hcode (TB.code.keeps I.bk) hP' ht hc TB.gP bP fun c' ctv doc h' tk hx hge hlt hrec htb => ?_
    obtain ⟨c2, oc, vs, t, e2, hoc, hdd, hv⟩ := hrec
    cases e2
    have nC : H c' = none := I.hok.fresh hge
    have hE : ExtN H (upd (upd H P (.tbl (ps ++ #[rawInt pos.line, rawInt pos.col, .ref c']))) c' (CodeO c' (X.env.qual ++ "<lambda>"))) := fun b o e n => by
      rw [upd_ne (ne_of_none e nC), upd_ne (fun z => n ps (Option.some.inj (e.symm.trans (by rw [z]; exact hP))))]
      exact e
    have eL : (ps ++ #[rawInt pos.line, rawInt pos.col, .ref c']).toList = ps.toList ++ [rawInt pos.line, rawInt pos.col, .ref c'] := by simp
    have I1 := inv_table (t' := tk) (more := #[rawInt pos.line, rawInt pos.col, .ref c']) (q := X.env.qual ++ "<lambda>") (c := c') (h' := h') I hP (fun b o hb e => hx b o hb e) htb hge ⟨oc, vs, t, hoc, hdd, hv⟩
    refine fin I1 rfl hE (fun p hp => ?_) upd_same (Nat.le_trans hge (Nat.le_of_lt hlt))
    by_cases hb : p.1 = P
    · rw [hu p hp hb, hb]
      refine ⟨_, by rw [upd_ne (ne_of_none hP nC), upd_same], by rw [eL]; exact PySem.TriplesOk_snoc _ _ _ _ ht, fun p' cv hcv => ?_⟩
      rw [eL] at hcv
      rcases among_app _ ht hcv with z | z
      · obtain ⟨c0, e1, e2⟩ := ha p' cv z
        exact ⟨c0, e1, hE _ _ e2 codeO_ne⟩
      · exact ⟨c', z, upd_same⟩
    · obtain ⟨ps', a1, a2, a3⟩ := hT p hp
      refine ⟨ps', by rw [upd_ne (ne_of_none a1 nC), upd_ne hb]; exact a1, a2, fun p' cv hcv => ?_⟩
      obtain ⟨c0, e1, e2⟩ := a3 p' cv hcv
      exact ⟨c0, e1, hE _ _ e2 codeO_ne⟩
  | some cv =>
    obtain ⟨c', e, hco⟩ := ha pos cv hc
    subst e
    refine PySem.W.kdv_makeTailHit (mg := X.mg) (c := c) (P := P) (ps := ps) (closure_ok hfree) I.ok.glob (I.mod.glob.keeps I.bk) hcode (TB.code.keeps I.bk) hP' ht hc bP fun ctv doc h' tk hx hsz => ?_
    exact fin (I.kept fun b o e => hx b o e) rfl (ExtN.refl H) hT hco hsz
def tLamV (T : List (Addr × Str)) (X : Cx) (k : Nat) (fr : List Str) (tb : XK → TE) : TE := fun _ H Q => Tabs T H ∧ ∀ (f : Addr) (H1 : Hp), ExtN H H1 → Tabs T H1 → H f = none → LamG X k fr H1 f tb → Q (.ref f) H1
variable {T : List (Addr × Str)} {c PT : Addr} {params : Arguments} {body : Expr} {scope : Scope} {lpos : Pos} {k : Nat} {fr : List Str} {tb : XK → TE}
theorem lam_free (ok : X.Ok) (L : LamS2 X.N fr X.env.scope scope) (F : FrOk X fr) : ∀ y ∈ scope.names, y.2 = .free → ∃ c, X.env.cells.lookup y.1 = some c := fun y hy e => ok.has y.1 (.inl (F.kind _ (L.free y hy e)))
/-- lambda: e -/
theorem pe_lam0 (TB : TabB X.base X.mg c PT) (hcode : X.env.code = .ref c) (hm : (PT, X.env.qual ++ "<lambda>") ∈ T) (hu : ∀ p ∈ T, p.1 = PT → p.2 = X.env.qual ++ "<lambda>") (L : LamS2 X.N fr X.env.scope scope) (Fo : FrOk X fr)
    (hdef : defaultsOf params X.env = ([], []))
    (hbind : ∀ (q : Str) (cl : List (Str × Addr)) (doc pm cv ctv : Value), bindArgs (PySem.W.kdv_fn "<lambda>" q params (.expr body) scope cl .none doc pm cv ctv) ⟨[], []⟩ = pure [])
    (hbody : ∀ (A : Around) (outer : List Env) (s : Shared) (H : Hp) (E : XK) (f c' : Addr), Room k (A.deeper (lamEnv X scope s.heap.objs.size f c')) → PE (lamCx X A outer s H E scope f c') body (tb E)) :
    PE X (.Lambda params body scope lpos) (tLamV T X k fr tb) := by
  refine ⟨fun pins s σ H Q I h => ?_⟩
  obtain ⟨hT, h⟩ := h
  refine PySem.W.kla_eval hdef ?_
  rw [makeFunction_eq]
  simp only [List.zip_nil_right, List.filterMap_nil, List.isEmpty_nil, if_true, pure_bind]
  refine mk_tail I TB hcode hm hu hT (lam_free I.ok L Fo) (.inl rfl) fun f c' H1 s' I1 eN T1 hf hL => ?_
  refine ⟨.ref f, H1, I1, rfl, h f H1 eN T1 hf ⟨_, hL, fun σ' cs H2 ok hl hL2 C => ?_⟩⟩
  exact lam_t ok L Fo rfl rfl (fun doc pm ctv s'' _ => ⟨[], .of_eq (hbind _ _ _ _ _ _), fun y hy => by simp at hy⟩) (fun A outer s H E hr => hbody A outer s H E f c' hr) hl hL2 C
/-- lambda x=0: e -/
theorem pe_lam1 {pn : Str} {p0 : Pos} (TB : TabB X.base X.mg c PT) (hcode : X.env.code = .ref c) (hm : (PT, X.env.qual ++ "<lambda>") ∈ T) (hu : ∀ p ∈ T, p.1 = PT → p.2 = X.env.qual ++ "<lambda>") (L : LamS2 X.N fr X.env.scope scope) (Fo : FrOk X fr)
    (hdef : params.defaults = [.Constant (.int 0) 0 p0]) (hk0 : params.kw_defaults = []) (hpn : scope.names.lookup pn = some .local)
    (hbind : ∀ (q : Str) (cl : List (Str × Addr)) (dV doc pm cv ctv : Value), ∃ kk : Option (Array Value) → Sem (List (Str × Value)), bindArgs (PySem.W.kdv_fn "<lambda>" q params (.expr body) scope cl dV doc pm cv ctv) ⟨[], []⟩ = seqItems? dV >>= kk ∧ ∀ v : Value, kk (some #[v]) = pure [(pn, v)])
    (hbody : ∀ (A : Around) (outer : List Env) (s : Shared) (H : Hp) (E : XK) (f c' : Addr), Room k (A.deeper (lamEnv X scope s.heap.objs.size f c')) → PE (lamCx X A outer s H E scope f c') body (tb E)) :
    PE X (.Lambda params body scope lpos) (tLamV T X k fr tb) := by
  refine ⟨fun pins s σ H Q I h => ?_⟩
  obtain ⟨hT, h⟩ := h
  refine PySem.W.kdv_lam (by rw [hdef] <;> rfl) hk0 ?_
  rw [hdef]
  refine PySem.W.kdv_all1 (thn ((pe_int (X := X)).run pins s σ H (fun v H' => v = .int 0 ∧ H' = H) I ⟨rfl, rfl⟩) fun u s1 hu1 => PySem.W.kdv_all0 ?_)
  obtain ⟨v, H1, I1, r1, e1, e2⟩ := hu1
  subst e1
  rw [e2] at I1
  obtain ⟨tk, rfl⟩ := r1
  rw [makeFunction_eq]
  simp only [List.zip_nil_right, List.filterMap_nil, List.isEmpty_nil, List.isEmpty_cons, Bool.false_eq_true, if_false, if_true, pure_bind]
  refine wpAny_bind (wpAny_newTextTuple ?_)
  have hn : H s1.heap.objs.size = none := I1.hok.fresh (Nat.le_refl _)
  have I2 := I1.laid (t' := s1.toks) (a := s1.heap.objs.size) (o := .tup [.int 0]) (h' := s1.heap.push (PySem.W.kdv_tup [.int 0 tk])) (fun b o e => Heap.get?_push_of_some _ e) (Nat.le_refl _) ⟨by show 1 ≤ sizeLine; decide, [.int 0 tk], .cons ⟨tk, rfl⟩ .nil, _, Heap.get?_push_size _ rfl, rfl, _, rfl⟩
  have sm := Same.new hn (.tup [.int 0])
  refine mk_tail I2 TB hcode hm hu (hT.ext sm) (lam_free I.ok L Fo) (.inr ⟨_, rfl, upd_same⟩) fun f c' H3 s' I3 eN T3 hf hL => ?_
  refine ⟨.ref f, H3, I3, rfl, h f H3 ((ExtN.of sm).trans eN) T3 (NdefX.upd_none hf) ⟨_, hL, fun σ' cs H2 ok hl hL2 C => ?_⟩⟩
  refine lam_t ok L Fo rfl rfl (fun doc pm ctv s'' hd => ?_) (fun A outer s H E hr => hbody A outer s H E f c' hr) hl hL2 C
  rcases hd with e | ⟨t, o, n, tk', e, ho, hdo⟩
  · cases e
  · cases e
    obtain ⟨kk, hk1, hk2⟩ := hbind (X.env.qual ++ "<lambda>") (cloFrom X.env.cells scope.names []) (.ref s1.heap.objs.size) doc pm (.ref c') ctv
    exact ⟨[(pn, .int 0 tk')], BindsTo.of_defaults rfl ho hdo hk1 (hk2 _), fun y hy => by
      have ey : y = (pn, .int 0 tk') := by simpa using hy
      subst ey
      exact hpn⟩
end
/-! ### such a function called -/
section
variable {Z : Cx} {k i : Nat} {a : Str} {p1 p2 : Pos} {E : XK}
theorem pe_callL (hr : Room k Z.A) (hx : Passes (L2.CX Z.prog Z.w) Z E) (hN : Z.N[i]? = some a) (hv : Vis Z.env.scope a) (hd : (a == ("__debug__" : Str)) = false := by decide) (hcd : (a == ("__classdict__" : Str)) = false := by decide) :
    PE Z (.Call (.Name a p1) [] [] p2) (fun σ H Q => ∃ (f : Addr) (F : LF) (tl : XK → Hp → VK → Prop), σ[i]? = some (some (.ref f)) ∧ H f = some (LamO f F) ∧ LamT Z.prog Z.w Z.K Z.mg Z.base k H f tl ∧ tl E H Q) := by
  refine ⟨fun pins s σ H Q I h => ?_⟩
  obtain ⟨f, F, tl, hs, hF, hT, hq⟩ := h
  refine wpAny_Call_Name_kw (thn ((pe_var (pos := p1) (i := i) hN hv hd hcd).run pins s σ H (fun v H1 => v = .ref f ∧ H1 = H) I ⟨.ref f, hs, rfl, rfl⟩) fun u s1 ⟨v, H1, I1, r1, q1⟩ => ?_)
  obtain ⟨ev, eH⟩ := q1
  subst ev
  rw [eH] at I1
  obtain rfl : u = Value.ref f := r1
  obtain ⟨od, sl, doc, pm, ctv, ho⟩ := lamO_at I1.hok hF
  refine PySem.W.callWith_F0 ⟨_, _, _, _, ho⟩ ?_
  refine wpAny_call (codeAny_mono (hT Z.A Z.stack s1 H Q E hr I1.env0 (Same.refl H) hq) fun r s' hq => ?_)
  cases r with
  | error e => exact hx pins σ H s1 e s' I1 hq
  | ok fl =>
    cases fl with
    | ret u => exact I1.after hq
    | next => exact False.elim hq
    | brk => exact False.elim hq
    | cont => exact False.elim hq
end
def spToldL (P : Program) (w : World) (K : PySem.W.Frag) (mg : Str → Option Value) (base : Heap) (k : Nat) (is : Nat → Prop) (ns : Nine) : Sp := fun vs H Q _ => ∃ (f : Addr) (F : LF) (tl : XK → Hp → VK → Prop), vs = [.ref f] ∧ H f = some (LamO f F) ∧ LamT P w K mg base k H f tl ∧ TT9 is ns tl H Q
theorem nine_plan : ∀ i < 9, nineN[i]? = some ("BadPlan" : Str) → i = 2 := by decide +kernel
theorem nine_pair : ∀ i < 9, nineN[i]? = some ("BadPair" : Str) → i = 1 := by decide +kernel
theorem nine_work : ∀ i < 9, nineN[i]? = some ("BadWork" : Str) → i = 8 := by decide +kernel
theorem nine_text : ∀ i < 9, nineN[i]? = some ("BadText" : Str) → i = 6 := by decide +kernel
theorem nine_plain : ∀ i < 9, i ≠ 2 → i ≠ 1 → i ≠ 8 → i ≠ 6 → parOf i = none := by decide +kernel
theorem kit9 {K : PySem.W.Frag} {n : Nine} {CS D : Addr} {i : Nat} (T : TOne K n CS D i) : ∀ j < 9, PySem.W.kitOne K (.ref D) (.ref (nAt n j)) = some (decide (i = j)) := fun j hj => by
  have : j = 0 ∨ j = 1 ∨ j = 2 ∨ j = 3 ∨ j = 4 ∨ j = 5 ∨ j = 6 ∨ j = 7 ∨ j = 8 := by omega
  rcases this with rfl | rfl | rfl | rfl | rfl | rfl | rfl | rfl | rfl
  · exact T.k0
  · exact T.k1
  · exact T.k2
  · exact T.k3
  · exact T.k4
  · exact T.k5
  · exact T.k6
  · exact T.k7
  · exact T.k8
/-- each of them refuses so -/
def spAllL (P : Program) (w : World) (K : PySem.W.Frag) (mg : Str → Option Value) (base : Heap) (k : Nat) (is : Nat → Prop) (ns : Nine) : Sp := fun vs H Q _ => ∃ (D : Addr) (fs : List Addr) (T : Addr) (i : Nat) (wd : Str) (v : Int), vs = [.ref D, .ref T] ∧ H D = some (.lst (fs.map V.ref)) ∧ is i ∧ i < 9 ∧ nineN[i]? = some wd ∧
  H T = some (.tup [.str wd, .int v]) ∧ (∀ f ∈ fs, ∃ (F : LF) (tl : XK → Hp → VK → Prop), H f = some (LamO f F) ∧ LamT P w K mg base k H f tl ∧ ∀ (E : XK) (H' : Hp) (Q' : VK), Same H H' → (∀ d H2, Same H' H2 → Fld i d v H2 → E (.ref (nAt ns i)) d H2) → tl E H' Q') ∧ giv (.bl true) H Q
end SK
namespace SK
open PySem PySem.Spec PyProof.Rows L2 LamX
/-! ### errors with a value: what the text says of their classes -/
def posZ : Pos := ⟨0, 0, 0, 0⟩
def inPosOf : List Stmt → InPos
  | [.Expr (.Call (.Attribute (.Call (.Name _ p0) _ _ p1) _ p2) [.JoinedStr [.Constant _ _ p3, .FormattedValue (.Name _ p4) _ _ p5] p6] _ p7) p8, .Assign [.Attribute (.Name _ p9) _ q0] (.Name _ q1) q2] => ⟨p0, p1, p2, p3, p4, p5, p6, p7, p8, p9, q0, q1, q2⟩
  | _ => ⟨posZ, posZ, posZ, posZ, posZ, posZ, posZ, posZ, posZ, posZ, posZ, posZ, posZ⟩
def inMsgOf : List Stmt → Str
  | .Expr (.Call _ [.JoinedStr (.Constant (.str m) _ _ :: _) _] _ _) _ :: _ => m
  | _ => ""
/-! ### defs that raise, classes made that raise -/
structure MakX (P : Program) (w : World) (K : PySem.W.Frag) (mg : Str → Option Value) (base : Heap) (k : Nat) (x : Str) (C : Addr) (sp : Sp) : Prop where
  ex : ∃ (f : Addr) (fd : FuncData) (ps : List Str), Mk K C f ∧ FnOk P w K mg base (L2.CX P w) k f fd ps sp ∧ mg x = some (.ref C) ∧ Binds K fd ps []
section
variable {P : Program} {w : World} {K : PySem.W.Frag} {mg : Str → Option Value} {base : Heap} {C : Addr}
theorem Di.makX {x q : Str} {st : Stmt} {N ps : List Str} {k : Nat} {sp : Sp} (D : Di K mg C x q st ps) (S : FnScope N ps (defScope st)) (len : ∀ vs H Q E, sp vs H Q E → vs.length = ps.length)
    (hbody : ∀ (f : Addr) (cdv : Value) (A : Around) (outer : List Env) (s : Shared) (H : Hp) (vs : List V) (Q : VK) (E : XK), Room k (A.deeper (envOfC q (defScope st) s.heap.objs.size f cdv)) → sp vs H Q E →
      ∃ t, PSs (cxOf (L2.CX P w) P w K mg base N q (defScope st) f cdv A outer s H E) (defBody st) t ∧ t { nx := fun _ H' => Q .non H', rt := Q } (start N vs) H) : MakX P w K mg base (k + 1) x C sp := by
  obtain ⟨f, fd, F, M, hm, b⟩ := D.ex
  exact ⟨f, fd, ps, M, F.okX S len (fun cdv A outer s H vs Q E => hbody f cdv A outer s H vs Q E), hm, b⟩
end
section
variable {X : Cx} {C : Addr} {k j : Nat} {sp : Sp} {x : Str} {p pos : Pos} {e : Expr} {es : List Expr} {t : TA} {A : Around} {outer : List Env} {s : Shared} {H : Hp} {E : XK} {sc : Scope} {lf c' : Addr}
theorem pe_mkL (c : MakX X.prog X.w X.K X.mg X.base k x C sp) (hr : Room j (A.deeper (LamX.lamEnv X sc s.heap.objs.size lf c'))) (hk : k + 1 ≤ j) (hg : Gl (LamX.lamCx X A outer s H E sc lf c') x) (ha : PA (LamX.lamCx X A outer s H E sc lf c') (e :: es) t)
    (hdb : (x == ("__debug__" : Str)) = false := by decide) (he : starEach (e :: es) (LamX.lamCx X A outer s H E sc lf c').env = (false, eval e (LamX.lamCx X A outer s H E sc lf c').env) :: starEach es (LamX.lamCx X A outer s H E sc lf c').env := by rfl) (hpl : (backTo pos (starEach es (LamX.lamCx X A outer s H E sc lf c').env)).any (·.1) = false := by rfl) :
    PE (LamX.lamCx X A outer s H E sc lf c') (.Call (.Name x p) (e :: es) [] pos) (tMake C sp [] E t) := by
  obtain ⟨f, fd, ps, M, F, hm, b⟩ := c.ex
  exact pe_make (X := LamX.lamCx X A outer s H E sc lf c') M F (hr.mono hk) hg hm b .nil (passL (X := X) (A := A) (outer := outer) (s := s) (H := H) (E := E) (sc := sc) (f := lf) (c' := c')) ha hdb he hpl
end
/-! ### any values asked for a plan -/
def NumB (H : Hp) (x : V) (lo hi : Int) (b : Bool) : Prop := match x with
  | .int i => b = (decide (lo ≤ i) && decide (i ≤ hi))
  | .non => b = false
  | .bl _ => b = false
  | .str _ => b = false
  | .ref a => b = false ∧ ∃ xs, H a = some (.tup xs) ∨ H a = some (.lst xs)
  | _ => False
theorem NumB.mono {H H' : Hp} {x : V} {lo hi : Int} {b : Bool} (h : NumB H x lo hi b) (s : Same H H') : NumB H' x lo hi b := by
  cases x with
  | ref a =>
    obtain ⟨h1, xs, h2⟩ := h
    exact ⟨h1, xs, h2.imp (s _ _) (s _ _)⟩
  | _ => exact h
def spNumB : Sp := fun vs H Q _ => ∃ (x : V) (lo hi : Int) (b : Bool), vs = [x, .int lo, .int hi] ∧ NumB H x lo hi b ∧ giv (.bl b) H Q
def PricesB (H : Hp) (x : V) (many : Int) (b : Bool) : Prop := (x = .non ∧ b = false) ∨ ∃ a xs, x = .ref a ∧ ((H a = some (.lst xs) ∧ b = false) ∨ (H a = some (.tup xs) ∧ (((xs.length : Int) ≠ many ∧ b = false) ∨
  ((xs.length : Int) = many ∧ xs.length ≤ 1000 ∧ ∃ bs : List Bool, bs.length = xs.length ∧ (∀ (i : Nat) (x : V) (c : Bool), xs[i]? = some x → bs[i]? = some c → NumB H x 1 99 c) ∧ b = bs.all id))))
theorem PricesB.mono {H H' : Hp} {x : V} {m : Int} {b : Bool} (h : PricesB H x m b) (s : Same H H') : PricesB H' x m b := by
  rcases h with h | ⟨a, xs, e, ⟨h1, h2⟩ | ⟨h1, h2 | ⟨h2, h3, bs, h4, h5, h6⟩⟩⟩
  · exact .inl h
  · exact .inr ⟨a, xs, e, .inl ⟨s _ _ h1, h2⟩⟩
  · exact .inr ⟨a, xs, e, .inr ⟨s _ _ h1, .inl h2⟩⟩
  · exact .inr ⟨a, xs, e, .inr ⟨s _ _ h1, .inr ⟨h2, h3, bs, h4, fun i x c e1 e2 => (h5 i x c e1 e2).mono s, h6⟩⟩⟩
def spPricesB : Sp := fun vs H Q _ => ∃ (x : V) (m : Int) (b : Bool), vs = [x, .int m] ∧ PricesB H x m b ∧ giv (.bl b) H Q
def PlanBad (H : Hp) (v : V) (part : Int) : Prop := (part = -1 ∧ (v = .non ∨ ∃ a xs, v = .ref a ∧ (H a = some (.lst xs) ∨ (H a = some (.tup xs) ∧ xs.length ≠ 4)))) ∨
  ∃ a x0 x1 x2 x3, v = .ref a ∧ H a = some (.tup [x0, x1, x2, x3]) ∧ ((part = 0 ∧ NumB H x0 1 9 false) ∨ (NumB H x0 1 9 true ∧ ((part = 1 ∧ NumB H x1 1 4 false) ∨ ∃ m, x1 = .int m ∧ 1 ≤ m ∧ m ≤ 4 ∧
    ((part = 2 ∧ PricesB H x2 m false) ∨ (part = 3 ∧ PricesB H x2 m true ∧ NumB H x3 1 99 false)))))
theorem PlanBad.mono {H H' : Hp} {v : V} {part : Int} (h : PlanBad H v part) (s : Same H H') : PlanBad H' v part := by
  rcases h with ⟨h1, h2⟩ | ⟨a, x0, x1, x2, x3, e, h1, h2⟩
  · exact .inl ⟨h1, h2.imp id fun ⟨a, xs, e, h⟩ => ⟨a, xs, e, h.imp (s _ _) fun ⟨u, v⟩ => ⟨s _ _ u, v⟩⟩⟩
  · refine .inr ⟨a, x0, x1, x2, x3, e, s _ _ h1, ?_⟩
    rcases h2 with ⟨h2, h3⟩ | ⟨h2, ⟨h3, h4⟩ | ⟨m, e1, m1, m4, ⟨h3, h4⟩ | ⟨h3, h4, h5⟩⟩⟩
    · exact .inl ⟨h2, h3.mono s⟩
    · exact .inr ⟨h2.mono s, .inl ⟨h3, h4.mono s⟩⟩
    · exact .inr ⟨h2.mono s, .inr ⟨m, e1, m1, m4, .inl ⟨h3, h4.mono s⟩⟩⟩
    · exact .inr ⟨h2.mono s, .inr ⟨m, e1, m1, m4, .inr ⟨h3, h4.mono s, h5.mono s⟩⟩⟩
theorem PlanBad.part {H : Hp} {v : V} {part : Int} (h : PlanBad H v part) : part.natAbs.log2 < 1000 := by
  have : part = -1 ∨ part = 0 ∨ part = 1 ∨ part = 2 ∨ part = 3 := by
    rcases h with ⟨h1, _⟩ | ⟨_, _, _, _, _, _, _, ⟨h, _⟩ | ⟨_, ⟨h, _⟩ | ⟨_, _, _, _, ⟨h, _⟩ | ⟨h, _⟩⟩⟩⟩
    · exact .inl h1
    all_goals omega
  rcases this with rfl | rfl | rfl | rfl | rfl <;> decide
theorem NumB.ext {H H' : Hp} {x : V} {lo hi : Int} {b : Bool} (h : NumB H x lo hi b) (s : ExtN H H') : NumB H' x lo hi b := by
  cases x with
  | ref a =>
    obtain ⟨h1, xs, h2⟩ := h
    exact ⟨h1, xs, h2.imp (fun e => s _ _ e (by intro ps z; cases z)) (fun e => s _ _ e (by intro ps z; cases z))⟩
  | _ => exact h
theorem PricesB.ext {H H' : Hp} {x : V} {m : Int} {b : Bool} (h : PricesB H x m b) (s : ExtN H H') : PricesB H' x m b := by
  have t : ∀ a xs, H a = some (.tup xs) → H' a = some (.tup xs) := fun a xs e => s _ _ e (by intro ps z; cases z)
  have l : ∀ a xs, H a = some (.lst xs) → H' a = some (.lst xs) := fun a xs e => s _ _ e (by intro ps z; cases z)
  rcases h with h | ⟨a, xs, e, ⟨h1, h2⟩ | ⟨h1, h2 | ⟨h2, h3, bs, h4, h5, h6⟩⟩⟩
  · exact .inl h
  · exact .inr ⟨a, xs, e, .inl ⟨l _ _ h1, h2⟩⟩
  · exact .inr ⟨a, xs, e, .inr ⟨t _ _ h1, .inl h2⟩⟩
  · exact .inr ⟨a, xs, e, .inr ⟨t _ _ h1, .inr ⟨h2, h3, bs, h4, fun i x c e1 e2 => (h5 i x c e1 e2).ext s, h6⟩⟩⟩
theorem PlanBad.ext {H H' : Hp} {v : V} {part : Int} (h : PlanBad H v part) (s : ExtN H H') : PlanBad H' v part := by
  have t : ∀ a xs, H a = some (.tup xs) → H' a = some (.tup xs) := fun a xs e => s _ _ e (by intro ps z; cases z)
  have l : ∀ a xs, H a = some (.lst xs) → H' a = some (.lst xs) := fun a xs e => s _ _ e (by intro ps z; cases z)
  rcases h with ⟨h1, h2⟩ | ⟨a, x0, x1, x2, x3, e, h1, h2⟩
  · exact .inl ⟨h1, h2.imp id fun ⟨a, xs, e, h⟩ => ⟨a, xs, e, h.imp (l _ _) fun ⟨u, v⟩ => ⟨t _ _ u, v⟩⟩⟩
  · refine .inr ⟨a, x0, x1, x2, x3, e, t _ _ h1, ?_⟩
    rcases h2 with ⟨h2, h3⟩ | ⟨h2, ⟨h3, h4⟩ | ⟨m, e1, m1, m4, ⟨h3, h4⟩ | ⟨h3, h4, h5⟩⟩⟩
    · exact .inl ⟨h2, h3.ext s⟩
    · exact .inr ⟨h2.ext s, .inl ⟨h3, h4.ext s⟩⟩
    · exact .inr ⟨h2.ext s, .inr ⟨m, e1, m1, m4, .inl ⟨h3, h4.ext s⟩⟩⟩
    · exact .inr ⟨h2.ext s, .inr ⟨m, e1, m1, m4, .inr ⟨h3, h4.ext s, h5.ext s⟩⟩⟩
def XdAt (H : Hp) (d : Addr) (f : Str) (i : Int) : Prop := H d = some (.xd [(f, .int i)])
def spChPlanX (D : Addr) : Sp := fun vs H _ E => ∃ (v : V) (part : Int), vs = [v] ∧ PlanBad H v part ∧ ∀ d H2, Same H H2 → H2 d = some (.xd [("part", .int part)]) → E (.ref D) (some d) H2
/-- a call that is handed a bad plan ahead of n other things -/
def spBP (n : Nat) (D : Addr) : Sp := fun vs H _ E => ∃ (v : V) (part : Int) (rest : List V), vs = v :: rest ∧ rest.length = n ∧ PlanBad H v part ∧ ∀ d H2, Same H H2 → H2 d = some (.xd [("part", .int part)]) → E (.ref D) (some d) H2
/-- .. a machine made of it -/
def spBPM (D : Addr) : Sp := fun vs H _ E => ∃ (x : V) (v : V) (part : Int) (u : V), vs = [x, v, u] ∧ PlanBad H v part ∧ ∀ d H2, Same H H2 → H2 d = some (.xd [("part", .int part)]) → E (.ref D) (some d) H2
end SK
namespace SK
open PySem PySem.Spec PyProof.Rows L2 LamX
theorem in_mk {prog : Program} {K : PySem.W.Frag} {mg : Str → Option Value} {h : Heap} {x par msg nm q file : Str} {D N fI cda cc : Addr} {j : InPos} {args : Arguments} {bs bm : List Value} {sn : List Str} {sub : List Value} {ab : Bool} {col : Option Bool} {dd : Option Addr} {k0 k1 k2 k3 k5 : Option Value}
    {qual : Str} {oc kV doc pm ct ccl cl : Value} {od an cdd cld : Option Addr} {osl ccs csl : Array (Option Value)} {vs : Array Value} {tf : Tok} (X : K.In h) (G : h.Ns mainGlobals mg)
    (v : PySem.W.nsIn K mainGlobals x = some (some (.ref D))) (lC : K.lookup D = some (excClassObj nm q D N bs bm true sn sub ab col dd k0 k1 k2 k3 k5 "ValueError.__new__")) (hbm : PySem.HandSPX.refsVE bm = true)
    (sa : PySem.W.findIn K (.ref D) "__setattr__" = some (some (.builtin "object.__setattr__"))) (exC : PySem.W.subIn K (.ref D) (.type "BaseException") = some true) (tyC : PySem.W.typeIn K (.ref D) = some (.type "type")) (kC : PySem.W.keepIn K (.ref D) = true)
    (iC : PySem.W.findIn K (.ref D) "__init__" = some (some (.ref fI))) (tI : PySem.W.typeIn K (.ref fI) = some (.type "function"))
    (lk : K.lookup fI = some ⟨oc, od, .func (PySem.W.ksFn "__init__" qual args (inBody par msg j) (inSc par) .none kV doc pm an (.ref cda) ct cc), osl⟩) (hcd : PySem.W.codeIn K (.ref cda) qual = true)
    (lc : K.lookup cda = some ⟨ccl, cdd, .fields vs, ccs⟩) (hvs : vs[2]? = some (.str file tf)) (hfile : ((prog.main.file : Str) == file) = true) (lcell : K.lookup cc = some ⟨cl, cld, .cell (some (.ref D)), csl⟩)
    (ap : (args.posonlyargs ++ args.args).head?.map (·.arg) = some "self")
    (bind : ∀ (qual : Str) (kV doc pm : Value) (an : Option Addr) (cdv ct : Value) (cc : Addr) (u v : Value), bindArgs (PySem.W.ksFn "__init__" qual args (inBody par msg j) (inSc par) .none kV doc pm an cdv ct cc) ⟨[u, v], []⟩ = pure [(("self" : Str), u), (par, v)])
    (mro : PySem.W.mroIn K D (.ref D) = some true) (sup : PySem.W.ks_superIn K D D "__init__" = some (some (.builtin "ValueError.__init__"))) (ve : PySem.W.subIn K (.ref D) (.type "ValueError") = some true) (opq : PySem.W.nsIn K cStatics "thirdparty.any" = some none)
    (ns : PySem.W.nsIn K mainGlobals "super" = some none) (top : (prog.main.scope.names.lookup ("super" : Str)).isSome = false) (no : PySem.W.findIn K (.ref D) par = some none) (sh : msg.length ≤ 100) (pos : InPosOk par msg j) : InC prog K mg x D par msg j args :=
  ⟨⟨⟨_, _, _, _, _, _, _, _, _, _, _, _, _, _, _, lC, hbm⟩, sa, exC, tyC, kC⟩, PySem.W.mg_of X G v, ⟨fI, cda, cc, qual, oc, kV, doc, pm, ct, od, an, osl, iC, tI, lk, hcd, ⟨ccl, cdd, vs, ccs, file, tf, lc, hvs, hfile⟩, ⟨cl, cld, csl, lcell⟩⟩, ap, bind, mro, sup, ve, opq, PySem.W.mg_none_of X G ns, top, no, sh, pos⟩
end SK
namespace L2
open PySem PySem.Spec PyProof.Rows
/-! ### (x,) * n, n from 0 on -/
theorem tuple_mul1 (l : Addr) (items : Array Value) (n : Nat) (dd : Option Addr) (sl : Array (Option Value)) (u : Tok) :
    Meets (Builtin.«tuple.__mul__» ⟨[.ref l, .int 1 u], []⟩) (fun _ R s => s.heap.get? l = some { cls := .type "tuple", dict := dd, data := .seq items n, slots := sl } ∧ R (.ok (.ret (Value.ref l))) s) :=
  .of_wp fun prog w A R s h => by
    obtain ⟨hp, g, d, tk, os⟩ := s
    obtain ⟨hl, h⟩ := h
    have f1 := AutoSeq1.idx_int
    wp_walk using wpAny_loadPart' hl
    repeat (first
      | (refine wpAny_ite_false (decide_eq_false (by decide)) ?_; wp_walk using wpAny_loadPart' hl)
      | (refine wpAny_ite_true (decide_eq_true (by rw [show ((1 : Int) == 1) = true from rfl, Bool.or_true])) ?_; wp_walk using wpAny_loadPart' hl))
    exact ⟨_, rfl, h⟩
theorem tuple_mul0 (l : Addr) (items : Array Value) (n : Nat) (dd : Option Addr) (sl : Array (Option Value)) (u : Tok) (hi : items.isEmpty = false) :
    Meets (Builtin.«tuple.__mul__» ⟨[.ref l, .int 0 u], []⟩) (fun _ R s => s.heap.get? l = some { cls := .type "tuple", dict := dd, data := .seq items n, slots := sl } ∧
      R (.ok (.ret (Value.ref s.heap.objs.size))) { s with heap := s.heap.push { cls := Value.type "tuple", data := Data.seq #[] }, toks := s.toks }) :=
  .of_wp fun prog w A R s h => by
    obtain ⟨hp, g, d, tk, os⟩ := s
    obtain ⟨hl, h⟩ := h
    have f1 := AutoSeq1.idx_int
    wp_walk using wpAny_loadPart' hl
    repeat (first
      | (refine wpAny_ite_false (decide_eq_false (by decide)) ?_; wp_walk using wpAny_loadPart' hl)
      | (refine wpAny_ite_false (decide_eq_false (by rw [hi]; decide)) ?_; wp_walk using wpAny_loadPart' hl)
      | (refine wpAny_ite_true (decide_eq_true (by rfl)) ?_; wp_walk using wpAny_loadPart' hl))
    exact ⟨_, rfl, h⟩
def rRepT2 (K : PySem.W.Frag) : R2 := fun x y H Q => ∃ l k xs, x = .ref l ∧ y = .int k ∧ SqT K H l xs ∧ xs ≠ [] ∧ 0 ≤ k ∧ k ≤ 1000 ∧ xs.length ≤ 1000 ∧ (k = 1 → Q (.ref l) H) ∧ (k ≠ 1 → ∀ p, H p = none → Q (.ref p) (upd H p (.tup (List.replicate k.toNat xs).flatten)))
theorem op_repT2 {X : Cx} : OpR X (binaryOp .Mult) (rRepT2 X.K) := by
  intro pins s σ H x y v u Q I rx ry h
  obtain ⟨l, k, xs, rfl, rfl, hT, hne, h1, h2, hz, q1, q⟩ := h
  by_cases hk2 : 2 ≤ k
  · exact op_repT pins s σ H _ _ _ _ Q I rx ry ⟨l, k, xs, rfl, rfl, hT, hne, hk2, h2, hz, q (by omega)⟩
  cases rx
  obtain ⟨t, rfl⟩ := ry
  obtain ⟨its, r, ⟨⟨cls, dd, data, sl⟩, ho, hc, n, hd⟩, hs⟩ := I.tuple hT
  simp only at hc hd
  subst hc hd
  have hle : its.length = xs.length := r.length.symm
  have hn : its ≠ [] := fun e => hne (by
    rw [e] at hle
    exact List.eq_nil_of_length_eq_zero hle.symm)
  have hi : its.toArray.isEmpty = false := by
    cases its with
    | nil => exact absurd rfl hn
    | cons a b => rfl
  have hk : k = 0 ∨ k = 1 := by omega
  rcases hk with rfl | rfl
  · refine wpAny_binaryOp_repeat_ref (T := "tuple") (U := "int") (by decide) ⟨_, ho, rfl⟩ (fun s' => typeIs_int s' 0 t) noFill_tuple_mul F.fills_int_mul F.slot_int_rmul repeat_tuple F.slot_int_index.lookup
      (call_meets F.slot_int_rmul (typeIs_int s 0 t) F.entry_int_rmul (F.args_int_rmul_2 _ _) (int_rmul_tuple 0 t l its.toArray n dd sl)
        ⟨ho, rfl, ⟨_, ho, rfl⟩, call_meets F.slot_tuple_mul ⟨_, ho, rfl⟩ F.entry_tuple_mul (F.args_tuple_mul_2 _ _) (tuple_mul0 l its.toArray n dd sl t hi) ⟨ho, ?_⟩⟩)
    have J := I.laid (t' := s.toks) (a := s.heap.objs.size) (o := .tup []) (h' := s.heap.push { cls := .type "tuple", data := .seq #[] }) (fun b o e => Heap.get?_push_of_some _ e) (Nat.le_refl _) ⟨Nat.zero_le _, [], .nil, _, Heap.get?_push_size _ rfl, rfl, _, rfl⟩
    exact ⟨.ref s.heap.objs.size, _, J, rfl, q (by decide) _ (I.hok.fresh (Nat.le_refl _))⟩
  · refine wpAny_binaryOp_repeat_ref (T := "tuple") (U := "int") (by decide) ⟨_, ho, rfl⟩ (fun s' => typeIs_int s' 1 t) noFill_tuple_mul F.fills_int_mul F.slot_int_rmul repeat_tuple F.slot_int_index.lookup
      (call_meets F.slot_int_rmul (typeIs_int s 1 t) F.entry_int_rmul (F.args_int_rmul_2 _ _) (int_rmul_tuple 1 t l its.toArray n dd sl)
        ⟨ho, rfl, ⟨_, ho, rfl⟩, call_meets F.slot_tuple_mul ⟨_, ho, rfl⟩ F.entry_tuple_mul (F.args_tuple_mul_2 _ _) (tuple_mul1 l its.toArray n dd sl t) ⟨ho, ?_⟩⟩)
    exact ⟨.ref l, H, I, rfl, q1 rfl⟩
end L2
namespace SK
open PySem PySem.Spec PyProof.Rows L2
/-! ### what fits -/
abbrev Prs := List (List Nat × List Nat)
def fitP (ps : Prs) (t : Tr) : Bool := ps.all fun x => decide (tby t x.1 = x.2)
def suf (l : List Nat) (s : Nat) : List Nat := l.drop (l.length - s)
def lend (room : Nat) (l : List Nat) : List Tr := (List.range (l.length + 1)).flatMap fun s => rowT room (suf l s)
theorem suf_len {l : List Nat} {s : Nat} (h : s ≤ l.length) : (suf l s).length = s := by
  unfold suf
  rw [List.length_drop]
  omega
theorem lay_nodup {m : Nat} (h1 : 1 ≤ m) (h4 : m ≤ 4) (s : Nat) : (lay m s).Nodup := by
  refine List.pairwise_iff_getElem.mpr fun i j hi hj hij e => ?_
  have a1 := lay_at h4 s i _ (List.getElem?_eq_getElem hi)
  have a2 := lay_at h4 s j _ (List.getElem?_eq_getElem hj)
  have a3 : dg m s i = dg m s j := by
    rw [← a1, ← a2, e]
  rw [lay_len, signs_length h4] at hi hj
  have b1 := nm_dg h1 s i hi
  have b2 := nm_dg h1 s j hj
  rw [a3, b2] at b1
  omega
theorem fm_one {α β : Type} [DecidableEq α] (f : α → List β) (P : β → Bool) (x : α) : ∀ (L : List α), L.Nodup → (∀ y ∈ L, y ≠ x → (f y).filter P = []) → (L.flatMap f).filter P = if x ∈ L then (f x).filter P else []
  | [], _, _ => by simp
  | y :: r, hn, h => by
    rw [List.flatMap_cons, List.filter_append]
    obtain ⟨h1, h2⟩ := List.nodup_cons.mp hn
    have ih := fm_one f P x r h2 fun z hz => h z (List.mem_cons_of_mem _ hz)
    by_cases e : y = x
    · subst e
      have e2 : (r.flatMap f).filter P = [] := by
        rw [ih, if_neg h1]
      rw [e2, List.append_nil, if_pos (List.mem_cons_self ..)]
    · rw [h y (List.mem_cons_self ..) e, List.nil_append, ih]
      have : (x ∈ y :: r) ↔ x ∈ r := by
        rw [List.mem_cons]
        exact ⟨fun z => z.resolve_left fun q => e q.symm, .inr⟩
      simp only [this]
theorem rowT_l {room : Nat} {l : List Nat} {t : Tr} (h : t ∈ rowT room l) : t.l = l := by
  unfold rowT at h
  obtain ⟨x, _, rfl⟩ := List.mem_map.mp h
  rfl
theorem fit_suf {ps : Prs} {b a : List Nat} {t : Tr} (h : fitP ((b, a) :: ps) t = true) : t.l.length ≤ a.length ∧ t.l = suf a t.l.length := by
  have h1 : tby t b = a := by
    have := List.all_eq_true.mp h (b, a) (List.mem_cons_self ..)
    exact of_decide_eq_true this
  unfold tby at h1
  have hl := congrArg List.length h1
  rw [List.length_append] at hl
  refine ⟨by omega, ?_⟩
  unfold suf
  have e : a.length - t.l.length = (tp t.k (ct t.g b)).length := by omega
  rw [e, ← h1, List.drop_left]
theorem lay_fit {room m s : Nat} {ps : Prs} {b a : List Nat} (h1 : 1 ≤ m) (h4 : m ≤ 4) (hs : ∀ c ∈ a, c ∈ signs m) : ((lay m s).flatMap (rowT room)).filter (fitP ((b, a) :: ps)) = if s ≤ a.length then (rowT room (suf a s)).filter (fitP ((b, a) :: ps)) else [] := by
  have no : ∀ y ∈ lay m s, y ≠ suf a s → (rowT room y).filter (fitP ((b, a) :: ps)) = [] := fun y hy hne => by
    rw [List.filter_eq_nil_iff]
    intro t ht hf
    have e := rowT_l ht
    obtain ⟨f1, f2⟩ := fit_suf hf
    rw [e, (lay_mem hy).1] at f2
    exact hne f2
  rw [fm_one (rowT room) _ (suf a s) _ (lay_nodup h1 h4 s) no]
  by_cases h : s ≤ a.length
  · rw [if_pos h, if_pos (mem_lay (suf_len h) fun c hc => hs c (List.mem_of_mem_drop hc))]
  · rw [if_neg h]
    have : ¬ suf a s ∈ lay m s := fun hm => by
      have := (lay_mem hm).1
      unfold suf at this
      rw [List.length_drop] at this
      omega
    rw [if_neg this]
theorem stk_fit {room m : Nat} {ps : Prs} {b a : List Nat} (h1 : 1 ≤ m) (h4 : m ≤ 4) (hs : ∀ c ∈ a, c ∈ signs m) : ∀ n, ((stk m n).flatMap (rowT room)).filter (fitP ((b, a) :: ps)) = ((List.range (min n a.length + 1)).flatMap fun s => rowT room (suf a s)).filter (fitP ((b, a) :: ps))
  | 0 => by
    have e := lay_fit (room := room) (s := 0) (ps := ps) (b := b) h1 h4 hs
    rw [if_pos (Nat.zero_le _)] at e
    rw [Nat.zero_min]
    show ((lay m 0).flatMap (rowT room)).filter _ = _
    rw [e]
    simp
  | n + 1 => by
    have ih := stk_fit (room := room) (ps := ps) (b := b) h1 h4 hs n
    have e := lay_fit (room := room) (s := n + 1) (ps := ps) (b := b) h1 h4 hs
    show ((stk m n ++ lay m (n + 1)).flatMap (rowT room)).filter _ = _
    rw [List.flatMap_append, List.filter_append, ih, e]
    by_cases h : n + 1 ≤ a.length
    · have e1 : min n a.length = n := by omega
      have e2 : min (n + 1) a.length = n + 1 := by omega
      rw [if_pos h, e1, e2, List.range_succ (n := n + 1), List.flatMap_append, List.filter_append]
      simp
    · have e1 : min (n + 1) a.length = min n a.length := by omega
      rw [if_neg h, e1, List.append_nil]
theorem fits {room m : Nat} {ps : Prs} {b a : List Nat} (h1 : 1 ≤ m) (h4 : m ≤ 4) (ha : a.length ≤ room) (hs : ∀ c ∈ a, c ∈ signs m) : (trs room m).filter (fitP ((b, a) :: ps)) = (lend room a).filter (fitP ((b, a) :: ps)) := by
  unfold trs trsN lend
  rw [stk_fit h1 h4 hs room]
  have e : min room a.length = a.length := by omega
  rw [e]
/-- the first of all triples -/
theorem trs_first {room m : Nat} (h1 : 1 ≤ m) (h4 : m ≤ 4) : (trs room m)[0]? = some ⟨0, 0, []⟩ := by
  have hp := tally_pos (room := room) h1
  obtain ⟨e1, e2, e3⟩ := tnum_ok (n := 0) h1 h4 hp
  rw [e1]
  have ok : TrOk room m ⟨0, 0, []⟩ := ⟨Nat.zero_le _, Nat.zero_le _, fun _ => rfl, fun c h => by cases h⟩
  have hn : nof room m ⟨0, 0, []⟩ = 0 := by
    have h2 : cidx room 0 0 0 = 0 := by
      unfold cidx
      simp [cutN]
    unfold nof
    show ahead room m 0 + (nm m [] * _ + cidx room 0 0 0) = 0
    rw [h2]
    simp [ahead, nm]
  rw [nof_inj h4 e2 ok (e3.trans hn.symm)]
end SK
namespace SK
open PySem PySem.Spec PyProof.Rows L2 LamX
/-! ### any value asked for a text, a stack -/
def TextB (H : Hp) (x : V) (sg : List Nat) (b : Bool) : Prop := match x with
  | .str s => ∃ l : List Nat, s = tx l ∧ l.length ≤ 10000 ∧ b = decide (∀ c ∈ l, c ∈ sg)
  | .non => b = false
  | .bl _ => b = false
  | .int _ => b = false
  | .ref a => b = false ∧ ∃ xs, H a = some (.tup xs) ∨ H a = some (.lst xs)
  | _ => False
theorem TextB.ext {H H' : Hp} {x : V} {sg : List Nat} {b : Bool} (h : TextB H x sg b) (s : ExtN H H') : TextB H' x sg b := by
  cases x with
  | ref a =>
    obtain ⟨h1, xs, h2⟩ := h
    exact ⟨h1, xs, h2.imp (fun e => s _ _ e (by intro ps z; cases z)) (fun e => s _ _ e (by intro ps z; cases z))⟩
  | _ => exact h
theorem TextB.mono {H H' : Hp} {x : V} {sg : List Nat} {b : Bool} (h : TextB H x sg b) (s : Same H H') : TextB H' x sg b := h.ext fun a o e _ => s a o e
def spTextB : Sp := fun vs H Q _ => ∃ (x : V) (sg : List Nat) (b : Bool), vs = [x, .str (tx sg)] ∧ TextB H x sg b ∧ giv (.bl b) H Q
def StackB (H : Hp) (x : V) (p : Pl) (b : Bool) : Prop := (TextB H x (signs p.many) false ∧ b = false) ∨ ∃ l : List Nat, x = .str (tx l) ∧ l.length ≤ 10000 ∧ (∀ c ∈ l, c ∈ signs p.many) ∧ b = decide (l.length ≤ p.room)
theorem StackB.ext {H H' : Hp} {x : V} {p : Pl} {b : Bool} (h : StackB H x p b) (s : ExtN H H') : StackB H' x p b := h.imp (fun ⟨a, c⟩ => ⟨a.ext s, c⟩) id
theorem StackB.mono {H H' : Hp} {x : V} {p : Pl} {b : Bool} (h : StackB H x p b) (s : Same H H') : StackB H' x p b := h.ext fun a o e _ => s a o e
def spStackB : Sp := fun vs H Q _ => ∃ (v : V) (p : Pl) (x : V) (b : Bool), vs = [v, x] ∧ PlanAt H v p ∧ p.Ok ∧ StackB H x p b ∧ giv (.bl b) H Q
theorem StackB.good {H : Hp} {p : Pl} {l : List Nat} (hl : l.length ≤ p.room) (r9 : p.room ≤ 9) (hs : ∀ c ∈ l, c ∈ signs p.many) : StackB H (.str (tx l)) p true :=
  .inr ⟨l, rfl, by omega, hs, (decide_eq_true hl).symm⟩
/-! ### any value asked for a pair -/
def PairB (H : Hp) (x : V) (p : Pl) (b : Bool) : Prop := match x with
  | .ref a => (∃ xs, (H a = some (.lst xs) ∨ (H a = some (.tup xs) ∧ xs.length ≠ 2)) ∧ b = false) ∨ ∃ y z c d, H a = some (.tup [y, z]) ∧ StackB H y p c ∧ (c = true → StackB H z p d) ∧ b = (c && d)
  | .non => b = false
  | .bl _ => b = false
  | .int _ => b = false
  | .str _ => b = false
  | _ => False
theorem PairB.ext {H H' : Hp} {x : V} {p : Pl} {b : Bool} (h : PairB H x p b) (s : ExtN H H') : PairB H' x p b := by
  cases x with
  | ref a =>
    rcases h with ⟨xs, h2, h1⟩ | ⟨y, z, c, d, h1, h2, h3, h4⟩
    · exact .inl ⟨xs, h2.imp (fun e => s _ _ e (by intro ps z; cases z)) (fun e => ⟨s _ _ e.1 (by intro ps z; cases z), e.2⟩), h1⟩
    · exact .inr ⟨y, z, c, d, s _ _ h1 (by intro ps z; cases z), h2.ext s, fun e => (h3 e).ext s, h4⟩
  | _ => exact h
theorem PairB.mono {H H' : Hp} {x : V} {p : Pl} {b : Bool} (h : PairB H x p b) (s : Same H H') : PairB H' x p b := h.ext fun a o e _ => s a o e
def spPairB : Sp := fun vs H Q _ => ∃ (v : V) (p : Pl) (x : V) (b : Bool), vs = [v, x] ∧ PlanAt H v p ∧ p.Ok ∧ PairB H x p b ∧ giv (.bl b) H Q
/-! ### lists of pairs in the heap -/
def prV (x : List Nat × List Nat) : List V := [.str (tx x.1), .str (tx x.2)]
structure PsAt (H : Hp) (ps : Prs) (xs : List V) : Prop where
  len : xs.length = ps.length
  at_ : ∀ (i : Nat) (x : V), xs[i]? = some x → ∃ (p : List Nat × List Nat) (a : Addr), ps[i]? = some p ∧ x = .ref a ∧ H a = some (.tup (prV p))
theorem PsAt.nil {H : Hp} : PsAt H [] [] := ⟨rfl, fun i x h => by simp at h⟩
theorem PsAt.ext {H H' : Hp} {ps : Prs} {xs : List V} (h : PsAt H ps xs) (s : ExtN H H') : PsAt H' ps xs := ⟨h.len, fun i x e => by
  obtain ⟨p, a, e1, e2, e3⟩ := h.at_ i x e
  exact ⟨p, a, e1, e2, s _ _ e3 (by intro ps z; cases z)⟩⟩
theorem PsAt.mono {H H' : Hp} {ps : Prs} {xs : List V} (h : PsAt H ps xs) (s : Same H H') : PsAt H' ps xs := h.ext fun a o e _ => s a o e
theorem PsAt.tups {H H' : Hp} {ps : Prs} {xs : List V} (h : PsAt H ps xs) (s : Tups H H') : PsAt H' ps xs := ⟨h.len, fun i x e => by
  obtain ⟨p, a, e1, e2, e3⟩ := h.at_ i x e
  exact ⟨p, a, e1, e2, s _ _ e3⟩⟩
theorem PsAt.snoc {H : Hp} {ps : Prs} {xs : List V} {a : Addr} {p : List Nat × List Nat} (h : PsAt H ps xs) (hx : H a = some (.tup (prV p))) : PsAt H (ps ++ [p]) (xs ++ [.ref a]) := by
  refine ⟨by rw [List.length_append, List.length_append, h.len]; rfl, fun i y e => ?_⟩
  by_cases hi : i < xs.length
  · rw [List.getElem?_append_left hi] at e
    obtain ⟨t', b, e1, e2⟩ := h.at_ i y e
    exact ⟨t', b, by rw [List.getElem?_append_left (by have := h.len; omega)]; exact e1, e2⟩
  · rw [List.getElem?_append_right (by omega)] at e
    have hz : i - xs.length = 0 := by
      obtain ⟨z, _⟩ := List.getElem?_eq_some_iff.mp e
      simpa using z
    rw [hz] at e
    exact ⟨p, a, by rw [List.getElem?_append_right (by have := h.len; omega), ← h.len, hz]; rfl, (Option.some.inj e).symm, hx⟩
/-- pairs of stacks of a plan -/
def PrsOk (p : Pl) (ps : Prs) : Prop := ∀ x ∈ ps, (x.1.length ≤ p.room ∧ ∀ c ∈ x.1, c ∈ signs p.many) ∧ x.2.length ≤ p.room ∧ ∀ c ∈ x.2, c ∈ signs p.many
theorem PsAt.pair {H : Hp} {p : Pl} {ps : Prs} {xs : List V} (h : PsAt H ps xs) (ok : p.Ok) (hp : PrsOk p ps) {i : Nat} {x : V} (e : xs[i]? = some x) : PairB H x p true := by
  obtain ⟨q, a, e1, rfl, e3⟩ := h.at_ i x e
  obtain ⟨⟨h1, h2⟩, h3, h4⟩ := hp q (List.mem_of_getElem? e1)
  exact .inr ⟨_, _, true, true, e3, StackB.good h1 ok.r9 h2, fun _ => StackB.good h3 ok.r9 h4, rfl⟩
def prD (x : List Nat × List Nat) : PyData := .tuple [.str (tx x.1), .str (tx x.2)]
theorem PsAt.dp {K : PySem.W.Frag} {H : Hp} : ∀ {ps : Prs} {xs : List V}, PsAt H ps xs → DpAll K H xs (ps.map prD)
  | [], [], _ => .nil
  | [], x :: r, h => by cases h.len
  | t :: r, [], h => by cases h.len
  | t :: r, x :: s, h => by
    obtain ⟨t', a, e1, rfl, e3⟩ := h.at_ 0 x rfl
    have e : t = t' := Option.some.inj e1
    subst e
    exact .cons (.tup (SqT.of e3) (.cons (.str _) (.cons (.str _) .nil))) (PsAt.dp ⟨Nat.succ.inj h.len, fun i y e => h.at_ (i + 1) y e⟩)
theorem shPr {p : Pl} (ps : Prs) (h : PrsOk p ps) : SeqAt.shaped (.list (ps.map prD)) = true ∧ PyData.canLay0 (.list (ps.map prD)) = true := by
  have h1 : ∀ ps : Prs, PrsOk p ps → PyData.canLayAll0 (ps.map prD) = true := fun ps h => by
    induction ps with
    | nil => rfl
    | cons t r ih =>
      obtain ⟨⟨_, h2⟩, _, h4⟩ := h t (List.mem_cons_self ..)
      have e := strOk_sg h2
      have e2 := strOk_sg h4
      show ((PyData.strOk (tx t.1) && (PyData.strOk (tx t.2) && true)) && PyData.canLayAll0 (r.map prD)) = true
      rw [ih fun x hx => h x (List.mem_cons_of_mem _ hx), e, e2]
      rfl
  have h2 : ∀ ps : Prs, PyData.depthAll (ps.map prD) ≤ 1 := fun ps => by
    induction ps with
    | nil => exact Nat.zero_le _
    | cons n r ih =>
      show max (PyData.depth (prD n)) (PyData.depthAll (r.map prD)) ≤ 1
      exact Nat.max_le.mpr ⟨Nat.le_refl _, ih⟩
  refine ⟨?_, h1 ps h⟩
  show (PyData.canLayAll0 (ps.map prD) && decide (PyData.depthAll (ps.map prD) + 1 ≤ 64)) = true
  rw [h1 ps h, Bool.true_and]
  have := h2 ps
  exact decide_eq_true (by omega)
theorem ne_prs {K : PySem.W.Frag} {H : Hp} {Q : VK} {a b : Addr} {xs ys : List V} {ps : Prs} {p : Pl} (ok : PrsOk p ps) (ha : H a = some (.lst xs)) (hb : H b = some (.lst ys)) (hx : PsAt H ps xs) (hy : PsAt H ps ys) (q : Q (.bl false) H) : rNeD K (.ref a) (.ref b) H Q := by
  obtain ⟨s1, s2⟩ := shPr ps ok
  refine ⟨_, _, .lst (SqL.of ha) hx.dp, .lst (SqL.of hb) hy.dp, s1, s1, ?_⟩
  rw [SeqAt.eqv_refl _ s2]
  exact q
/-! ### promises -/
def spChPairs : Sp := fun vs H Q _ => ∃ (v : V) (p : Pl) (D : Addr) (xs : List V) (ps : Prs), vs = [v, .ref D] ∧ PlanAt H v p ∧ p.Ok ∧ H D = some (.lst xs) ∧ PsAt H ps xs ∧ PrsOk p ps ∧ giv .non H Q
/-- what is no list of pairs, and the first that is none -/
def PairsBad (H : Hp) (x : V) (p : Pl) (k : Nat) : Prop := (k = 0 ∧ (x = .non ∨ ∃ a xs, x = .ref a ∧ H a = some (.tup xs))) ∨
  ∃ (D : Addr) (xs ys : List V) (y : V) (r : List V) (ps : Prs), x = .ref D ∧ H D = some (.lst xs) ∧ xs = ys ++ y :: r ∧ PsAt H ps ys ∧ PrsOk p ps ∧ ys.length = k ∧ PairB H y p false ∧ k ≤ 900
theorem PairsBad.ext {H H' : Hp} {x : V} {p : Pl} {k : Nat} (h : PairsBad H x p k) (s : ExtN H H') : PairsBad H' x p k := by
  rcases h with ⟨h1, h2⟩ | ⟨D, xs, ys, y, r, ps, e1, e2, e3, e4, e5, e6, e7, e8⟩
  · exact .inl ⟨h1, h2.imp id fun ⟨a, xs, e, h⟩ => ⟨a, xs, e, s _ _ h (by intro ps z; cases z)⟩⟩
  · exact .inr ⟨D, xs, ys, y, r, ps, e1, s _ _ e2 (by intro ps z; cases z), e3, e4.ext s, e5, e6, e7.ext s, e8⟩
theorem PairsBad.mono {H H' : Hp} {x : V} {p : Pl} {k : Nat} (h : PairsBad H x p k) (s : Same H H') : PairsBad H' x p k := h.ext fun a o e _ => s a o e
def spPairsX (D : Addr) : Sp := fun vs H _ E => ∃ (v : V) (p : Pl) (x : V) (k : Nat), vs = [v, x] ∧ PlanAt H v p ∧ p.Ok ∧ PairsBad H x p k ∧ ∀ d H2, Same H H2 → H2 d = some (.xd [("number", .int (k : Int))]) → E (.ref D) (some d) H2
def spLend : Sp := fun vs H Q _ => ∃ (v : V) (p : Pl) (l : List Nat), vs = [v, .str (tx l)] ∧ PlanAt H v p ∧ p.Ok ∧ l.length ≤ p.room ∧ ∀ (D : Addr) (H' : Hp) (xs : List V), Same H H' → H D = none → H' D = some (.lst xs) → TsAt H' (lend p.room l) xs → Q (.ref D) H'
def spLeads : Sp := fun vs H Q _ => ∃ (u : V) (t : Tr) (D : Addr) (xs : List V) (ps : Prs), vs = [u, .ref D] ∧ TripAt H u t ∧ t.l.length ≤ 1000 ∧ H D = some (.lst xs) ∧ PsAt H ps xs ∧ (∀ x ∈ ps, x.1.length ≤ 1000) ∧ giv (.bl (fitP ps t)) H Q
def fitL (p : Pl) (ps : Prs) : List Tr := (trs p.room p.many).filter (fitP ps)
def FitAt (H : Hp) (u : V) (rs : List Tr) : Prop := ∃ w, u = .ref w ∧ ((rs = [] ∧ H w = some (.tup [.int 0, .non])) ∨ ∃ t y, rs[0]? = some t ∧ TripAt H y t ∧ H w = some (.tup [.int (rs.length : Int), y]))
def spFitting : Sp := fun vs H Q _ => ∃ (v : V) (p : Pl) (D : Addr) (xs : List V) (ps : Prs), vs = [v, .ref D] ∧ PlanAt H v p ∧ p.Ok ∧ H D = some (.lst xs) ∧ PsAt H ps xs ∧ PrsOk p ps ∧ ∀ H' u, Same H H' → FitAt H' u (fitL p ps) → Q u H'
theorem FitAt.mono {H H' : Hp} {u : V} {rs : List Tr} (h : FitAt H u rs) (s : Same H H') : FitAt H' u rs := by
  obtain ⟨w, e, h⟩ := h
  exact ⟨w, e, h.imp (fun ⟨a, b⟩ => ⟨a, s _ _ b⟩) fun ⟨t, y, a, b, c⟩ => ⟨t, y, a, b.mono s, s _ _ c⟩⟩
/-! ### an inner walk -/
theorem in_it {J : It} {n : Nat} {G : Hp → Prop} {Y : Nat → Hp → V → Hp → Prop} (w : Walk J n G Y) {g : TG} {tt : TT} {te : TE} {vs : List Nat} {σ : L2.St} {H1 : Hp} {D : Addr} {Qd : Hp → Prop} (Pv : Nat → Hp → Prop) (h0 : Pv 0 H1) (hG : ∀ i H, i ≤ n → Pv i H → G H)
    (hs : ∀ i x H H', i < n → Pv i H → Y i H x H' → g x (wipe σ vs) H' fun σ2 H2 => wipe σ2 vs = wipe σ vs ∧ tt σ2 H2 fun b H3 =>
      if b = true then te σ2 H3 fun y H4 => ∃ acc, H4 D = some (.lst acc) ∧ acc.length < sizeLine ∧ Pv (i + 1) (upd H4 D (.lst (acc ++ [y]))) else Pv (i + 1) H3) (hd : ∀ H, Pv n H → Qd H) :
    ∃ W : Nat → Nat → Hp → Prop, (∃ m, W 0 m H1) ∧ ∀ i m H, W i m H →
      (J.stop i H ∧ Qd H) ∨ (J.go i H ∧ ∃ Nx : Hp → Prop, (∀ H', Nx H' → ∃ m', m' < m ∧ W (i + 1) m' H') ∧ ∀ x H', J.yld i H x H' → g x (wipe σ vs) H' fun σ2 H2 => wipe σ2 vs = wipe σ vs ∧ tt σ2 H2 fun b H3 =>
        if b = true then te σ2 H3 fun y H4 => ∃ acc, H4 D = some (.lst acc) ∧ acc.length < sizeLine ∧ Nx (upd H4 D (.lst (acc ++ [y]))) else Nx H3) := by
  refine ⟨fun i m H => m = n - i ∧ i ≤ n ∧ Pv i H, ⟨n, by simp, Nat.zero_le _, h0⟩, ?_⟩
  rintro i m H ⟨rfl, hi, p⟩
  have q := hG i H hi p
  by_cases hlt : i < n
  · exact .inr ⟨w.goes i H hlt q, Pv (i + 1), fun H' p' => ⟨n - (i + 1), by omega, rfl, hlt, p'⟩, fun x H' y => hs i x H H' hlt p (w.yields i H x H' hlt q y)⟩
  · have e : i = n := by omega
    subst e
    exact .inl ⟨w.stops H q, hd H p⟩
theorem lend_succ (room : Nat) (l : List Nat) (j : Nat) : (List.range (j + 1)).flatMap (fun s => rowT room (suf l s)) = (List.range j).flatMap (fun s => rowT room (suf l s)) ++ rowT room (suf l j) := by
  rw [List.range_succ, List.flatMap_append]
  simp
theorem rowT_suf {room j : Nat} {l : List Nat} (h : j ≤ l.length) : rowT room (suf l j) = (cutL room j).map fun x => ⟨x.1, x.2, suf l j⟩ := by
  unfold rowT
  rw [suf_len h]
theorem fit_len {p : Pl} (ok : p.Ok) {ps : Prs} {b a : List Nat} (hp : PrsOk p ((b, a) :: ps)) : fitL p ((b, a) :: ps) = (lend p.room a).filter (fitP ((b, a) :: ps)) := by
  obtain ⟨_, h3, h4⟩ := hp (b, a) (List.mem_cons_self ..)
  exact fits ok.m1 ok.m4 h3 h4
theorem lend_few {room : Nat} {l : List Nat} (r9 : room ≤ 9) (hl : l.length ≤ room) (j : Nat) (hj : j ≤ l.length + 1) : ((List.range j).flatMap fun s => rowT room (suf l s)).length ≤ 100 * j := by
  induction j with
  | zero => exact Nat.zero_le _
  | succ j ih =>
    have h1 := ih (by omega)
    have h2 := cutL_len (s := j) r9
    rw [lend_succ, List.length_append, rowT_suf (by omega), List.length_map]
    omega
theorem fitP_take {ps : Prs} {t : Tr} {j : Nat} {p : List Nat × List Nat} (h : ps[j]? = some p) : fitP (ps.take (j + 1)) t = (fitP (ps.take j) t && decide (tby t p.1 = p.2)) := by
  unfold fitP
  rw [List.take_add_one, h, List.all_append]
  simp
theorem filter_take {ts : List Tr} {P : Tr → Bool} {j : Nat} {t : Tr} (h : ts[j]? = some t) : (ts.take (j + 1)).filter P = (ts.take j).filter P ++ if P t = true then [t] else [] := by
  rw [List.take_add_one, h, List.filter_append]
  by_cases c : P t = true
  · rw [if_pos c]
    simp [c]
  · rw [if_neg c]
    simp [c]
theorem ownX {P : Program} {w : World} {K : PySem.W.Frag} {mg : Str → Option Value} {base : Heap} {N : List Str} {q : Str} {sc : Scope} {f : Addr} {cd : Value} {A : Around} {outer : List Env} {s : Shared} {H : Hp} {E : XK} :
    PassesOwn (model P w) (cxOf (L2.CX P w) P w K mg base N q sc f cd A outer s H E).A (cxOf (L2.CX P w) P w K mg base N q sc f cd A outer s H E).env (cxOf (L2.CX P w) P w K mg base N q sc f cd A outer s H E).xe := passes_of rfl
theorem fitP_no {ps : Prs} {t : Tr} {j : Nat} (h : fitP (ps.take j) t = false) : fitP ps t = false := by
  rw [Bool.eq_false_iff] at h ⊢
  intro z
  refine h ?_
  unfold fitP at z ⊢
  rw [List.all_eq_true] at z ⊢
  exact fun x hx => z x (List.mem_of_mem_take hx)
theorem TsAt.ext {H H' : Hp} {ts : List Tr} {xs : List V} (h : TsAt H ts xs) (s : ExtN H H') : TsAt H' ts xs := ⟨h.len, fun i x e => by
  obtain ⟨t, e1, e2⟩ := h.at_ i x e
  exact ⟨t, e1, e2.ext s⟩⟩
theorem FitAt.ext {H H' : Hp} {u : V} {rs : List Tr} (h : FitAt H u rs) (s : ExtN H H') : FitAt H' u rs := by
  obtain ⟨w, e, h⟩ := h
  exact ⟨w, e, h.imp (fun ⟨a, b⟩ => ⟨a, s _ _ b (by intro ps z; cases z)⟩) fun ⟨t, y, a, b, c⟩ => ⟨t, y, a, b.ext s, s _ _ c (by intro ps z; cases z)⟩⟩
theorem FitAt.tups {H H' : Hp} {u : V} {rs : List Tr} (h : FitAt H u rs) (s : Tups H H') : FitAt H' u rs := by
  obtain ⟨w, e, h⟩ := h
  exact ⟨w, e, h.imp (fun ⟨a, b⟩ => ⟨a, s _ _ b⟩) fun ⟨t, y, a, b, c⟩ => ⟨t, y, a, b.tups s, s _ _ c⟩⟩
theorem alk_fit {H : Hp} {u w : V} {rs : List Tr} (hu : FitAt H u rs) (hw : FitAt H w rs) : Alk H 3 u w := by
  obtain ⟨a, rfl, ha⟩ := hu
  obtain ⟨b, rfl, hb⟩ := hw
  rcases ha with ⟨e, ha⟩ | ⟨t, y, e1, hy, ha⟩
  · rcases hb with ⟨_, hb⟩ | ⟨t, y, e1, hy, hb⟩
    · refine .inr ⟨a, b, _, _, rfl, rfl, .inl ⟨ha, hb⟩, rfl, by show 2 ≤ 10000; decide, fun i x y e1 e2 => ?_⟩
      have e : x = y := Option.some.inj (e1.symm.trans e2)
      subst e
      match i, e1 with
      | 0, e1 => cases e1; exact .inl ⟨rfl, trivial⟩
      | 1, e1 => cases e1; exact .inl ⟨rfl, trivial⟩
    · rw [e] at e1
      cases e1
  · rcases hb with ⟨e, _⟩ | ⟨t', y', e1', hy', hb⟩
    · rw [e] at e1
      cases e1
    · have et : t = t' := Option.some.inj (e1.symm.trans e1')
      subst et
      refine .inr ⟨a, b, _, _, rfl, rfl, .inl ⟨ha, hb⟩, rfl, by show 2 ≤ 10000; decide, fun i u w e1 e2 => ?_⟩
      match i, e1, e2 with
      | 0, e1, e2 => cases e1; cases e2; exact .inl ⟨rfl, trivial⟩
      | 1, e1, e2 => cases e1; cases e2; exact alk_trip hy hy'
theorem TsAt.dp {K : PySem.W.Frag} {H : Hp} : ∀ {ts : List Tr} {xs : List V}, TsAt H ts xs → DpAll K H xs (ts.map trD)
  | [], [], _ => .nil
  | [], x :: r, h => by cases h.len
  | t :: r, [], h => by cases h.len
  | t :: r, x :: s, h => by
    obtain ⟨t', e1, e3⟩ := h.at_ 0 x rfl
    have e : t = t' := Option.some.inj e1
    subst e
    exact .cons (dp_trip e3) (TsAt.dp ⟨Nat.succ.inj h.len, fun i y e => h.at_ (i + 1) y e⟩)
theorem shTs {room m : Nat} (ts : List Tr) (h : ∀ t ∈ ts, TrOk room m t) : SeqAt.shaped (.list (ts.map trD)) = true := by
  have h1 : ∀ ts : List Tr, (∀ t ∈ ts, TrOk room m t) → PyData.canLayAll0 (ts.map trD) = true := fun ts h => by
    induction ts with
    | nil => rfl
    | cons t r ih =>
      have e := strOk_sg (h t (List.mem_cons_self ..)).s
      show ((true && (true && (PyData.strOk (tx t.l) && true))) && PyData.canLayAll0 (r.map trD)) = true
      rw [ih fun x hx => h x (List.mem_cons_of_mem _ hx), e]
      rfl
  have h2 : ∀ ts : List Tr, PyData.depthAll (ts.map trD) ≤ 1 := fun ts => by
    induction ts with
    | nil => exact Nat.zero_le _
    | cons n r ih =>
      show max (PyData.depth (trD n)) (PyData.depthAll (r.map trD)) ≤ 1
      exact Nat.max_le.mpr ⟨Nat.le_refl _, ih⟩
  show (PyData.canLayAll0 (ts.map trD) && decide (PyData.depthAll (ts.map trD) + 1 ≤ 64)) = true
  rw [h1 ts h, Bool.true_and]
  have := h2 ts
  exact decide_eq_true (by omega)
theorem ne_ts_nil {K : PySem.W.Frag} {H : Hp} {Q : VK} {a b : Addr} {xs : List V} {ts : List Tr} {room m : Nat} (ok : ∀ t ∈ ts, TrOk room m t) (ha : H a = some (.lst xs)) (hb : H b = some (.lst [])) (hx : TsAt H ts xs) (q : Q (.bl (!ts.isEmpty)) H) : rNeD K (.ref a) (.ref b) H Q := by
  refine ⟨_, .list [], .lst (SqL.of ha) hx.dp, .lst (SqL.of hb) .nil, shTs ts ok, rfl, ?_⟩
  have e : (!PyData.eqv (.list (ts.map trD)) (.list [])) = !ts.isEmpty := by
    cases ts with
    | nil => rfl
    | cons t r => simp [PyData.eqv, PyData.eqvAll]
  rw [e]
  exact q
theorem eq_ps_nil {K : PySem.W.Frag} {H : Hp} {Q : VK} {a b : Addr} {xs : List V} {ps : Prs} {p : Pl} (ok : PrsOk p ps) (ha : H a = some (.lst xs)) (hb : H b = some (.lst [])) (hx : PsAt H ps xs) (q : Q (.bl ps.isEmpty) H) : rEqD K (.ref a) (.ref b) H Q := by
  refine ⟨_, .list [], .lst (SqL.of ha) hx.dp, .lst (SqL.of hb) .nil, (shPr ps ok).1, rfl, ?_⟩
  have e : PyData.eqv (.list (ps.map prD)) (.list []) = ps.isEmpty := by
    cases ps with
    | nil => rfl
    | cons t r => simp [PyData.eqv, PyData.eqvAll]
  rw [e]
  exact q
/-- those of the pairs that a triple does not lead -/
def unfit (ps : Prs) (t : Tr) : Prs := ps.filter fun x => !decide (tby t x.1 = x.2)
theorem unfit_fit (ps : Prs) (t : Tr) : (unfit ps t).isEmpty = fitP ps t := by
  unfold unfit fitP
  induction ps with
  | nil => rfl
  | cons x r ih =>
    rw [List.filter_cons, List.all_cons]
    by_cases c : tby t x.1 = x.2
    · rw [decide_eq_true c]
      simpa using ih
    · rw [decide_eq_false c]
      rfl
theorem unfit_take {ps : Prs} {t : Tr} {j : Nat} {p : List Nat × List Nat} (h : ps[j]? = some p) : unfit (ps.take (j + 1)) t = unfit (ps.take j) t ++ if tby t p.1 = p.2 then [] else [p] := by
  unfold unfit
  rw [List.take_add_one, h, List.filter_append]
  by_cases c : tby t p.1 = p.2
  · rw [if_pos c]
    simp [c]
  · rw [if_neg c]
    simp [c]
theorem tby_room {room m : Nat} {t : Tr} (ok : TrOk room m t) (x : List Nat) : (tby t x).length ≤ room := by
  have h1 := ok.kl
  unfold tby
  rw [List.length_append, len_tp]
  omega
theorem PsAt.take {H : Hp} {ps : Prs} {xs : List V} (h : PsAt H ps xs) (k : Nat) : PsAt H (ps.take k) (xs.take k) := by
  refine ⟨by rw [List.length_take, List.length_take, h.len], fun i x e => ?_⟩
  rw [List.getElem?_take] at e
  split at e
  · rename_i hi
    obtain ⟨p, a, e1, e2, e3⟩ := h.at_ i x e
    exact ⟨p, a, by rw [List.getElem?_take, if_pos hi]; exact e1, e2, e3⟩
  · cases e
def rTupOf (K : PySem.W.Frag) : List V → Hp → VK → Prop := fun xs H Q => ∃ p ys, xs = [V.ref p] ∧ ((SqL K H p ys ∧ ∀ l, H l = none → Q (.ref l) (upd H l (.tup ys))) ∨ (SqT K H p ys ∧ Q (.ref p) H))
theorem call_tuple_ofL {X : Cx} : CallR X (.type "tuple") (rTupOf X.K) := call_tuple_of
end SK
namespace SK
open PySem PySem.Spec PyProof.Rows L2 LamX
/-! ### texts of works, works of texts: the mathematics -/
theorem signs_ge {m c : Nat} (h : c ∈ signs m) : 97 ≤ c ∧ c ≤ 100 := by
  have h2 : c ∈ [97, 98, 99, 100] := List.mem_of_mem_take h
  simp at h2
  omega
abbrev dval : List Nat → Nat := NumText.digitsVal
def isd (c : Nat) : Bool := decide (48 ≤ c) && decide (c ≤ 57)
mutual
def W.txt : W → List Nat
  | .push c => [c]
  | .pop => [45]
  | .row ws => ws.txt
  | .times n w => 91 :: (w.txt ++ 93 :: TL.numL n)
def Ws.txt : Ws → List Nat
  | .nil => []
  | .cons w r => w.txt ++ r.txt
end
mutual
def W.flat : W → List W
  | .push c => [.push c]
  | .pop => [.pop]
  | .row ws => ws.flat
  | .times n w => [.times n (.row (ofL w.flat))]
def Ws.flat : Ws → List W
  | .nil => []
  | .cons w r => w.flat ++ r.flat
end
/-- the number that begins here: the place that can't be, or its figures, what is behind, the place behind -/
def nums : List Nat → List Nat → Nat → Nat ⊕ (List Nat × List Nat × Nat)
  | [], w, pl => .inr (w, [], pl)
  | c :: r, w, pl => if isd c then (if w = [48] ∨ 1000000000000000000 < dval (w ++ [c]) then .inl pl else nums r (w ++ [c]) (pl + 1)) else .inr (w, c :: r, pl)
theorem nums_len : ∀ (r w : List Nat) (pl : Nat) {w' r' : List Nat} {pl' : Nat}, nums r w pl = .inr (w', r', pl') → r'.length ≤ r.length ∧ pl' + r'.length = pl + r.length
  | [], w, pl, w', r', pl', h => by
    have e := Sum.inr.inj h
    cases e
    exact ⟨Nat.le_refl _, rfl⟩
  | c :: r, w, pl, w', r', pl', h => by
    unfold nums at h
    split at h
    · split at h
      · cases h
      · have ih := nums_len r _ _ h
        rw [List.length_cons]
        omega
    · have e := Sum.inr.inj h
      cases e
      exact ⟨Nat.le_refl _, rfl⟩
def stp (c : Nat) : W := if c = 45 then .pop else .push c
/-- what a text says: the place that can't be, or the row -/
def pr (m : Nat) : Nat → List Nat → List W → List (List W) → Nat → Nat ⊕ W
  | _, [], cur, outs, pl => if outs = [] then .inr (.row (ofL cur)) else .inl pl
  | 0, _ :: _, _, _, _ => .inl 0
  | k + 1, c :: r, cur, outs, pl =>
    if c = 45 ∨ c ∈ signs m then pr m k r (cur ++ [stp c]) outs (pl + 1)
    else if c = 91 then pr m k r [] (cur :: outs) (pl + 1)
    else if c = 93 then
      match outs with
      | [] => .inl pl
      | o :: os => match nums r [] (pl + 1) with
        | .inl b => .inl b
        | .inr (w, r', pl') => if w = [] then .inl (pl + 1) else pr m k r' (o ++ [.times (dval w) (.row (ofL cur))]) os pl'
    else .inl pl
theorem pr_more (m : Nat) : ∀ (k : Nat) (r : List Nat) (cur : List W) (outs : List (List W)) (pl : Nat), r.length ≤ k → pr m (k + 1) r cur outs pl = pr m k r cur outs pl := by
  intro k
  induction k with
  | zero =>
    intro r cur outs pl h
    have e := List.length_eq_zero_iff.mp (Nat.le_zero.mp h)
    subst e
    rfl
  | succ k ih =>
    intro r cur outs pl h
    cases r with
    | nil => rfl
    | cons c r =>
      have h' : r.length ≤ k := Nat.le_of_succ_le_succ h
      show (if c = 45 ∨ c ∈ signs m then pr m (k + 1) r (cur ++ [stp c]) outs (pl + 1)
        else if c = 91 then pr m (k + 1) r [] (cur :: outs) (pl + 1)
        else if c = 93 then
          match outs with
          | [] => .inl pl
          | o :: os => match nums r [] (pl + 1) with
            | .inl b => .inl b
            | .inr (w, r', pl') => if w = [] then .inl (pl + 1) else pr m (k + 1) r' (o ++ [.times (dval w) (.row (ofL cur))]) os pl'
        else .inl pl) = (if c = 45 ∨ c ∈ signs m then pr m k r (cur ++ [stp c]) outs (pl + 1)
        else if c = 91 then pr m k r [] (cur :: outs) (pl + 1)
        else if c = 93 then
          match outs with
          | [] => .inl pl
          | o :: os => match nums r [] (pl + 1) with
            | .inl b => .inl b
            | .inr (w, r', pl') => if w = [] then .inl (pl + 1) else pr m k r' (o ++ [.times (dval w) (.row (ofL cur))]) os pl'
        else .inl pl)
      rw [ih r _ _ _ h', ih r _ _ _ h']
      cases outs with
      | nil => rfl
      | cons o os =>
        dsimp only
        cases hn : nums r [] (pl + 1) with
        | inl b => rfl
        | inr x =>
          obtain ⟨w, r', pl'⟩ := x
          dsimp only
          rw [ih r' _ _ _ (Nat.le_trans (nums_len _ _ _ hn).1 h')]
def prs (m : Nat) (r : List Nat) (cur : List W) (outs : List (List W)) (pl : Nat) : Nat ⊕ W := pr m r.length r cur outs pl
theorem pr_prs {m k : Nat} {r : List Nat} (h : r.length ≤ k) (cur : List W) (outs : List (List W)) (pl : Nat) : pr m k r cur outs pl = prs m r cur outs pl := by
  obtain ⟨d, rfl⟩ : ∃ d, k = r.length + d := ⟨k - r.length, by omega⟩
  induction d with
  | zero => rfl
  | succ d ih =>
    rw [← Nat.add_assoc, pr_more m _ _ _ _ _ (by omega)]
    exact ih (by omega)
section
variable {m : Nat} {r : List Nat} {cur : List W} {outs : List (List W)} {pl : Nat}
theorem prs_nil : prs m [] cur outs pl = if outs = [] then .inr (.row (ofL cur)) else .inl pl := rfl
theorem prs_step {c : Nat} (h : c = 45 ∨ c ∈ signs m) : prs m (c :: r) cur outs pl = prs m r (cur ++ [stp c]) outs (pl + 1) := by
  show pr m (r.length + 1) (c :: r) cur outs pl = _
  rw [show pr m (r.length + 1) (c :: r) cur outs pl = if c = 45 ∨ c ∈ signs m then pr m r.length r (cur ++ [stp c]) outs (pl + 1) else _ from rfl, if_pos h]
  rfl
theorem sg_no {c : Nat} (h : 91 ≤ c) (h2 : c < 97) : ¬ (c = 45 ∨ c ∈ signs m) := fun z => by
  rcases z with z | z
  · omega
  · have := signs_ge z
    omega
theorem prs_open : prs m (91 :: r) cur outs pl = prs m r [] (cur :: outs) (pl + 1) := by
  show pr m (r.length + 1) (91 :: r) cur outs pl = _
  rw [show pr m (r.length + 1) (91 :: r) cur outs pl = if (91 : Nat) = 45 ∨ 91 ∈ signs m then _ else if (91 : Nat) = 91 then pr m r.length r [] (cur :: outs) (pl + 1) else _ from rfl, if_neg (sg_no (by decide) (by decide)), if_pos rfl]
  rfl
theorem prs_close {o : List W} {os : List (List W)} : prs m (93 :: r) cur (o :: os) pl = match nums r [] (pl + 1) with
    | .inl b => .inl b
    | .inr (w, r', pl') => if w = [] then .inl (pl + 1) else prs m r' (o ++ [.times (dval w) (.row (ofL cur))]) os pl' := by
  show pr m (r.length + 1) (93 :: r) cur (o :: os) pl = _
  rw [show pr m (r.length + 1) (93 :: r) cur (o :: os) pl = if (93 : Nat) = 45 ∨ 93 ∈ signs m then _ else if (93 : Nat) = 91 then _ else if (93 : Nat) = 93 then (match nums r [] (pl + 1) with
        | .inl b => .inl b
        | .inr (w, r', pl') => if w = [] then .inl (pl + 1) else pr m r.length r' (o ++ [.times (dval w) (.row (ofL cur))]) os pl') else _ from rfl, if_neg (sg_no (by decide) (by decide)), if_neg (by decide), if_pos rfl]
  cases hn : nums r [] (pl + 1) with
  | inl b => rfl
  | inr x =>
    obtain ⟨w, r', pl'⟩ := x
    dsimp only
    rw [pr_prs (nums_len _ _ _ hn).1]
theorem prs_close0 : prs m (93 :: r) cur [] pl = .inl pl := by
  show pr m (r.length + 1) (93 :: r) cur [] pl = _
  rw [show pr m (r.length + 1) (93 :: r) cur [] pl = if (93 : Nat) = 45 ∨ 93 ∈ signs m then _ else if (93 : Nat) = 91 then _ else if (93 : Nat) = 93 then .inl pl else _ from rfl, if_neg (sg_no (by decide) (by decide)), if_neg (by decide), if_pos rfl]
theorem prs_bad {c : Nat} (h1 : ¬ (c = 45 ∨ c ∈ signs m)) (h2 : c ≠ 91) (h3 : c ≠ 93) : prs m (c :: r) cur outs pl = .inl pl := by
  show pr m (r.length + 1) (c :: r) cur outs pl = _
  rw [show pr m (r.length + 1) (c :: r) cur outs pl = if c = 45 ∨ c ∈ signs m then _ else if c = 91 then _ else if c = 93 then _ else .inl pl from rfl, if_neg h1, if_neg h2, if_neg h3]
end
/-! ### a text that is written reads back -/
def NoD (r : List Nat) : Prop := ∀ c t, r = c :: t → isd c = false
theorem isd_no {c : Nat} (h : c < 48 ∨ 57 < c) : isd c = false := by
  unfold isd
  rcases h with h | h
  · rw [decide_eq_false (by omega), Bool.false_and]
  · rw [decide_eq_false (p := c ≤ 57) (by omega), Bool.and_false]
theorem dval_snoc (cs : List Nat) (c : Nat) : dval (cs ++ [c]) = dval cs * 10 + (c - 48) := NumText.digitsVal_snoc cs c
theorem dval_le : ∀ (b a : List Nat), dval a ≤ dval (a ++ b) := fun b => by
  induction b with
  | nil => intro a; rw [List.append_nil]; exact Nat.le_refl _
  | cons c r ih =>
    intro a
    have h := ih (a ++ [c])
    rw [List.append_assoc, List.singleton_append] at h
    have h2 := dval_snoc a c
    omega
/-- no number begins with a 0 that more figures follow -/
theorem numL_zero : ∀ (n : Nat) (r : List Nat), TL.numL n = 48 :: r → r = [] := by
  intro n
  induction n using Nat.strongRecOn with
  | _ n ih =>
    intro r h
    by_cases hn : n < 10
    · rw [TL.numL_lt hn] at h
      exact (List.cons.inj h).2.symm
    · rw [TL.numL_step (by omega)] at h
      have hne := TL.numL_ne (n / 10)
      cases hd : TL.numL (n / 10) with
      | nil => exact absurd hd hne
      | cons a t =>
        rw [hd, List.cons_append] at h
        obtain ⟨e1, e2⟩ := List.cons.inj h
        subst e1
        have e3 := ih (n / 10) (by omega) t hd
        subst e3
        have e4 := TL.numL_val (n / 10)
        rw [hd] at e4
        have e5 : NumText.digitsVal [48] = 0 := rfl
        rw [e5] at e4
        omega
theorem nums_all {n : Nat} (hn : n ≤ 1000000000000000000) {r : List Nat} (hr : NoD r) : ∀ (ds w : List Nat) (pl : Nat), w ++ ds = TL.numL n → nums (ds ++ r) w pl = .inr (TL.numL n, r, pl + ds.length)
  | [], w, pl, h => by
    rw [List.append_nil] at h
    subst h
    cases r with
    | nil => rfl
    | cons c t =>
      show (if isd c then _ else Sum.inr (TL.numL n, c :: t, pl)) = _
      rw [hr c t rfl]
      rfl
  | d :: ds, w, pl, h => by
    have hd : isd d = true := by
      have := TL.numL_digits n d (by rw [← h]; simp)
      unfold isd
      rw [Bool.and_eq_true]
      exact ⟨decide_eq_true this.1, decide_eq_true this.2⟩
    have h1 : ¬ (w = [48] ∨ 1000000000000000000 < dval (w ++ [d])) := fun z => by
      rcases z with z | z
      · subst z
        have := numL_zero n (d :: ds) h.symm
        cases this
      · have e := dval_le ds (w ++ [d])
        rw [List.append_assoc, List.singleton_append, h] at e
        have e2 : dval (TL.numL n) = n := TL.numL_val n
        omega
    have ih := nums_all hn hr ds (w ++ [d]) (pl + 1) (by rw [List.append_assoc]; exact h)
    show (if isd d then (if w = [48] ∨ 1000000000000000000 < dval (w ++ [d]) then Sum.inl pl else nums (ds ++ r) (w ++ [d]) (pl + 1)) else _) = _
    rw [hd, if_pos rfl, if_neg h1, ih, List.length_cons]
    congr 3
    omega
mutual
theorem W.nod {m : Nat} : ∀ (w : W), w.Can m → ∀ r, NoD r → NoD (w.txt ++ r)
  | .push c, h, r, hr => fun d t e => by
    have hc := signs_ge (show c ∈ signs m from h)
    have e2 : c = d := (List.cons.inj e).1
    subst e2
    exact isd_no (.inr (by omega))
  | .pop, _, r, hr => fun d t e => by
    have e2 : 45 = d := (List.cons.inj e).1
    subst e2
    rfl
  | .row ws, h, r, hr => Ws.nod ws h.2 r hr
  | .times n w, _, r, hr => fun d t e => by
    have e2 : 91 = d := (List.cons.inj e).1
    subst e2
    rfl
theorem Ws.nod {m : Nat} : ∀ (ws : Ws), ws.Can m → ∀ r, NoD r → NoD (ws.txt ++ r)
  | .nil, _, r, hr => hr
  | .cons w ws, h, r, hr => by
    show NoD ((w.txt ++ ws.txt) ++ r)
    rw [List.append_assoc]
    exact W.nod w h.1 _ (Ws.nod ws h.2 r hr)
end
mutual
theorem W.read {m : Nat} : ∀ (w : W), w.Can m → ∀ (r : List Nat) (cur : List W) (outs : List (List W)) (pl : Nat), NoD r → prs m (w.txt ++ r) cur outs pl = prs m r (cur ++ w.flat) outs (pl + w.txt.length)
  | .push c, h, r, cur, outs, pl, hr => by
    have hc := signs_ge (show c ∈ signs m from h)
    show prs m (c :: r) cur outs pl = _
    rw [prs_step (.inr h)]
    unfold stp
    rw [if_neg (by omega)]
    rfl
  | .pop, _, r, cur, outs, pl, hr => by
    show prs m (45 :: r) cur outs pl = _
    rw [prs_step (.inl rfl)]
    rfl
  | .row ws, h, r, cur, outs, pl, hr => Ws.read ws h.2 r cur outs pl hr
  | .times n w, h, r, cur, outs, pl, hr => by
    have e : (W.times n w).txt ++ r = 91 :: (w.txt ++ 93 :: (TL.numL n ++ r)) := by
      show (91 :: (w.txt ++ 93 :: TL.numL n)) ++ r = _
      rw [List.cons_append, List.append_assoc, List.cons_append]
    have hd : NoD (93 :: (TL.numL n ++ r)) := fun d t e => by
      have e2 : 93 = d := (List.cons.inj e).1
      subst e2
      rfl
    have ih := W.read w h.2 (93 :: (TL.numL n ++ r)) [] (cur :: outs) (pl + 1) hd
    rw [e, prs_open, ih, prs_close, nums_all h.1 hr (TL.numL n) [] _ rfl]
    dsimp only
    rw [if_neg (TL.numL_ne n), List.nil_append]
    have e3 : dval (TL.numL n) = n := TL.numL_val n
    rw [e3]
    have e4 : pl + 1 + w.txt.length + 1 + (TL.numL n).length = pl + (W.times n w).txt.length := by
      show _ = pl + (91 :: (w.txt ++ 93 :: TL.numL n)).length
      rw [List.length_cons, List.length_append, List.length_cons]
      omega
    rw [e4]
    rfl
theorem Ws.read {m : Nat} : ∀ (ws : Ws), ws.Can m → ∀ (r : List Nat) (cur : List W) (outs : List (List W)) (pl : Nat), NoD r → prs m (ws.txt ++ r) cur outs pl = prs m r (cur ++ ws.flat) outs (pl + ws.txt.length)
  | .nil, _, r, cur, outs, pl, hr => by
    show prs m r cur outs pl = prs m r (cur ++ []) outs (pl + 0)
    rw [List.append_nil]
    rfl
  | .cons w ws, h, r, cur, outs, pl, hr => by
    have h1 := W.read w h.1 (ws.txt ++ r) cur outs pl (Ws.nod ws h.2 r hr)
    have h2 := Ws.read ws h.2 r (cur ++ w.flat) outs (pl + w.txt.length) hr
    show prs m ((w.txt ++ ws.txt) ++ r) cur outs pl = prs m r (cur ++ (w.flat ++ ws.flat)) outs (pl + (w.txt ++ ws.txt).length)
    rw [List.append_assoc, h1, h2, List.append_assoc, List.length_append, Nat.add_assoc]
end
/-- what is read of a work's own text -/
def W.nrm (w : W) : W := .row (ofL w.flat)
theorem W.read_all {m : Nat} (w : W) (h : w.Can m) : prs m w.txt [] [] 0 = .inr w.nrm := by
  have e := W.read w h [] [] [] 0 (fun c t e => by cases e)
  rw [List.append_nil, List.nil_append] at e
  rw [e, prs_nil, if_pos rfl]
  rfl
/-! ### what is read back is as what was written -/
theorem ofL_app_lng : ∀ (a b : List W), (ofL (a ++ b)).lng = (ofL a).lng ++ (ofL b).lng
  | [], b => rfl
  | w :: r, b => by
    show w.lng ++ (ofL (r ++ b)).lng = (w.lng ++ (ofL r).lng) ++ (ofL b).lng
    rw [ofL_app_lng r b, List.append_assoc]
theorem ofL_app_txt : ∀ (a b : List W), (ofL (a ++ b)).txt = (ofL a).txt ++ (ofL b).txt
  | [], b => rfl
  | w :: r, b => by
    show w.txt ++ (ofL (r ++ b)).txt = (w.txt ++ (ofL r).txt) ++ (ofL b).txt
    rw [ofL_app_txt r b, List.append_assoc]
theorem ofL_app_siz : ∀ (a b : List W), (ofL (a ++ b)).siz = (ofL a).siz + (ofL b).siz
  | [], b => (Nat.zero_add _).symm
  | w :: r, b => by
    show w.siz + (ofL (r ++ b)).siz = (w.siz + (ofL r).siz) + (ofL b).siz
    rw [ofL_app_siz r b, Nat.add_assoc]
theorem ofL_app_dep : ∀ (a b : List W), (ofL (a ++ b)).dep = max (ofL a).dep (ofL b).dep
  | [], b => (Nat.zero_max _).symm
  | w :: r, b => by
    show max w.dep (ofL (r ++ b)).dep = max (max w.dep (ofL r).dep) (ofL b).dep
    rw [ofL_app_dep r b, Nat.max_assoc]
theorem ofL_app_can {m : Nat} : ∀ (a b : List W), (ofL a).Can m → (ofL b).Can m → (ofL (a ++ b)).Can m
  | [], b, _, h => h
  | w :: r, b, h1, h2 => ⟨h1.1, ofL_app_can r b h1.2 h2⟩
mutual
theorem W.flat_lng : ∀ w : W, (ofL w.flat).lng = w.lng
  | .push c => rfl
  | .pop => rfl
  | .row ws => Ws.flat_lng ws
  | .times n w => by
    show (List.replicate n (ofL w.flat).lng).flatten ++ [] = (List.replicate n w.lng).flatten
    rw [W.flat_lng w, List.append_nil]
theorem Ws.flat_lng : ∀ ws : Ws, (ofL ws.flat).lng = ws.lng
  | .nil => rfl
  | .cons w r => by
    show (ofL (w.flat ++ r.flat)).lng = w.lng ++ r.lng
    rw [ofL_app_lng, W.flat_lng w, Ws.flat_lng r]
end
mutual
theorem W.flat_txt : ∀ w : W, (ofL w.flat).txt = w.txt
  | .push c => rfl
  | .pop => rfl
  | .row ws => Ws.flat_txt ws
  | .times n w => by
    show (91 :: ((ofL w.flat).txt ++ 93 :: TL.numL n)) ++ [] = 91 :: (w.txt ++ 93 :: TL.numL n)
    rw [W.flat_txt w, List.append_nil]
theorem Ws.flat_txt : ∀ ws : Ws, (ofL ws.flat).txt = ws.txt
  | .nil => rfl
  | .cons w r => by
    show (ofL (w.flat ++ r.flat)).txt = w.txt ++ r.txt
    rw [ofL_app_txt, W.flat_txt w, Ws.flat_txt r]
end
mutual
theorem W.flat_siz : ∀ w : W, (ofL w.flat).siz ≤ 2 * w.siz
  | .push c => by show 1 + 0 ≤ 2 * 1; decide
  | .pop => by show 1 + 0 ≤ 2 * 1; decide
  | .row ws => by
    have := Ws.flat_siz ws
    show (ofL ws.flat).siz ≤ 2 * (1 + ws.siz)
    omega
  | .times n w => by
    have := W.flat_siz w
    show (1 + (1 + (ofL w.flat).siz)) + 0 ≤ 2 * (1 + w.siz)
    omega
theorem Ws.flat_siz : ∀ ws : Ws, (ofL ws.flat).siz ≤ 2 * ws.siz
  | .nil => Nat.le_refl _
  | .cons w r => by
    have h1 := W.flat_siz w
    have h2 := Ws.flat_siz r
    show (ofL (w.flat ++ r.flat)).siz ≤ 2 * (w.siz + r.siz)
    rw [ofL_app_siz]
    omega
end
mutual
theorem W.flat_dep : ∀ w : W, (ofL w.flat).dep ≤ 2 * w.dep
  | .push c => by show max 1 0 ≤ 2 * 1; decide
  | .pop => by show max 1 0 ≤ 2 * 1; decide
  | .row ws => by
    have := Ws.flat_dep ws
    show (ofL ws.flat).dep ≤ 2 * (1 + ws.dep)
    omega
  | .times n w => by
    have := W.flat_dep w
    show max (1 + (1 + (ofL w.flat).dep)) 0 ≤ 2 * (1 + w.dep)
    omega
theorem Ws.flat_dep : ∀ ws : Ws, (ofL ws.flat).dep ≤ 2 * ws.dep
  | .nil => Nat.le_refl _
  | .cons w r => by
    have h1 := W.flat_dep w
    have h2 := Ws.flat_dep r
    show (ofL (w.flat ++ r.flat)).dep ≤ 2 * (max w.dep r.dep)
    rw [ofL_app_dep]
    omega
end
theorem ofL_len_siz : ∀ l : List W, l.length ≤ (ofL l).siz
  | [] => Nat.le_refl _
  | w :: r => by
    have h1 := ofL_len_siz r
    have h2 := W.siz_pos w
    show r.length + 1 ≤ w.siz + (ofL r).siz
    omega
mutual
theorem W.flat_can {m : Nat} : ∀ w : W, w.Can m → w.siz ≤ 500 → (ofL w.flat).Can m
  | .push c, h, _ => ⟨h, trivial⟩
  | .pop, _, _ => ⟨trivial, trivial⟩
  | .row ws, h, hs => Ws.flat_can ws h.2 (by
    have : (W.row ws).siz = 1 + ws.siz := rfl
    omega)
  | .times n w, h, hs => by
    have e : (W.times n w).siz = 1 + w.siz := rfl
    have h1 := W.flat_can w h.2 (by omega)
    have h2 := ofL_len_siz w.flat
    have h3 := W.flat_siz w
    exact ⟨⟨h.1, by rw [ofL_len]; omega, h1⟩, trivial⟩
theorem Ws.flat_can {m : Nat} : ∀ ws : Ws, ws.Can m → ws.siz ≤ 500 → (ofL ws.flat).Can m
  | .nil, _, _ => trivial
  | .cons w r, h, hs => by
    have e : (Ws.cons w r).siz = w.siz + r.siz := rfl
    exact ofL_app_can _ _ (W.flat_can w h.1 (by omega)) (Ws.flat_can r h.2 (by omega))
end
theorem W.nrm_ok {m : Nat} {w : W} (h : w.Can m) (hs : w.siz ≤ 29) (hd : w.dep ≤ 3) : WOk m w.nrm := by
  have h1 := W.flat_siz w
  have h2 := W.flat_dep w
  have h3 := ofL_len_siz w.flat
  refine ⟨⟨by rw [ofL_len]; omega, W.flat_can w h (by omega)⟩, ?_, ?_⟩
  · show 1 + (ofL w.flat).siz ≤ 60
    omega
  · show 1 + (ofL w.flat).dep ≤ 8
    omega
theorem W.nrm_txt (w : W) : w.nrm.txt = w.txt := W.flat_txt w
theorem W.nrm_tri {room m : Nat} (hr : 1 ≤ room) {w : W} (h : w.Can m) (h2 : w.nrm.Can m) : w.nrm.tri room = w.tri room := by
  rw [W.tri_lng (many := m) hr w h, W.tri_lng (many := m) hr _ h2]
  show ttold room (ofL w.flat).lng = _
  rw [W.flat_lng]
/-- small ones: rows of at most three -/
def tri3 : Nat → Nat
  | 0 => 0
  | n + 1 => 1 + 3 * tri3 n
theorem tri3_mono : ∀ {a b : Nat}, a ≤ b → tri3 a ≤ tri3 b
  | 0, b, _ => Nat.zero_le _
  | a + 1, b, h => by
    match b, h with
    | b + 1, h =>
      have := tri3_mono (show a ≤ b by omega)
      show 1 + 3 * tri3 a ≤ 1 + 3 * tri3 b
      omega
mutual
theorem W.siz_tm {t : Nat} : ∀ w : W, w.Tm t → w.siz ≤ tri3 w.dep
  | .push _, _ => by show 1 ≤ 1 + 3 * 0; decide
  | .pop, _ => by show 1 ≤ 1 + 3 * 0; decide
  | .row ws, h => by
    have e := Ws.siz_tm ws h.2
    have e2 : ws.len * tri3 ws.dep ≤ 3 * tri3 ws.dep := Nat.mul_le_mul_right _ h.1
    show 1 + ws.siz ≤ tri3 (1 + ws.dep)
    rw [Nat.add_comm 1 ws.dep]
    show 1 + ws.siz ≤ 1 + 3 * tri3 ws.dep
    omega
  | .times n w, h => by
    have e := W.siz_tm w h.2
    show 1 + w.siz ≤ tri3 (1 + w.dep)
    rw [Nat.add_comm 1 w.dep]
    show 1 + w.siz ≤ 1 + 3 * tri3 w.dep
    omega
theorem Ws.siz_tm {t : Nat} : ∀ ws : Ws, ws.Tm t → ws.siz ≤ ws.len * tri3 ws.dep
  | .nil, _ => Nat.zero_le _
  | .cons w r, h => by
    have e1 := W.siz_tm w h.1
    have e2 := Ws.siz_tm r h.2
    have p1 : tri3 w.dep ≤ tri3 (max w.dep r.dep) := tri3_mono (Nat.le_max_left ..)
    have p2 : r.len * tri3 r.dep ≤ r.len * tri3 (max w.dep r.dep) := Nat.mul_le_mul_left _ (tri3_mono (Nat.le_max_right ..))
    show w.siz + r.siz ≤ (r.len + 1) * tri3 (max w.dep r.dep)
    rw [Nat.succ_mul]
    omega
end
/-! ### what can be read at all -/
def osz (outs : List (List W)) : Nat := (outs.map List.length).sum
theorem nums_le : ∀ (r w : List Nat) (pl : Nat) {w' r' : List Nat} {pl' : Nat}, nums r w pl = .inr (w', r', pl') → (w = [] ∨ dval w ≤ 1000000000000000000) → (w' = [] ∨ dval w' ≤ 1000000000000000000)
  | [], w, pl, w', r', pl', h, hw => by
    have e := Sum.inr.inj h
    cases e
    exact hw
  | c :: r, w, pl, w', r', pl', h, hw => by
    unfold nums at h
    split at h
    · split at h
      · cases h
      · rename_i h2
        exact nums_le r _ _ h (.inr (Nat.le_of_not_lt fun z => h2 (.inr z)))
    · have e := Sum.inr.inj h
      cases e
      exact hw
theorem prs_can {m : Nat} : ∀ (k : Nat) (r : List Nat) (cur : List W) (outs : List (List W)) (pl : Nat), r.length ≤ k → k + (cur.length + osz outs) ≤ 1000 → (ofL cur).Can m → (∀ o ∈ outs, (ofL o).Can m) → ∀ w, pr m k r cur outs pl = .inr w → w.Can m := by
  intro k
  induction k with
  | zero =>
    intro r cur outs pl hk hl hc ho w hw
    have e := List.length_eq_zero_iff.mp (Nat.le_zero.mp hk)
    subst e
    have hw : (if outs = [] then Sum.inr (W.row (ofL cur)) else Sum.inl pl) = Sum.inr w := hw
    split at hw
    · have e := Sum.inr.inj hw
      subst e
      exact ⟨by rw [ofL_len]; omega, hc⟩
    · cases hw
  | succ k ih =>
    intro r cur outs pl hk hl hc ho w hw
    cases r with
    | nil =>
      have hw : (if outs = [] then Sum.inr (W.row (ofL cur)) else Sum.inl pl) = Sum.inr w := hw
      split at hw
      · have e := Sum.inr.inj hw
        subst e
        exact ⟨by rw [ofL_len]; omega, hc⟩
      · cases hw
    | cons c r =>
      have hk' : r.length ≤ k := Nat.le_of_succ_le_succ hk
      unfold pr at hw
      split at hw
      · rename_i hcs
        have hst : (ofL [stp c]).Can m := by
          refine ⟨?_, trivial⟩
          unfold stp
          split
          · trivial
          · rename_i h45
            exact hcs.resolve_left h45
        refine ih r _ outs _ hk' (by rw [List.length_append]; show k + (cur.length + 1 + osz outs) ≤ 1000; omega) (ofL_app_can cur [stp c] hc hst) ho w hw
      · split at hw
        · refine ih r [] (cur :: outs) _ hk' ?_ trivial (fun o hm => ?_) w hw
          · show k + (0 + osz (cur :: outs)) ≤ 1000
            have : osz (cur :: outs) = cur.length + osz outs := rfl
            omega
          · rcases List.mem_cons.mp hm with rfl | hm
            · exact hc
            · exact ho o hm
        · split at hw
          · cases outs with
            | nil => cases hw
            | cons o os =>
              dsimp only at hw
              cases hn : nums r [] (pl + 1) with
              | inl b =>
                rw [hn] at hw
                cases hw
              | inr x =>
                obtain ⟨w', r', pl'⟩ := x
                rw [hn] at hw
                dsimp only at hw
                split at hw
                · cases hw
                · rename_i hne
                  have hos : osz (o :: os) = o.length + osz os := rfl
                  have htm : (ofL [W.times (dval w') (.row (ofL cur))]).Can m := ⟨⟨(nums_le r [] _ hn (.inl rfl)).resolve_left hne, by rw [ofL_len]; omega, hc⟩, trivial⟩
                  exact ih r' _ os _ (Nat.le_trans (nums_len _ _ _ hn).1 hk') (by rw [List.length_append]; show k + (o.length + 1 + osz os) ≤ 1000; omega) (ofL_app_can o [W.times (dval w') (.row (ofL cur))] (ho o (List.mem_cons_self ..)) htm) (fun y hy => ho y (List.mem_cons_of_mem _ hy)) w hw
          · cases hw
end SK
namespace SK
open PySem PySem.Spec PyProof.Rows L2 LamX
/-! ### reading: places, rows in the heap -/
theorem cut_mid {l : List Nat} {a b : Nat} (h1 : a ≤ b) (h2 : b ≤ l.length) : cutS (tx l) (some (a : Int)) (some (b : Int)) = tx ((l.drop a).take (b - a)) := by
  rw [cut_tx, HT.sIx_nat, HT.sIx_nat, Nat.min_eq_left h2, Nat.min_eq_left (Nat.le_trans h1 h2)]
theorem nums_spec : ∀ (r w : List Nat) (pl : Nat) {w' r' : List Nat} {pl' : Nat}, nums r w pl = .inr (w', r', pl') → ∃ ds, r = ds ++ r' ∧ w' = w ++ ds ∧ pl' = pl + ds.length ∧ ∀ c ∈ ds, isd c = true
  | [], w, pl, w', r', pl', h => by
    have e := Sum.inr.inj h
    cases e
    exact ⟨[], rfl, (List.append_nil _).symm, rfl, fun c hc => by cases hc⟩
  | c :: r, w, pl, w', r', pl', h => by
    unfold nums at h
    split at h
    · rename_i hc
      split at h
      · cases h
      · obtain ⟨ds, e1, e2, e3, e4⟩ := nums_spec r _ _ h
        refine ⟨c :: ds, by rw [e1]; rfl, by rw [e2, List.append_assoc]; rfl, by rw [e3, List.length_cons]; omega, fun d hd => ?_⟩
        rcases List.mem_cons.mp hd with rfl | hd
        · exact hc
        · exact e4 d hd
    · have e := Sum.inr.inj h
      cases e
      exact ⟨[], rfl, (List.append_nil _).symm, rfl, fun c hc => by cases hc⟩
def figAt (t : List Nat) (pl : Nat) : Bool := match t[pl]? with | some c => isd c | none => false
/-- the number at a place: the place that can't be, or the place behind -/
def numAt (t : List Nat) (st : Nat) : Nat ⊕ Nat := match nums (t.drop st) [] st with
  | .inl b => .inl b
  | .inr (w, _, pl') => if w = [] then .inl st else .inr pl'
theorem drop_cons {t : List Nat} {pl c : Nat} (h : t[pl]? = some c) : t.drop pl = c :: t.drop (pl + 1) := by
  obtain ⟨h1, h2⟩ := List.getElem?_eq_some_iff.mp h
  rw [List.drop_eq_getElem_cons h1, h2]
theorem word_snoc {t : List Nat} {st pl c : Nat} (hs : st ≤ pl) (h : t[pl]? = some c) : (t.drop st).take (pl + 1 - st) = (t.drop st).take (pl - st) ++ [c] := by
  have e : pl + 1 - st = (pl - st) + 1 := by omega
  rw [e, List.take_add_one, List.getElem?_drop, show st + (pl - st) = pl by omega, h]
  rfl
theorem nums_go {t w : List Nat} {pl c : Nat} (h : t[pl]? = some c) (hc : isd c = true) : nums (t.drop pl) w pl = if w = [48] ∨ 1000000000000000000 < dval (w ++ [c]) then .inl pl else nums (t.drop (pl + 1)) (w ++ [c]) (pl + 1) := by
  rw [drop_cons h]
  show (if isd c then _ else _) = _
  rw [if_pos hc]
theorem nums_end {t w : List Nat} {pl : Nat} (h : figAt t pl = false) : nums (t.drop pl) w pl = .inr (w, t.drop pl, pl) := by
  unfold figAt at h
  cases e : t[pl]? with
  | none =>
    have := List.getElem?_eq_none_iff.mp e
    rw [List.drop_eq_nil_of_le this]
    rfl
  | some c =>
    rw [e] at h
    rw [drop_cons e]
    show (if isd c then _ else _) = _
    have h : isd c = false := h
    rw [h]
    rfl
theorem numAt_no {t : List Nat} {st : Nat} (h : figAt t st = false) : numAt t st = .inl st := by
  unfold numAt
  rw [nums_end h]
  rfl
theorem prs_closeT {m pl : Nat} {t : List Nat} {cur o : List W} {os : List (List W)} (h : t[pl]? = some 93) : prs m (t.drop pl) cur (o :: os) pl = match numAt t (pl + 1) with
    | .inl b => .inl b
    | .inr pl' => prs m (t.drop pl') (o ++ [.times (dval ((t.drop (pl + 1)).take (pl' - (pl + 1)))) (.row (ofL cur))]) os pl' := by
  rw [drop_cons h, prs_close]
  unfold numAt
  cases hn : nums (t.drop (pl + 1)) [] (pl + 1) with
  | inl b => rfl
  | inr x =>
    obtain ⟨w, r', pl'⟩ := x
    obtain ⟨ds, e1, e2, e3, _⟩ := nums_spec _ _ _ hn
    rw [List.nil_append] at e2
    subst e2
    dsimp only
    by_cases hw : w = []
    · rw [if_pos hw, if_pos hw]
    · rw [if_neg hw, if_neg hw]
      dsimp only
      have e4 : pl' - (pl + 1) = w.length := by omega
      have e5 : t.drop pl' = r' := by
        have e6 : t.drop pl' = (t.drop (pl + 1)).drop w.length := by
          rw [List.drop_drop, e3]
        rw [e6, e1, List.drop_left]
      rw [e4, e5, e1, List.take_left]
theorem numAt_inr {t : List Nat} {st pl' : Nat} (h : numAt t st = .inr pl') : st < pl' ∧ pl' ≤ t.length ∧ (∀ c ∈ (t.drop st).take (pl' - st), isd c = true) := by
  unfold numAt at h
  cases hn : nums (t.drop st) [] st with
  | inl b =>
    rw [hn] at h
    cases h
  | inr x =>
    obtain ⟨w, r', pl2⟩ := x
    rw [hn] at h
    dsimp only at h
    obtain ⟨ds, e1, e2, e3, e4⟩ := nums_spec _ _ _ hn
    rw [List.nil_append] at e2
    subst e2
    split at h
    · cases h
    · rename_i hw
      have e := Sum.inr.inj h
      subst e
      have hl := congrArg List.length e1
      rw [List.length_drop, List.length_append] at hl
      have hp : 0 < w.length := List.length_pos_iff.mpr hw
      refine ⟨by omega, by omega, ?_⟩
      rw [show pl2 - st = w.length by omega, e1, List.take_left]
      exact e4
theorem int_tx {w : List Nat} (h : ∀ c ∈ w, isd c = true) (hne : w ≠ []) (hl : w.length ≤ 640) : PySem.intText? (tx w) = some ((dval w : Nat) : Int) ∧ (tx w).length ≤ 640 := by
  refine ⟨PySem.intText_digits (x := tx w) (fun c hc => ?_) hne (by rw [tx_len]; omega), by rw [tx_len]; exact hl⟩
  have := h c hc
  unfold isd at this
  rw [Bool.and_eq_true] at this
  exact ⟨of_decide_eq_true this.1, of_decide_eq_true this.2⟩
/-! ### rows that have begun -/
def LAt (H : Hp) (a : Addr) (ws : List W) : Prop := ∃ vs, H a = some (.lst vs) ∧ W2 H ws vs
def OAt (H : Hp) : List (List W) → List Addr → Prop
  | [], as => as = []
  | o :: r, as => ∃ a s, as = a :: s ∧ LAt H a o ∧ OAt H r s
theorem LAt.same {H H' : Hp} {a : Addr} {ws : List W} (h : LAt H a ws) (s : Same H H') : LAt H' a ws := by
  obtain ⟨vs, h1, h2⟩ := h
  exact ⟨vs, s _ _ h1, h2.tups (Tups.of s)⟩
theorem OAt.same {H H' : Hp} (s : Same H H') : ∀ {os : List (List W)} {as : List Addr}, OAt H os as → OAt H' os as
  | [], _, h => h
  | _ :: _, _, ⟨a, r, h1, h2, h3⟩ => ⟨a, r, h1, h2.same s, OAt.same s h3⟩
theorem LAt.upd {H : Hp} {a b : Addr} {ws : List W} {xs ys : List V} (h : LAt H a ws) (hb : H b = some (.lst xs)) (n : a ≠ b) : LAt (upd H b (.lst ys)) a ws := by
  obtain ⟨vs, h1, h2⟩ := h
  exact ⟨vs, by rw [upd_ne n]; exact h1, h2.tups (Tups.lst hb)⟩
theorem OAt.upd {H : Hp} {b : Addr} {xs ys : List V} (hb : H b = some (.lst xs)) : ∀ {os : List (List W)} {as : List Addr}, OAt H os as → b ∉ as → OAt (upd H b (.lst ys)) os as
  | [], _, h, _ => h
  | _ :: _, _, ⟨a, r, h1, h2, h3⟩, n => by
    subst h1
    exact ⟨a, r, rfl, h2.upd hb fun e => n (by rw [e]; exact List.mem_cons_self ..), OAt.upd hb h3 fun m => n (List.mem_cons_of_mem _ m)⟩
theorem OAt.len {H : Hp} : ∀ {os : List (List W)} {as : List Addr}, OAt H os as → as.length = os.length
  | [], _, h => by cases h; rfl
  | _ :: r, _, ⟨a, s, h1, h2, h3⟩ => by
    subst h1
    show s.length + 1 = r.length + 1
    rw [h3.len]
structure Rw (H0 H : Hp) (R : Addr) (cur : List W) (outs : List (List W)) (a : Addr) (os : List Addr) : Prop where
  s : Same H0 H
  fr : ∀ x ∈ R :: a :: os, H0 x = none
  nd : (R :: a :: os).Nodup
  r : H R = some (.lst (os.reverse.map V.ref ++ [.ref a]))
  c : LAt H a cur
  o : OAt H outs os
section
variable {H0 H H' : Hp} {R a : Addr} {cur : List W} {outs : List (List W)} {os : List Addr}
theorem Rw.same (h : Rw H0 H R cur outs a os) (s : Same H H') : Rw H0 H' R cur outs a os := ⟨h.s.trans s, h.fr, h.nd, s _ _ h.r, h.c.same s, h.o.same s⟩
theorem Rw.ra (h : Rw H0 H R cur outs a os) : R ≠ a ∧ R ∉ os ∧ a ∉ os ∧ os.Nodup := by
  have := h.nd
  rw [List.nodup_cons, List.nodup_cons] at this
  exact ⟨fun e => this.1 (by rw [e]; exact List.mem_cons_self ..), fun m => this.1 (List.mem_cons_of_mem _ m), this.2.1, this.2.2⟩
theorem Rw.put {w : W} {v : V} {vs : List V} (h : Rw H0 H R cur outs a os) (hv : WAt H w v) (ha : H a = some (.lst vs)) : Rw H0 (upd H a (.lst (vs ++ [v]))) R (cur ++ [w]) outs a os := by
  obtain ⟨n1, n2, n3, n4⟩ := h.ra
  obtain ⟨vs', e1, e2⟩ := h.c
  have e : vs' = vs := by
    have := e1.symm.trans ha
    injection this with this
    injection this
  subst e
  refine ⟨fun b o e => ?_, h.fr, h.nd, by rw [upd_ne n1]; exact h.r, ⟨_, upd_same, (e2.snoc hv).tups (Tups.lst ha)⟩, h.o.upd ha n3⟩
  rw [upd_ne (ne_of_none e (h.fr a (by simp)))]
  exact h.s b o e
theorem Rw.opn {b : Addr} (h : Rw H0 H R cur outs a os) (hb : H b = none) : Rw H0 (upd (upd H b (.lst [])) R (.lst ((os.reverse.map V.ref ++ [.ref a]) ++ [.ref b]))) R [] (cur :: outs) b (a :: os) := by
  obtain ⟨n1, n2, n3, n4⟩ := h.ra
  have sb := Same.new hb (.lst [])
  have hR := sb _ _ h.r
  have nbR : b ≠ R := fun e => by rw [e, h.r] at hb; cases hb
  have nba : b ≠ a := fun e => by
    obtain ⟨vs, e1, _⟩ := h.c
    rw [e, e1] at hb
    cases hb
  have nbo : b ∉ os := fun hm => by
    have key : ∀ {os : List Addr} {outs : List (List W)}, OAt H outs os → b ∈ os → False := fun {os} => by
      induction os with
      | nil => intro outs _ hm; cases hm
      | cons x r ih =>
        intro outs ho hm
        cases outs with
        | nil => cases ho
        | cons o outs =>
          obtain ⟨x', s, e, ⟨vs, e1, _⟩, h3⟩ := ho
          obtain ⟨e4, e5⟩ := List.cons.inj e
          subst e4 e5
          rcases List.mem_cons.mp hm with hm | hm
          · rw [← hm, hb] at e1
            cases e1
          · exact ih h3 hm
    exact key h.o hm
  have hb0 : H0 b = none := h.s.free hb
  refine ⟨fun x o e => ?_, fun x hx => ?_, ?_, ?_, ⟨[], by rw [upd_ne nbR]; exact upd_same, rfl⟩, ⟨a, os, rfl, (h.c.same sb).upd hR (Ne.symm n1), OAt.upd hR (h.o.same sb) n2⟩⟩
  · rw [upd_ne (ne_of_none e (h.fr R (by simp)))]
    exact sb _ _ (h.s x o e)
  · rcases List.mem_cons.mp hx with rfl | hx
    · exact h.fr _ (by simp)
    · rcases List.mem_cons.mp hx with rfl | hx
      · exact hb0
      · exact h.fr x (List.mem_cons_of_mem _ hx)
  · rw [List.nodup_cons, List.nodup_cons, List.nodup_cons]
    refine ⟨fun hm => ?_, fun hm => ?_, n3, n4⟩
    · rcases List.mem_cons.mp hm with e | hm
      · exact nbR e.symm
      · rcases List.mem_cons.mp hm with e | hm
        · exact n1 e
        · exact n2 hm
    · rcases List.mem_cons.mp hm with e | hm
      · exact nba e
      · exact nbo hm
  · rw [upd_same, List.reverse_cons, List.map_append]
    rfl
/-- the innermost one taken away -/
theorem Rw.cls {o : List W} {outs : List (List W)} (h : Rw H0 H R cur (o :: outs) a os) : ∃ a2 os2, os = a2 :: os2 ∧ H R = some (.lst ((os2.reverse.map V.ref ++ [.ref a2]) ++ [.ref a])) ∧
    LAt (upd H R (.lst (os2.reverse.map V.ref ++ [.ref a2]))) a cur ∧ Rw H0 (upd H R (.lst (os2.reverse.map V.ref ++ [.ref a2]))) R o outs a2 os2 := by
  obtain ⟨n1, n2, n3, n4⟩ := h.ra
  obtain ⟨a2, os2, e, h2, h3⟩ := h.o
  subst e
  have hR : H R = some (.lst ((os2.reverse.map V.ref ++ [.ref a2]) ++ [.ref a])) := by
    rw [h.r, List.reverse_cons, List.map_append]
    rfl
  rw [List.nodup_cons] at n4
  refine ⟨a2, os2, rfl, hR, h.c.upd hR (Ne.symm n1), fun x o e => ?_, fun x hx => h.fr x ?_, ?_, upd_same, h2.upd hR fun e => n2 (by rw [e]; exact List.mem_cons_self ..), OAt.upd hR h3 fun m => n2 (List.mem_cons_of_mem _ m)⟩
  · rw [upd_ne (ne_of_none e (h.fr R (by simp)))]
    exact h.s x o e
  · rcases List.mem_cons.mp hx with rfl | hx
    · exact List.mem_cons_self ..
    · exact List.mem_cons_of_mem _ (List.mem_cons_of_mem _ hx)
  · rw [List.nodup_cons, List.nodup_cons]
    exact ⟨n2, n4.1, n4.2⟩
end
/-! ### check_work asked of any work that is alone -/
def cwk : Nat → List (W × Nat) → Option Nat
  | _, [] => none
  | 0, _ :: _ => some 60
  | f + 1, (w, d) :: r => if 8 < d then some (60 - (f + 1)) else cwk f ((w.within.list).map (fun x => (x, d + 1)) ++ r)
def wsz (ps : List (W × Nat)) : Nat := (ps.map fun p => p.1.siz).sum
theorem wsz_cons (p : W × Nat) (r : List (W × Nat)) : wsz (p :: r) = p.1.siz + wsz r := by
  unfold wsz
  rw [List.map_cons, List.sum_cons]
theorem wsz_app (a b : List (W × Nat)) : wsz (a ++ b) = wsz a + wsz b := by
  unfold wsz
  rw [List.map_append, List.sum_append]
theorem toL_siz (d : Nat) : ∀ ws : Ws, wsz (ws.list.map fun x => (x, d)) = ws.siz
  | .nil => rfl
  | .cons w r => by
    show wsz ((w, d) :: (r.list.map fun x => (x, d))) = w.siz + r.siz
    rw [wsz_cons, toL_siz d r]
theorem toL_dep : ∀ ws : Ws, (∀ w ∈ ws.list, w.dep ≤ ws.dep) ∧ (∀ n, (∀ w ∈ ws.list, w.dep ≤ n) → ws.dep ≤ n)
  | .nil => ⟨fun w h => (by cases h), fun n _ => Nat.zero_le _⟩
  | .cons w r => by
    obtain ⟨h1, h2⟩ := toL_dep r
    refine ⟨fun x hx => ?_, fun n h => ?_⟩
    · show x.dep ≤ max w.dep r.dep
      rcases List.mem_cons.mp (show x ∈ w :: r.list from hx) with rfl | hx
      · exact Nat.le_max_left ..
      · exact Nat.le_trans (h1 x hx) (Nat.le_max_right ..)
    · show max w.dep r.dep ≤ n
      exact Nat.max_le.mpr ⟨h w (show w ∈ w :: r.list from List.mem_cons_self ..), h2 n fun x hx => h x (show x ∈ w :: r.list from List.mem_cons_of_mem _ hx)⟩
theorem wit_siz : ∀ w : W, w.siz = 1 + w.within.siz
  | .push _ => rfl
  | .pop => rfl
  | .row _ => rfl
  | .times _ w => by
    show 1 + w.siz = 1 + (w.siz + 0)
    omega
theorem wit_dep : ∀ w : W, w.dep = 1 + w.within.dep
  | .push _ => rfl
  | .pop => rfl
  | .row _ => rfl
  | .times _ w => by
    show 1 + w.dep = 1 + max w.dep 0
    omega
theorem cwk_none : ∀ (f : Nat) (ps : List (W × Nat)), cwk f ps = none ↔ wsz ps ≤ f ∧ ∀ x ∈ ps, x.2 + x.1.dep ≤ 9
  | f, [] => ⟨fun _ => ⟨Nat.zero_le _, fun x hx => (by cases hx)⟩, fun _ => by cases f <;> rfl⟩
  | 0, (w, d) :: r => by
    refine ⟨fun h => ?_, fun h => ?_⟩
    · cases h
    · have h1 := h.1
      rw [wsz_cons] at h1
      have := W.siz_pos w
      dsimp only at h1
      omega
  | f + 1, (w, d) :: r => by
    have ih := cwk_none f (w.within.list.map (fun x => (x, d + 1)) ++ r)
    have e1 := wit_siz w
    have e2 := wit_dep w
    obtain ⟨e3, e4⟩ := toL_dep w.within
    rw [wsz_app, toL_siz] at ih
    show (if 8 < d then some (60 - (f + 1)) else cwk f (w.within.list.map (fun x => (x, d + 1)) ++ r)) = none ↔ _
    rw [wsz_cons]
    by_cases hd : 8 < d
    · rw [if_pos hd]
      refine ⟨fun h => (by cases h), fun h => ?_⟩
      have := h.2 (w, d) (List.mem_cons_self ..)
      dsimp only at this
      omega
    · rw [if_neg hd, ih]
      dsimp only
      refine ⟨fun h => ⟨by omega, fun x hx => ?_⟩, fun h => ⟨by omega, fun x hx => ?_⟩⟩
      · rcases List.mem_cons.mp hx with rfl | hx
        · dsimp only
          have := e4 (8 - d) fun y hy => by
            have := h.2 (y, d + 1) (List.mem_append_left _ (List.mem_map.mpr ⟨y, hy, rfl⟩))
            dsimp only at this
            omega
          omega
        · exact h.2 x (List.mem_append_right _ hx)
      · rcases List.mem_append.mp hx with hx | hx
        · obtain ⟨y, hy, rfl⟩ := List.mem_map.mp hx
          dsimp only
          have h1 := e3 y hy
          have h2 := h.2 (w, d) (List.mem_cons_self ..)
          dsimp only at h2
          omega
        · exact h.2 x (List.mem_cons_of_mem _ hx)
theorem cwk_le : ∀ (f : Nat) (ps : List (W × Nat)) (b : Nat), f ≤ 60 → cwk f ps = some b → b ≤ 60
  | f, [], b, _, h => by cases f <;> cases h
  | 0, _ :: _, b, _, h => by
    have e : 60 = b := Option.some.inj h
    omega
  | f + 1, (w, d) :: r, b, hf, h => by
    have h : (if 8 < d then some (60 - (f + 1)) else cwk f (w.within.list.map (fun x => (x, d + 1)) ++ r)) = some b := h
    split at h
    · have := Option.some.inj h
      omega
    · exact cwk_le f _ b (by omega) h
/-- what check_work says of a work -/
def bwk (w : W) : Option Nat := cwk 60 [(w, 1)]
theorem bwk_none {m : Nat} {w : W} (h : w.Can m) : bwk w = none ↔ WOk m w := by
  unfold bwk
  rw [cwk_none, wsz_cons]
  refine ⟨fun h2 => ⟨h, by have := h2.1; dsimp only at this; omega, by have := h2.2 (w, 1) (List.mem_cons_self ..); dsimp only at this; omega⟩, fun h2 => ⟨by have := h2.siz; show w.siz + 0 ≤ 60; omega, fun x hx => ?_⟩⟩
  rw [List.mem_singleton.mp hx]
  have := h2.dep
  show 1 + w.dep ≤ 9
  omega
/-! ### promises -/
def spFig : Sp := fun vs H Q _ => ∃ (t : List Nat) (pl : Nat), vs = [.str (tx t), .int (pl : Int)] ∧ t.length ≤ 600 ∧ giv (.bl (figAt t pl)) H Q
def badPl (D : Addr) (b : Nat) (H : Hp) (E : XK) : Prop := ∀ d H2, Same H H2 → H2 d = some (.xd [("place", .int (b : Int))]) → E (.ref D) (some d) H2
def badNo (D : Addr) (b : Nat) (H : Hp) (E : XK) : Prop := ∀ d H2, Same H H2 → H2 d = some (.xd [("number", .int (b : Int))]) → E (.ref D) (some d) H2
def spBeh (D : Addr) : Sp := fun vs H Q E => ∃ (t : List Nat) (st : Nat), vs = [.str (tx t), .int (st : Int)] ∧ st ≤ t.length ∧ t.length ≤ 600 ∧ match numAt t st with
  | .inl b => badPl D b H E
  | .inr pl' => giv (.int (pl' : Int)) H Q
def spWStep : Sp := fun vs H Q _ => ∃ c : Nat, vs = [.str (tx [c])] ∧ ∀ H' u, Same H H' → WAt H' (stp c) u → Q u H'
def spWText (D : Addr) : Sp := fun vs H Q E => ∃ (v : V) (p : Pl) (t : List Nat), vs = [v, .str (tx t)] ∧ PlanAt H v p ∧ p.Ok ∧ t.length ≤ 600 ∧ match prs p.many t [] [] 0 with
  | .inl b => badPl D b H E
  | .inr w => ∀ H' u, Same H H' → WAt H' w u → Q u H'
def spTextW (n : Nat) : Sp := fun vs H Q _ => ∃ (u : V) (w : W) (many : Nat), vs = [u] ∧ WAt H w u ∧ (w : W).Can many ∧ w.dep ≤ n ∧ w.siz ≤ 100 ∧ giv (.str (tx w.txt)) H Q
theorem no_spTextW : ∀ vs H Q E, ¬ spTextW 0 vs H Q E := by
  rintro vs H Q E ⟨u, w, many, rfl, hw, hc, hd, _⟩
  have := W.dep_pos w
  omega
theorem numL_few {n : Nat} (h : n ≤ 1000000000000000000) : (TL.numL n).length ≤ 19 := TL.numL_len (by decide) (Nat.lt_of_le_of_lt h (by decide))
mutual
theorem W.txt_len {m : Nat} : ∀ w : W, w.Can m → w.txt.length ≤ 22 * w.siz
  | .push _, _ => by show 1 ≤ 22 * 1; decide
  | .pop, _ => by show 1 ≤ 22 * 1; decide
  | .row ws, h => by
    have := Ws.txt_len ws h.2
    show ws.txt.length ≤ 22 * (1 + ws.siz)
    omega
  | .times n w, h => by
    have h1 := W.txt_len w h.2
    have h2 := numL_few h.1
    show (91 :: (w.txt ++ 93 :: TL.numL n)).length ≤ 22 * (1 + w.siz)
    rw [List.length_cons, List.length_append, List.length_cons]
    omega
theorem Ws.txt_len {m : Nat} : ∀ ws : Ws, ws.Can m → ws.txt.length ≤ 22 * ws.siz
  | .nil, _ => Nat.zero_le _
  | .cons w r, h => by
    have h1 := W.txt_len w h.1
    have h2 := Ws.txt_len r h.2
    show (w.txt ++ r.txt).length ≤ 22 * (w.siz + r.siz)
    rw [List.length_append]
    omega
end
theorem Ws.txt_list : ∀ ws : Ws, ws.txt = (ws.list.map W.txt).flatten
  | .nil => rfl
  | .cons w r => by
    show w.txt ++ r.txt = ((w :: r.list).map W.txt).flatten
    rw [List.map_cons, List.flatten_cons, Ws.txt_list r]
theorem siz_mem : ∀ {ws : Ws} {w : W}, w ∈ ws.list → w.siz ≤ ws.siz
  | .nil, w, h => by cases h
  | .cons v r, w, h => by
    show w.siz ≤ v.siz + r.siz
    rcases List.mem_cons.mp (show w ∈ v :: r.list from h) with rfl | h
    · omega
    · have := siz_mem h
      omega
def spWritten : Sp := fun vs H Q _ => ∃ (v : V) (p : Pl) (u : V) (w : W), vs = [v, u] ∧ PlanAt H v p ∧ p.Ok ∧ WAt H w u ∧ WOk p.many w ∧ giv (.str (tx w.txt)) H Q
def spChWorkX (D : Addr) : Sp := fun vs H Q E => ∃ (v : V) (p : Pl) (u : V) (w : W), vs = [v, u] ∧ PlanAt H v p ∧ p.Ok ∧ WAt H w u ∧ w.Can p.many ∧ match bwk w with
  | some b => badNo D b H E
  | none => giv .non H Q
def spToldX (D : Addr) : Sp := fun vs H Q E => ∃ (v : V) (p : Pl) (u : V) (w : W), vs = [v, u] ∧ PlanAt H v p ∧ p.Ok ∧ WAt H w u ∧ w.Can p.many ∧ match bwk w with
  | some b => badNo D b H E
  | none => givT (w.tri p.room) H Q
def spReadX (D6 D8 : Addr) : Sp := fun vs H Q E => ∃ (v : V) (p : Pl) (t : List Nat), vs = [v, .str (tx t)] ∧ PlanAt H v p ∧ p.Ok ∧ t.length ≤ 600 ∧ match prs p.many t [] [] 0 with
  | .inl b => badPl D6 b H E
  | .inr w => match bwk w with
    | some b => badNo D8 b H E
    | none => ∀ H' u, Same H H' → WAt H' w u → Q u H'
/-! ### one lambda told of -/
theorem subAdd {H : Hp} {cs : Cs} (f : Off H cs) : subC (addC H cs) cs = H := by
  funext b
  cases h : cs.lookup b with
  | some o => rw [subC_at h, f b o h]
  | none => rw [subC_ne h, addC_ne h]
theorem tellL {X : Cx} {k : Nat} {fr : List Str} {H : Hp} {f : Addr} {tb : XK → TE} {σ : L2.St} {cs : Cs} {Q : VK} {is : Nat → Prop} {ns : Nine} (G : LamG X k fr H f tb) (okc : X.Ok) (hlc : σ.length = X.N.length) (C : CsIs X.env.cells X.N fr σ cs H)
    (h : ∀ (H1 : Hp) (E' : XK) (Q' : VK), Same H H1 → (∀ (i : Nat) (wd : Str) (v : Int) (d : Option Addr) (H2 : Hp), is i → i < 9 → nineN[i]? = some wd → Fld i d v H2 → (∀ (H3 : Hp) (p : Addr), Same H2 H3 → H3 p = some (.tup [.str wd, .int v]) → Q (.ref p) H3) → E' (.ref (nAt ns i)) d H2) → (∀ v H2, Q v H2 → Q' v H2) → tb E' σ H1 Q') :
    spToldL X.prog X.w X.K X.mg X.base (k + 1) is ns [.ref f] (addC H cs) (fun v H2 => On H2 cs ∧ Q v (subC H2 cs)) C8.E0 := by
  obtain ⟨F, hL, _⟩ := id G
  refine ⟨f, F, _, rfl, (Same.toAdd C.off) _ _ hL.fn, G.at okc hlc C, ?_⟩
  refine h (subC (addC H cs) cs) _ _ (Same.sub C.off (Same.refl _)) (fun i wd v d H2 h1 h2 h3 h4 h5 off => ⟨i, wd, v, h1, h2, h3, rfl, h4.add off, fun H3 p s3 hp => ?_⟩) (fun v H2 hq off => ⟨On.add, by rw [subAdd off]; exact hq⟩)
  have on3 : On H3 cs := On.add.same s3
  refine ⟨on3, h5 _ p (Same.sub off s3) ?_⟩
  rw [subC_ne (on3.not hp fun o => cellO_tup)]
  exact hp
/-! ### alike works -/
mutual
theorem alk_w {H : Hp} : ∀ {w : W} {u v : V} {n : Nat}, 2 * w.dep + 1 ≤ n → w.siz ≤ 10000 → WAt H w u → WAt H w v → Alk H n u v
  | .push c, u, v, n + 1, hn, _, ⟨a, hu, ha⟩, ⟨b, hv, hb⟩ => by
    subst hu hv
    refine .inr ⟨a, b, _, _, rfl, rfl, .inl ⟨ha, hb⟩, rfl, by show 2 ≤ 10000; decide, fun i x y e1 e2 => ?_⟩
    have e : x = y := Option.some.inj (e1.symm.trans e2)
    subst e
    match n, hn, i, e1 with
    | n + 1, _, 0, e1 => cases e1; exact .inl ⟨rfl, trivial⟩
    | n + 1, _, 1, e1 => cases e1; exact .inl ⟨rfl, trivial⟩
    | 0, hn, _, _ => exact absurd hn (by show ¬ 2 * 1 + 1 ≤ 0 + 1; decide)
  | .pop, u, v, n + 1, hn, _, ⟨a, hu, ha⟩, ⟨b, hv, hb⟩ => by
    subst hu hv
    refine .inr ⟨a, b, _, _, rfl, rfl, .inl ⟨ha, hb⟩, rfl, by show 1 ≤ 10000; decide, fun i x y e1 e2 => ?_⟩
    have e : x = y := Option.some.inj (e1.symm.trans e2)
    subst e
    match n, hn, i, e1 with
    | n + 1, _, 0, e1 => cases e1; exact .inl ⟨rfl, trivial⟩
    | 0, hn, _, _ => exact absurd hn (by show ¬ 2 * 1 + 1 ≤ 0 + 1; decide)
  | .times m w, u, v, n + 1, hn, hs, ⟨a, x, hu, ha, hx⟩, ⟨b, y, hv, hb, hy⟩ => by
    subst hu hv
    have hd : (W.times m w).dep = 1 + w.dep := rfl
    have hz : (W.times m w).siz = 1 + w.siz := rfl
    have hp := W.dep_pos w
    refine .inr ⟨a, b, _, _, rfl, rfl, .inl ⟨ha, hb⟩, rfl, by show 3 ≤ 10000; decide, fun i x y e1 e2 => ?_⟩
    match n, hn, i, e1, e2 with
    | n + 1, _, 0, e1, e2 => cases e1; cases e2; exact .inl ⟨rfl, trivial⟩
    | n + 1, _, 1, e1, e2 => cases e1; cases e2; exact .inl ⟨rfl, trivial⟩
    | n, hn, 2, e1, e2 => cases e1; cases e2; exact alk_w (by omega) (by omega) hx hy
    | 0, hn, _, _, _ => omega
  | .row ws, u, v, n + 1, hn, hs, ⟨a, a2, xs, hu, ha, ha2, hx⟩, ⟨b, b2, ys, hv, hb, hb2, hy⟩ => by
    subst hu hv
    have hd : (W.row ws).dep = 1 + ws.dep := rfl
    have hz : (W.row ws).siz = 1 + ws.siz := rfl
    obtain ⟨h1, h2, h3⟩ := alk_ws (n := n - 1) (by omega) (by omega) hx hy
    refine .inr ⟨a, b, _, _, rfl, rfl, .inl ⟨ha, hb⟩, rfl, by show 2 ≤ 10000; decide, fun i x y e1 e2 => ?_⟩
    match n, hn, i, e1, e2, h3 with
    | n + 1, _, 0, e1, e2, _ => cases e1; cases e2; exact .inl ⟨rfl, trivial⟩
    | n + 1, _, 1, e1, e2, h3 => cases e1; cases e2; exact .inr ⟨a2, b2, xs, ys, rfl, rfl, .inl ⟨ha2, hb2⟩, h1, by omega, h3⟩
    | 0, hn, _, _, _, _ => omega
  | w, u, v, 0, hn, _, _, _ => by omega
theorem alk_ws {H : Hp} : ∀ {ws : Ws} {xs ys : List V} {n : Nat}, 2 * ws.dep + 1 ≤ n → ws.siz ≤ 9999 → WsAt H ws xs → WsAt H ws ys → xs.length = ys.length ∧ ys.length ≤ ws.siz ∧ ∀ (i : Nat) (x y : V), xs[i]? = some x → ys[i]? = some y → Alk H n x y
  | .nil, xs, ys, n, _, _, hx, hy => by
    cases hx
    cases hy
    exact ⟨rfl, Nat.zero_le _, fun i x y e => by cases e⟩
  | .cons w r, xs, ys, n, hn, hs, ⟨x, s, hx, h1, h2⟩, ⟨y, t, hy, h3, h4⟩ => by
    subst hx hy
    have hd : (Ws.cons w r).dep = max w.dep r.dep := rfl
    have hz : (Ws.cons w r).siz = w.siz + r.siz := rfl
    have hp := W.siz_pos w
    obtain ⟨k1, k2, k3⟩ := alk_ws (n := n) (by omega) (by omega) h2 h4
    refine ⟨by rw [List.length_cons, List.length_cons, k1], by rw [List.length_cons]; omega, fun i a b e1 e2 => ?_⟩
    match i, e1, e2 with
    | 0, e1, e2 =>
      cases e1
      cases e2
      exact alk_w (by omega) (by omega) h1 h3
    | i + 1, e1, e2 => exact k3 i a b e1 e2
end
theorem prs_row {m : Nat} : ∀ (k : Nat) (r : List Nat) (cur : List W) (outs : List (List W)) (pl : Nat), r.length ≤ k → ∀ w, pr m k r cur outs pl = .inr w → ∃ ws, w = .row ws := by
  intro k
  induction k with
  | zero =>
    intro r cur outs pl hk w hw
    have e := List.length_eq_zero_iff.mp (Nat.le_zero.mp hk)
    subst e
    have hw : (if outs = [] then Sum.inr (W.row (ofL cur)) else Sum.inl pl) = Sum.inr w := hw
    split at hw
    · exact ⟨_, (Sum.inr.inj hw).symm⟩
    · cases hw
  | succ k ih =>
    intro r cur outs pl hk w hw
    cases r with
    | nil =>
      have hw : (if outs = [] then Sum.inr (W.row (ofL cur)) else Sum.inl pl) = Sum.inr w := hw
      split at hw
      · exact ⟨_, (Sum.inr.inj hw).symm⟩
      · cases hw
    | cons c r =>
      have hk' : r.length ≤ k := Nat.le_of_succ_le_succ hk
      unfold pr at hw
      split at hw
      · exact ih r _ outs _ hk' w hw
      · split at hw
        · exact ih r [] (cur :: outs) _ hk' w hw
        · split at hw
          · cases outs with
            | nil => cases hw
            | cons o os =>
              dsimp only at hw
              cases hn : nums r [] (pl + 1) with
              | inl b =>
                rw [hn] at hw
                cases hw
              | inr x =>
                obtain ⟨w', r', pl'⟩ := x
                rw [hn] at hw
                dsimp only at hw
                split at hw
                · cases hw
                · exact ih r' _ os _ (Nat.le_trans (nums_len _ _ _ hn).1 hk') w hw
          · cases hw
/-- what the law waits for -/
def DueAt (H : Hp) (m : Nat) (t : List Nat) (d : V) : Prop := match prs m t [] [] 0 with
  | .inl b => ∃ T, d = .ref T ∧ H T = some (.tup [.str "BadText", .int (b : Int)])
  | .inr w => match bwk w with
    | some b => ∃ T, d = .ref T ∧ H T = some (.tup [.str "BadWork", .int (b : Int)])
    | none => WAt H w d
theorem DueAt.tups {H H' : Hp} {m : Nat} {t : List Nat} {d : V} (h : DueAt H m t d) (s : Tups H H') : DueAt H' m t d := by
  unfold DueAt at h ⊢
  cases hp : prs m t [] [] 0 with
  | inl b =>
    rw [hp] at h
    obtain ⟨T, e, h⟩ := h
    exact ⟨T, e, s _ _ h⟩
  | inr w =>
    rw [hp] at h
    dsimp only at h ⊢
    cases hb : bwk w with
    | some b =>
      rw [hb] at h
      obtain ⟨T, e, h⟩ := h
      exact ⟨T, e, s _ _ h⟩
    | none =>
      rw [hb] at h
      exact WAt.tups s h
theorem tx_of (z : Str) : z = tx z.cps.toList := by
  cases z
  simp [tx]
theorem cut_fromA (l : List Nat) (n : Nat) : cutS (tx l) (some (n : Int)) none = tx (l.drop n) := by
  by_cases h : n ≤ l.length
  · exact cut_from h
  · rw [cut_tx, HT.sIx_none, HT.sIx_nat, Nat.min_eq_right (by omega), List.drop_eq_nil_of_le (Nat.le_refl l.length), List.drop_eq_nil_of_le (show l.length ≤ n by omega)]
    simp
theorem atI_some {α : Type} {xs : List α} {r : Int} (h0 : 0 ≤ r) (h1 : r < (xs.length : Int)) : ∃ c, atI xs r = some c := by
  obtain ⟨n, rfl⟩ : ∃ n : Nat, r = (n : Int) := ⟨r.toNat, by omega⟩
  exact ⟨xs[n]'(by omega), atI_nat (List.getElem?_eq_getElem (by omega))⟩
theorem alk_si13 {H : Hp} {n : Nat} {a b : Addr} {w : Str} {i : Int} (ha : H a = some (.tup [.str w, .int i])) (hb : H b = some (.tup [.str w, .int i])) : Alk H (n + 2) (.ref a) (.ref b) := by
  refine .inr ⟨a, b, _, _, rfl, rfl, .inl ⟨ha, hb⟩, rfl, by show 2 ≤ 10000; decide, fun j x y e1 e2 => ?_⟩
  have e : x = y := Option.some.inj (e1.symm.trans e2)
  subst e
  match j, e1 with
  | 0, e1 => cases e1; exact .inl ⟨rfl, trivial⟩
  | 1, e1 => cases e1; exact .inl ⟨rfl, trivial⟩
theorem s_bt_ro : ("BadText" : Str) ≠ "row" := by decide +kernel
theorem tellR {X : Cx} {k : Nat} {fr : List Str} {H : Hp} {f : Addr} {tb : XK → TE} {σ : L2.St} {cs : Cs} {R : VK} {is : Nat → Prop} {ns : Nine} (G : LamG X k fr H f tb) (okc : X.Ok) (hlc : σ.length = X.N.length) (C : CsIs X.env.cells X.N fr σ cs H)
    (h : ∀ (H1 : Hp) (E' : XK) (Q' : VK), Same H H1 → (∀ (i : Nat) (wd : Str) (v : Int) (d : Option Addr) (H2 : Hp), is i → i < 9 → nineN[i]? = some wd → Fld i d v H2 → (∀ (H3 : Hp) (p : Addr) (H4 : Hp), Same H2 H3 → H3 p = some (.tup [.str wd, .int v]) → On H4 cs → subC H4 cs = H3 → R (.ref p) H4) → E' (.ref (nAt ns i)) d H2) → (∀ v H2, (∀ H4, On H4 cs → subC H4 cs = H2 → R v H4) → Q' v H2) → tb E' σ H1 Q') :
    spToldL X.prog X.w X.K X.mg X.base (k + 1) is ns [.ref f] (addC H cs) R C8.E0 := by
  obtain ⟨F, hL, _⟩ := id G
  refine ⟨f, F, _, rfl, (Same.toAdd C.off) _ _ hL.fn, G.at okc hlc C, ?_⟩
  refine h (subC (addC H cs) cs) _ _ (Same.sub C.off (Same.refl _)) (fun i wd v d H2 h1 h2 h3 h4 h5 off => ⟨i, wd, v, h1, h2, h3, rfl, h4.add off, fun H3 p s3 hp => ?_⟩) (fun v H2 hq off => hq _ On.add (subAdd off))
  have on3 : On H3 cs := On.add.same s3
  refine h5 _ p H3 (Same.sub off s3) ?_ on3 rfl
  rw [subC_ne (on3.not hp fun o => cellO_tup)]
  exact hp
end SK
namespace SK
open PySem PySem.Spec PyProof.Rows L2 LamX
/-! ### asked again (row 14) -/
/-- what raises nothing is let through anywhere -/
theorem passE0 {P : Program} {w : World} {X : Cx} : Passes (L2.CX P w) X C8.E0 := fun _ _ _ _ _ _ _ ⟨_, _, _, _, _, _, _, _, _, _, _, _, h⟩ => h.elim
/-- another machine's deeds leave this one -/
theorem MAt.other {C : Addr} {H H' : Hp} {x pa y pb : Addr} {m n : MS} (M : MAt C H x pa m) (N : MAt C H y pb n) (k : Keep y pb H H') (h1 : x ≠ y) (h2 : pa ≠ pb) : MAt C H' x pa m := by
  have hxp : x ≠ pb := by
    obtain ⟨dx, pv, tv, h, _⟩ := M.ob
    obtain ⟨xs, h3, _⟩ := N.pl
    exact ne_of h h3 (by intro z; cases z)
  have hpy : pa ≠ y := by
    obtain ⟨dx, pv, tv, h, _⟩ := N.ob
    obtain ⟨xs, h3, _⟩ := M.pl
    exact ne_of h3 h (by intro z; cases z)
  exact M.tupsL (k.tupsM N) (fun o e => k _ _ e h1 hxp) (fun o e => k _ _ e hpy h2)
/-- one by one -/
def Each (Rs : List (Hp → V → Prop)) (H : Hp) (xs : List V) : Prop := xs.length = Rs.length ∧ ∀ (i : Nat) (R : Hp → V → Prop) (x : V), Rs[i]? = some R → xs[i]? = some x → R H x
theorem Each.one {R : Hp → V → Prop} {Rs : List (Hp → V → Prop)} {H : Hp} {x : V} {xs : List V} (h : R H x) (t : Each Rs H xs) : Each (R :: Rs) H (x :: xs) := by
  refine ⟨by rw [List.length_cons, List.length_cons, t.1], fun i R' y e1 e2 => ?_⟩
  match i, e1, e2 with
  | 0, e1, e2 => cases e1; cases e2; exact h
  | i + 1, e1, e2 => exact t.2 i R' y e1 e2
theorem Each.nil {H : Hp} : Each [] H [] := ⟨rfl, fun i R x e => by cases e⟩
theorem Each.map {Rs : List (Hp → V → Prop)} {H H' : Hp} {xs : List V} (h : Each Rs H xs) (t : ∀ R ∈ Rs, ∀ x, R H x → R H' x) : Each Rs H' xs :=
  ⟨h.1, fun i R x e1 e2 => t R (List.mem_of_getElem? e1) x (h.2 i R x e1 e2)⟩
/-- two lists of the same are alike -/
theorem alk_each {Rs : List (Hp → V → Prop)} {H : Hp} {a b : Addr} {xs ys : List V} {n : Nat} (ha : H a = some (.lst xs)) (hb : H b = some (.lst ys)) (hx : Each Rs H xs) (hy : Each Rs H ys) (hl : Rs.length ≤ 10000) (t : ∀ R ∈ Rs, ∀ x y, R H x → R H y → Alk H n x y) : Alk H (n + 1) (.ref a) (.ref b) := by
  refine .inr ⟨a, b, xs, ys, rfl, rfl, .inr ⟨ha, hb⟩, hx.1.trans hy.1.symm, by rw [hy.1]; exact hl, fun i x y e1 e2 => ?_⟩
  have hi : i < Rs.length := by
    rw [← hx.1]
    exact (List.getElem?_eq_some_iff.mp e1).1
  have hR : Rs[i]? = some Rs[i] := List.getElem?_eq_getElem hi
  exact t _ (List.mem_of_getElem? hR) x y (hx.2 i _ x hR e1) (hy.2 i _ y hR e2)
/-- plain answers -/
def IsV (v : V) : Hp → V → Prop := fun _ x => x = v
theorem alk_isV {H : Hp} {n : Nat} {v x y : V} (sc : Sc v) (hx : IsV v H x) (hy : IsV v H y) : Alk H (n + 1) x y := by
  cases hx
  cases hy
  exact .inl ⟨rfl, sc⟩
/-- whether two works are alike -/
def IsAl (p : Pl) (a b : W) : Hp → V → Prop := fun _ x => ∃ k : Bool, x = .bl k ∧ (k = true ↔ a.tri p.room = b.tri p.room)
theorem alk_isAl {H : Hp} {n : Nat} {p : Pl} {a b : W} {x y : V} (hx : IsAl p a b H x) (hy : IsAl p a b H y) : Alk H (n + 1) x y := by
  obtain ⟨k, rfl, h1⟩ := hx
  obtain ⟨k2, rfl, h2⟩ := hy
  have e : k = k2 := Bool.eq_iff_iff.mpr (h1.trans h2.symm)
  subst e
  exact .inl ⟨rfl, trivial⟩
/-- the least stack that parts them -/
def IsPart (p : Pl) (a b : W) : Hp → V → Prop := fun _ x =>
  (∃ s : Nat, x = .str (tx (List.replicate s 97)) ∧ s ≤ p.room ∧ tby (a.tri p.room) (List.replicate s 97) ≠ tby (b.tri p.room) (List.replicate s 97) ∧ ∀ s', s' < s → tby (a.tri p.room) (List.replicate s' 97) = tby (b.tri p.room) (List.replicate s' 97)) ∨
  (x = .non ∧ ∀ s, s ≤ p.room → tby (a.tri p.room) (List.replicate s 97) = tby (b.tri p.room) (List.replicate s 97))
theorem alk_isPart {H : Hp} {n : Nat} {p : Pl} {a b : W} {x y : V} (hx : IsPart p a b H x) (hy : IsPart p a b H y) : Alk H (n + 1) x y := by
  rcases hx with ⟨s, rfl, h1, h2, h3⟩ | ⟨rfl, h1⟩
  · rcases hy with ⟨s', rfl, k1, k2, k3⟩ | ⟨rfl, k1⟩
    · have e : s = s' := by
        rcases Nat.lt_trichotomy s s' with h | h | h
        · exact absurd (k3 s h) h2
        · exact h
        · exact absurd (h3 s' h) k2
      subst e
      exact .inl ⟨rfl, trivial⟩
    · exact absurd (k1 s h1) h2
  · rcases hy with ⟨s', rfl, k1, k2, k3⟩ | ⟨rfl, k1⟩
    · exact absurd (h1 s' k1) k2
    · exact .inl ⟨rfl, trivial⟩
/-- a list of pairs -/
def IsPs (ps : Prs) : Hp → V → Prop := fun H x => ∃ (b : Addr) (xs : List V), x = .ref b ∧ H b = some (.lst xs) ∧ PsAt H ps xs
theorem alk_isPs {H : Hp} {n : Nat} {ps : Prs} {x y : V} (hl : ps.length ≤ 10000) (hx : IsPs ps H x) (hy : IsPs ps H y) : Alk H (n + 3) x y := by
  obtain ⟨a, xs, rfl, ha, h1⟩ := hx
  obtain ⟨b, ys, rfl, hb, h2⟩ := hy
  refine .inr ⟨a, b, xs, ys, rfl, rfl, .inr ⟨ha, hb⟩, h1.len.trans h2.len.symm, by rw [h2.len]; exact hl, fun i x y e1 e2 => ?_⟩
  obtain ⟨q, c, f1, rfl, f3⟩ := h1.at_ i x e1
  obtain ⟨q', d, g1, rfl, g3⟩ := h2.at_ i y e2
  have e : q = q' := Option.some.inj (f1.symm.trans g1)
  subst e
  refine .inr ⟨c, d, _, _, rfl, rfl, .inl ⟨f3, g3⟩, rfl, by show 2 ≤ 10000; decide, fun j u v e1 e2 => ?_⟩
  have e : u = v := Option.some.inj (e1.symm.trans e2)
  subst e
  match j, e1 with
  | 0, e1 => cases e1; exact .inl ⟨rfl, trivial⟩
  | 1, e1 => cases e1; exact .inl ⟨rfl, trivial⟩
theorem MAt.ext {C : Addr} {H H' : Hp} {x pa : Addr} {m : MS} (M : MAt C H x pa m) (e : ExtN H H') : MAt C H' x pa m := by
  obtain ⟨dx, pv, tv, h, _⟩ := id M.ob
  obtain ⟨xs, h2, _⟩ := id M.pl
  exact M.tupsL (Tups.ofN e) (fun o h' => e _ _ h' (by rw [Option.some.inj (h'.symm.trans h)]; intro ps z; cases z)) (fun o h' => e _ _ h' (by rw [Option.some.inj (h'.symm.trans h2)]; intro ps z; cases z))
/-- a list of pairs at a place that F tells -/
def IsPsF (F : Addr → Prop) (ps : Prs) : Hp → V → Prop := fun H x => ∃ (b : Addr) (xs : List V), x = .ref b ∧ F b ∧ H b = some (.lst xs) ∧ PsAt H ps xs
theorem IsPsF.ps {F : Addr → Prop} {ps : Prs} {H : Hp} {x : V} (h : IsPsF F ps H x) : IsPs ps H x := by
  obtain ⟨b, xs, e, _, h1, h2⟩ := h
  exact ⟨b, xs, e, h1, h2⟩
/-- the 25 things, in turn -/
def asksR (F : Addr → Prop) (p : Pl) (wk : W) (t : Tr) (l : List Nat) (ps : Prs) (m : MS) : List (Hp → V → Prop) :=
  [fun H x => TripAt H x (wk.tri p.room), IsV (.str (tx (tby (wk.tri p.room) l))), IsV (.int (wk.prc (cst p))), fun H x => TripAt H x (ttold p.room (chS p t)), IsV (.str (tx (chS p t))),
    fun H x => TripAt H x (tjoin t (wk.tri p.room)), fun H x => TripAt H x (tpw p.room t 3), IsV (.str (tx (tby t l))), IsV (.int ((tally p.room p.many : Nat) : Int)),
    IsAl p wk .pop, IsPart p wk .pop, IsV (.int (few p t)),
    IsV (.int ((chW p t).2 : Int)), IsV (.int (sprc (cst p) (chS p t))), fun H x => BefAt H x (bef p.room p.many t l).length (bef p.room p.many t l).head?,
    fun H x => FitAt H x (fitL p ps), IsV (.int ((nof p.room p.many t : Nat) : Int)),
    fun H x => TripAt H x (tnum p.room p.many 0), IsV (.str (tx wk.txt)), fun H x => WAt H wk.nrm x, IsPsF F ps,
    IsV (.str (tx m.l)), IsV (.int m.z), fun H x => TripAt H x m.t, IsV (.int (m.past.length : Int))]
def spAsks (T : List (Addr × Str)) (C : Addr) : Sp := fun vs H Q _ => ∃ (v : V) (p : Pl) (u : V) (wk : W) (y : V) (t : Tr) (l : List Nat) (D : Addr) (xs : List V) (ps : Prs) (x pa : Addr) (m : MS), vs = [v, u, y, .str (tx l), .ref D, .ref x] ∧ PlanAt H v p ∧ p.Ok ∧
  WAt H wk u ∧ wk.Can p.many ∧ wk.siz ≤ 13 ∧ wk.dep ≤ 3 ∧ TripAt H y t ∧ TrOk p.room p.many t ∧ l.length ≤ p.room ∧ (∀ c ∈ l, c ∈ signs p.many) ∧ H D = some (.lst xs) ∧ PsAt H ps xs ∧ PrsOk p ps ∧ MAt C H x pa m ∧ Tabs T H ∧
  ∀ (R : Addr) (H' : Hp) (ys : List V), ExtN H H' → Tabs T H' → (∀ zs, H R ≠ some (.lst zs)) → H' R = some (.lst ys) → Each (asksR (fun b => ∀ zs, H b ≠ some (.lst zs)) p wk t l ps m) H' ys → Q (.ref R) H'
theorem part_of {H : Hp} {Q : VK} {E : XK} {v a b : V} {p : Pl} {t u : W} (hp : PlanAt H v p) (ok : p.Ok) (ha : WAt H t a) (wa : WOk p.many t) (hb : WAt H u b) (wb : WOk p.many u) (k : ∀ (x : V) (H' : Hp), Same H H' → IsPart p t u H' x → Q x H') : spParting [v, a, b] H Q E :=
  ⟨v, p, a, b, t, u, rfl, hp, ok, ha, wa, hb, wb, fun s H' s1 h1 h2 h3 => k _ H' s1 (.inl ⟨s, rfl, h1, h2, h3⟩), fun H' s1 h1 => k _ H' s1 (.inr ⟨rfl, h1⟩)⟩
theorem BefAt.mono {H H' : Hp} {v : V} {n : Nat} {o : Option (List Nat)} (h : BefAt H v n o) (s : Same H H') : BefAt H' v n o := by
  obtain ⟨a, e, h⟩ := h
  exact ⟨a, e, s _ _ h⟩
theorem BefAt.tups {H H' : Hp} {v : V} {n : Nat} {o : Option (List Nat)} (h : BefAt H v n o) (s : Tups H H') : BefAt H' v n o := by
  obtain ⟨a, e, h⟩ := h
  exact ⟨a, e, s _ _ h⟩
theorem MAt.box {C : Addr} {H H' : Hp} {x pa p q : Addr} {m : MS} {ns : List Int} {z : Int} (M : MAt C H x pa m) (B : BoxAt H p q ns z) (k : Keep p q H H') (f : pa ≠ p ∧ pa ≠ q) : MAt C H' x pa m := by
  obtain ⟨dx, pv, tv, h, _⟩ := id M.ob
  have h1 : x ≠ p := ne_of h B.b (by intro z; cases z)
  have h2 : x ≠ q := ne_of h B.l (by intro z; cases z)
  exact M.tupsL (k.tups B) (fun o e => k _ _ e h1 h2) (fun o e => k _ _ e f.1 f.2)
theorem BoxAt.mach {C : Addr} {H H' : Hp} {x pa p q : Addr} {m : MS} {ns : List Int} {z : Int} (B : BoxAt H p q ns z) (M : MAt C H x pa m) (k : Keep x pa H H') (f : pa ≠ p ∧ pa ≠ q) : BoxAt H' p q ns z := by
  obtain ⟨dx, pv, tv, h, _⟩ := id M.ob
  have h1 : x ≠ p := ne_of h B.b (by intro z; cases z)
  have h2 : x ≠ q := ne_of h B.l (by intro z; cases z)
  exact ⟨k _ _ B.b h1.symm f.1.symm, k _ _ B.l h2.symm f.2.symm, B.ne⟩
theorem alk_fitN {H : Hp} {u w : V} {rs : List Tr} {n : Nat} (hu : FitAt H u rs) (hw : FitAt H w rs) : Alk H (n + 3) u w := by
  obtain ⟨a, rfl, ha⟩ := hu
  obtain ⟨b, rfl, hb⟩ := hw
  rcases ha with ⟨e, ha⟩ | ⟨t, y, e1, hy, ha⟩
  · rcases hb with ⟨_, hb⟩ | ⟨t, y, e1, hy, hb⟩
    · refine .inr ⟨a, b, _, _, rfl, rfl, .inl ⟨ha, hb⟩, rfl, by show 2 ≤ 10000; decide, fun i x y e1 e2 => ?_⟩
      have e : x = y := Option.some.inj (e1.symm.trans e2)
      subst e
      match i, e1 with
      | 0, e1 => cases e1; exact .inl ⟨rfl, trivial⟩
      | 1, e1 => cases e1; exact .inl ⟨rfl, trivial⟩
    · rw [e] at e1
      cases e1
  · rcases hb with ⟨e, _⟩ | ⟨t', y', e1', hy', hb⟩
    · rw [e] at e1
      cases e1
    · have et : t = t' := Option.some.inj (e1.symm.trans e1')
      subst et
      refine .inr ⟨a, b, _, _, rfl, rfl, .inl ⟨ha, hb⟩, rfl, by show 2 ≤ 10000; decide, fun i u w e1 e2 => ?_⟩
      match i, e1, e2 with
      | 0, e1, e2 => cases e1; cases e2; exact .inl ⟨rfl, trivial⟩
      | 1, e1, e2 => cases e1; cases e2; exact alk_trip hy hy'
inductive Imp (H H' : Hp) : List (Hp → V → Prop) → List (Hp → V → Prop) → Prop where
  | nil : Imp H H' [] []
  | cons {R R' : Hp → V → Prop} {Rs Rs' : List (Hp → V → Prop)} (h : ∀ x, R H x → R' H' x) (t : Imp H H' Rs Rs') : Imp H H' (R :: Rs) (R' :: Rs')
theorem Imp.each {H H' : Hp} : ∀ {Rs Rs' : List (Hp → V → Prop)} {xs : List V}, Imp H H' Rs Rs' → Each Rs H xs → Each Rs' H' xs
  | _, _, [], .nil, _ => Each.nil
  | _, _, x :: xs, .nil, e => by cases e.1
  | _, _, [], .cons h t, e => by cases e.1
  | _, _, x :: xs, .cons h t, e => Each.one (h x (e.2 0 _ x rfl rfl)) (t.each ⟨Nat.succ.inj e.1, fun i R y e1 e2 => e.2 (i + 1) R y e1 e2⟩)
end SK
namespace SK
open PySem PySem.Spec PyProof.Rows L2 LamX
/-! ### works with things in them that can't be (row 12): push c with c of 1000 or more stands for such a thing -/
def OddS (y : V) : Prop := y = .non ∨ ∃ l, y = .str (tx l) ∧ ∀ c : Nat, c ∈ [97, 98, 99, 100] → l ≠ [c]
def OddN (y : V) : Prop := y = .bl true ∨ ∃ n : Int, y = .int n ∧ (n < 0 ∨ 1000000000000000000 < n)
def BadT (H : Hp) (xs : List V) : Prop := xs = [] ∨ xs = [.str "push"] ∨ (∃ y, xs = [.str "push", y] ∧ OddS y) ∨ xs = [.str "pop", .int 1] ∨ (∃ b, xs = [.str "row", .ref b] ∧ H b = some (.lst [.str "pop"])) ∨
  (∃ i z, xs = [.str "times", i, z] ∧ OddN i) ∨ (∃ i z y, xs = [.str "times", i, z, y]) ∨ xs = [.str "Pop"]
def BadL (H : Hp) (v : V) : Prop := v = .non ∨ (∃ s, v = .str s) ∨ (∃ a, v = .ref a ∧ H a = some (.lst [.str "pop"])) ∨ ∃ a xs, v = .ref a ∧ H a = some (.tup xs) ∧ BadT H xs
mutual
def XAt (H : Hp) : W → V → Prop
  | .push c, v => (1000 ≤ c ∧ BadL H v) ∨ (c < 1000 ∧ ∃ a, v = .ref a ∧ H a = some (.tup [.str "push", .str (tx [c])]))
  | .pop, v => ∃ a, v = .ref a ∧ H a = some (.tup [.str "pop"])
  | .row ws, v => ∃ a b vs, v = .ref a ∧ H a = some (.tup [.str "row", .ref b]) ∧ H b = some (.tup vs) ∧ XsAt H ws vs
  | .times n w, v => ∃ a u, v = .ref a ∧ H a = some (.tup [.str "times", .int (n : Int), u]) ∧ XAt H w u
def XsAt (H : Hp) : Ws → List V → Prop
  | .nil, vs => vs = []
  | .cons w r, vs => ∃ v s, vs = v :: s ∧ XAt H w v ∧ XsAt H r s
end
mutual
def W.XCan (many : Nat) : W → Prop
  | .push c => 1000 ≤ c ∨ c ∈ signs many
  | .pop => True
  | .row ws => ws.len ≤ 1000 ∧ ws.XCan many
  | .times n w => n ≤ 1000000000000000000 ∧ w.XCan many
def Ws.XCan (many : Nat) : Ws → Prop
  | .nil => True
  | .cons w r => w.XCan many ∧ r.XCan many
end
/-- what tuples and odd lists a step keeps -/
structure Nice (H H' : Hp) : Prop where
  t : Tups H H'
  l : ∀ b, H b = some (.lst [.str "pop"]) → H' b = some (.lst [.str "pop"])
theorem Nice.of {H H' : Hp} (s : Same H H') : Nice H H' := ⟨Tups.of s, fun b e => s b _ e⟩
theorem Nice.ext {H H' : Hp} (s : ExtN H H') : Nice H H' := ⟨Tups.ofN s, fun b e => s b _ e (by intro ps z; cases z)⟩
theorem Nice.keep {p q : Addr} {H H' : Hp} {ns : List Int} {z : Int} (k : Keep p q H H') (B : BoxAt H p q ns z) : Nice H H' := ⟨k.tups B, fun b e => by
  refine k b _ e (fun h => ?_) (fun h => ?_)
  · rw [h, B.b] at e
    cases e
  · rw [h, B.l] at e
    cases ns with
    | nil => cases e
    | cons n r => cases e⟩
theorem Nice.trans {H H1 H2 : Hp} (a : Nice H H1) (b : Nice H1 H2) : Nice H H2 := ⟨a.t.trans b.t, fun c e => b.l c (a.l c e)⟩
theorem Nice.refl (H : Hp) : Nice H H := ⟨Tups.refl H, fun _ e => e⟩
theorem BadT.nice {H H' : Hp} {xs : List V} (n : Nice H H') (h : BadT H xs) : BadT H' xs := by
  rcases h with h | h | h | h | ⟨b, e, h⟩ | h | h | h
  · exact .inl h
  · exact .inr (.inl h)
  · exact .inr (.inr (.inl h))
  · exact .inr (.inr (.inr (.inl h)))
  · exact .inr (.inr (.inr (.inr (.inl ⟨b, e, n.l _ h⟩))))
  · exact .inr (.inr (.inr (.inr (.inr (.inl h)))))
  · exact .inr (.inr (.inr (.inr (.inr (.inr (.inl h))))))
  · exact .inr (.inr (.inr (.inr (.inr (.inr (.inr h))))))
theorem BadL.nice {H H' : Hp} {v : V} (n : Nice H H') (h : BadL H v) : BadL H' v := by
  rcases h with h | h | ⟨a, e, h⟩ | ⟨a, xs, e, h, b⟩
  · exact .inl h
  · exact .inr (.inl h)
  · exact .inr (.inr (.inl ⟨a, e, n.l _ h⟩))
  · exact .inr (.inr (.inr ⟨a, xs, e, n.t _ _ h, b.nice n⟩))
mutual
theorem XAt.nice {H H' : Hp} (e : Nice H H') : ∀ {w : W} {v : V}, XAt H w v → XAt H' w v
  | .push c, v, h => by
    rcases h with ⟨hc, h⟩ | ⟨hc, a, h1, h2⟩
    · exact .inl ⟨hc, h.nice e⟩
    · exact .inr ⟨hc, a, h1, e.t _ _ h2⟩
  | .pop, v, h => by
    obtain ⟨a, h1, h2⟩ := h
    exact ⟨a, h1, e.t _ _ h2⟩
  | .row ws, v, h => by
    obtain ⟨a, b, vs, h1, h2, h3, h4⟩ := h
    exact ⟨a, b, vs, h1, e.t _ _ h2, e.t _ _ h3, XsAt.nice e h4⟩
  | .times n w, v, h => by
    obtain ⟨a, u, h1, h2, h3⟩ := h
    exact ⟨a, u, h1, e.t _ _ h2, XAt.nice e h3⟩
theorem XsAt.nice {H H' : Hp} (e : Nice H H') : ∀ {ws : Ws} {vs : List V}, XsAt H ws vs → XsAt H' ws vs
  | .nil, vs, h => h
  | .cons w r, vs, h => by
    obtain ⟨v, s, h1, h2, h3⟩ := h
    exact ⟨v, s, h1, XAt.nice e h2, XsAt.nice e h3⟩
end
theorem XAt.mono {H H' : Hp} {w : W} {v : V} (h : XAt H w v) (s : Same H H') : XAt H' w v := h.nice (Nice.of s)
theorem XAt.ext {H H' : Hp} {w : W} {v : V} (h : XAt H w v) (s : ExtN H H') : XAt H' w v := h.nice (Nice.ext s)
theorem XsAt.len {H : Hp} : ∀ {ws : Ws} {vs : List V}, XsAt H ws vs → vs.length = ws.list.length
  | .nil, vs, h => by
    cases h
    rfl
  | .cons w r, vs, h => by
    obtain ⟨v, s, rfl, h2, h3⟩ := h
    show s.length + 1 = r.list.length + 1
    rw [h3.len]
theorem XsAt.get {H : Hp} : ∀ {ws : Ws} {vs : List V}, XsAt H ws vs → ∀ {i : Nat} {x : V}, vs[i]? = some x → ∃ w, ws.list[i]? = some w ∧ XAt H w x
  | .nil, vs, h, i, x, e => by
    cases h
    cases e
  | .cons w r, vs, h, i, x, e => by
    obtain ⟨v, s, rfl, h2, h3⟩ := h
    cases i with
    | zero =>
      cases e
      exact ⟨w, rfl, h2⟩
    | succ i => exact h3.get (i := i) e
theorem Ws.xcan_mem {many : Nat} : ∀ {ws : Ws} {w : W}, ws.XCan many → w ∈ ws.list → w.XCan many
  | .nil, w, _, h => by cases h
  | .cons w' r, w, c, h => by
    rcases List.mem_cons.mp h with h | h
    · subst h
      exact c.1
    · exact Ws.xcan_mem c.2 h
/-- a work of the plan is such a tree -/
theorem sign_small {m c : Nat} (h : c ∈ signs m) : c < 1000 := by
  have h2 : c ∈ ([97, 98, 99, 100] : List Nat) := List.mem_of_mem_take h
  have : c = 97 ∨ c = 98 ∨ c = 99 ∨ c = 100 := by simpa using h2
  omega
mutual
theorem XAt.of {H : Hp} {m : Nat} : ∀ {w : W} {v : V}, WAt H w v → w.Can m → XAt H w v ∧ w.XCan m
  | .push c, v, h, hc => ⟨.inr ⟨sign_small hc, h⟩, .inr hc⟩
  | .pop, v, h, _ => ⟨h, trivial⟩
  | .row ws, v, h, hc => by
    obtain ⟨a, b, vs, h1, h2, h3, h4⟩ := h
    have r := XsAt.of h4 hc.2
    exact ⟨⟨a, b, vs, h1, h2, h3, r.1⟩, hc.1, r.2⟩
  | .times n w, v, h, hc => by
    obtain ⟨a, u, h1, h2, h3⟩ := h
    have r := XAt.of h3 hc.2
    exact ⟨⟨a, u, h1, h2, r.1⟩, hc.1, r.2⟩
theorem XsAt.of {H : Hp} {m : Nat} : ∀ {ws : Ws} {vs : List V}, WsAt H ws vs → ws.Can m → XsAt H ws vs ∧ ws.XCan m
  | .nil, vs, h, _ => ⟨h, trivial⟩
  | .cons w r, vs, h, hc => by
    obtain ⟨v, s, h1, h2, h3⟩ := h
    have a := XAt.of h2 hc.1
    have b := XsAt.of h3 hc.2
    exact ⟨⟨v, s, h1, a.1, b.1⟩, a.2, b.2⟩
end
def W.bad : W → Bool
  | .push c => decide (1000 ≤ c)
  | _ => false
mutual
/-- the number of the first one that can't be, and how many there are ahead -/
def W.fx : W → Nat → Nat → Option Nat × Nat
  | .push c, d, a => if 1000 ≤ c ∨ 8 < d ∨ 60 ≤ a then (some a, a) else (none, a + 1)
  | .pop, d, a => if 8 < d ∨ 60 ≤ a then (some a, a) else (none, a + 1)
  | .row ws, d, a => if 8 < d ∨ 60 ≤ a then (some a, a) else ws.fx (d + 1) (a + 1)
  | .times _ w, d, a => if 8 < d ∨ 60 ≤ a then (some a, a) else w.fx (d + 1) (a + 1)
def Ws.fx : Ws → Nat → Nat → Option Nat × Nat
  | .nil, _, a => (none, a)
  | .cons w r, d, a => match w.fx d a with
    | (some b, a') => (some b, a')
    | (none, a') => r.fx d a'
end
theorem W.fx_no {w : W} {d a : Nat} (h : w.bad = true ∨ 8 < d ∨ 60 ≤ a) : w.fx d a = (some a, a) := by
  cases w with
  | push c =>
    unfold W.fx
    rw [if_pos (h.imp of_decide_eq_true id)]
  | pop =>
    unfold W.fx
    rw [if_pos (h.resolve_left (by intro z; cases z))]
  | row ws =>
    unfold W.fx
    rw [if_pos (h.resolve_left (by intro z; cases z))]
  | times n w =>
    unfold W.fx
    rw [if_pos (h.resolve_left (by intro z; cases z))]
theorem W.fx_yes {w : W} {d a : Nat} (h : ¬ (w.bad = true ∨ 8 < d ∨ 60 ≤ a)) : w.fx d a = w.within.fx (d + 1) (a + 1) := by
  cases w with
  | push c =>
    unfold W.fx
    rw [if_neg (fun z => h (z.imp decide_eq_true id))]
    unfold W.within Ws.fx
    rfl
  | pop =>
    unfold W.fx
    rw [if_neg (fun z => h (.inr z))]
    unfold W.within Ws.fx
    rfl
  | row ws =>
    rw [W.fx.eq_def]
    dsimp only
    rw [if_neg (fun z => h (.inr z))]
    rfl
  | times n w =>
    rw [W.fx.eq_def]
    dsimp only
    rw [if_neg (fun z => h (.inr z))]
    unfold W.within
    rw [Ws.fx.eq_def]
    dsimp only
    cases w.fx (d + 1) (a + 1) with
    | mk b a' =>
      cases b with
      | some b => rfl
      | none =>
        dsimp only
        unfold Ws.fx
        rfl
theorem Ws.fx_cons {w : W} {r : Ws} {d a : Nat} : (Ws.cons w r).fx d a = match w.fx d a with
    | (some b, a') => (some b, a')
    | (none, a') => r.fx d a' := by rw [Ws.fx.eq_def]
theorem Ws.fx_nil {d a : Nat} : Ws.nil.fx d a = (none, a) := by rw [Ws.fx.eq_def]
mutual
theorem W.fx_some : ∀ {w : W} {d a n a' : Nat}, a ≤ 60 → w.fx d a = (some n, a') → n = a' ∧ n ≤ 60
  | .push c, d, a, n, a', ha, h => by
    unfold W.fx at h
    split at h
    · cases h
      exact ⟨rfl, ha⟩
    · cases h
  | .pop, d, a, n, a', ha, h => by
    unfold W.fx at h
    split at h
    · cases h
      exact ⟨rfl, ha⟩
    · cases h
  | .row ws, d, a, n, a', ha, h => by
    rw [W.fx.eq_def] at h
    dsimp only at h
    split at h
    · cases h
      exact ⟨rfl, ha⟩
    · exact Ws.fx_some (by omega) h
  | .times m w, d, a, n, a', ha, h => by
    rw [W.fx.eq_def] at h
    dsimp only at h
    split at h
    · cases h
      exact ⟨rfl, ha⟩
    · exact W.fx_some (by omega) h
theorem Ws.fx_some : ∀ {ws : Ws} {d a n a' : Nat}, a ≤ 60 → ws.fx d a = (some n, a') → n = a' ∧ n ≤ 60
  | .nil, d, a, n, a', ha, h => by
    rw [Ws.fx_nil] at h
    cases h
  | .cons w r, d, a, n, a', ha, h => by
    rw [Ws.fx_cons] at h
    cases hw : w.fx d a with
    | mk b a2 =>
      rw [hw] at h
      cases b with
      | some b =>
        cases h
        exact W.fx_some ha hw
      | none =>
        exact Ws.fx_some (W.fx_le ha hw) h
theorem W.fx_le : ∀ {w : W} {d a a' : Nat}, a ≤ 60 → w.fx d a = (none, a') → a' ≤ 60
  | .push c, d, a, a', ha, h => by
    unfold W.fx at h
    split at h
    · cases h
    · cases h
      omega
  | .pop, d, a, a', ha, h => by
    unfold W.fx at h
    split at h
    · cases h
    · cases h
      omega
  | .row ws, d, a, a', ha, h => by
    rw [W.fx.eq_def] at h
    dsimp only at h
    split at h
    · cases h
    · exact Ws.fx_le (by omega) h
  | .times m w, d, a, a', ha, h => by
    rw [W.fx.eq_def] at h
    dsimp only at h
    split at h
    · cases h
    · exact W.fx_le (by omega) h
theorem Ws.fx_le : ∀ {ws : Ws} {d a a' : Nat}, a ≤ 60 → ws.fx d a = (none, a') → a' ≤ 60
  | .nil, d, a, a', ha, h => by
    rw [Ws.fx_nil] at h
    cases h
    exact ha
  | .cons w r, d, a, a', ha, h => by
    rw [Ws.fx_cons] at h
    cases hw : w.fx d a with
    | mk b a2 =>
      rw [hw] at h
      cases b with
      | some b => cases h
      | none => exact Ws.fx_le (W.fx_le ha hw) h
end
mutual
/-- where none is found, it's a work -/
theorem W.fx_good {H : Hp} {m : Nat} : ∀ {w : W} {v : V} {d a a' : Nat}, XAt H w v → w.XCan m → w.fx d a = (none, a') → WAt H w v ∧ w.Can m ∧ a' = a + w.siz ∧ d + w.dep ≤ 9
  | .push c, v, d, a, a', hx, hc, h => by
    unfold W.fx at h
    split at h
    · cases h
    · rename_i hn
      cases h
      rcases hx with ⟨h1, _⟩ | ⟨_, h1⟩
      · exact absurd (.inl h1) hn
      rcases hc with hc | hc
      · exact absurd (.inl hc) hn
      · refine ⟨h1, hc, rfl, ?_⟩
        show d + 1 ≤ 9
        omega
  | .pop, v, d, a, a', hx, hc, h => by
    unfold W.fx at h
    split at h
    · cases h
    · cases h
      refine ⟨hx, trivial, rfl, ?_⟩
      show d + 1 ≤ 9
      omega
  | .row ws, v, d, a, a', hx, hc, h => by
    rw [W.fx.eq_def] at h
    dsimp only at h
    split at h
    · cases h
    · obtain ⟨p, q, vs, h1, h2, h3, h4⟩ := hx
      obtain ⟨g1, g2, g3, g4⟩ := Ws.fx_good h4 hc.2 h
      refine ⟨⟨p, q, vs, h1, h2, h3, g1⟩, ⟨hc.1, g2⟩, ?_, ?_⟩
      · show a' = a + (1 + ws.siz)
        omega
      · show d + (1 + ws.dep) ≤ 9
        omega
  | .times n w, v, d, a, a', hx, hc, h => by
    rw [W.fx.eq_def] at h
    dsimp only at h
    split at h
    · cases h
    · obtain ⟨p, u, h1, h2, h3⟩ := hx
      obtain ⟨g1, g2, g3, g4⟩ := W.fx_good h3 hc.2 h
      refine ⟨⟨p, u, h1, h2, g1⟩, ⟨hc.1, g2⟩, ?_, ?_⟩
      · show a' = a + (1 + w.siz)
        omega
      · show d + (1 + w.dep) ≤ 9
        omega
theorem Ws.fx_good {H : Hp} {m : Nat} : ∀ {ws : Ws} {vs : List V} {d a a' : Nat}, XsAt H ws vs → ws.XCan m → ws.fx d a = (none, a') → WsAt H ws vs ∧ ws.Can m ∧ a' = a + ws.siz ∧ (ws.dep = 0 ∨ d + ws.dep ≤ 9)
  | .nil, vs, d, a, a', hx, hc, h => by
    rw [Ws.fx_nil] at h
    cases h
    exact ⟨hx, trivial, rfl, .inl rfl⟩
  | .cons w r, vs, d, a, a', hx, hc, h => by
    rw [Ws.fx_cons] at h
    obtain ⟨v, s, h1, h2, h3⟩ := hx
    cases hw : w.fx d a with
    | mk b a2 =>
      rw [hw] at h
      cases b with
      | some b => cases h
      | none =>
        obtain ⟨g1, g2, g3, g4⟩ := W.fx_good h2 hc.1 hw
        obtain ⟨k1, k2, k3, k4⟩ := Ws.fx_good h3 hc.2 h
        refine ⟨⟨v, s, h1, g1, k1⟩, ⟨g2, k2⟩, ?_, .inr ?_⟩
        · show a' = a + (w.siz + r.siz)
          omega
        · show d + max w.dep r.dep ≤ 9
          omega
end
theorem W.fx_ok {H : Hp} {m : Nat} {w : W} {v : V} (hx : XAt H w v) (hc : w.XCan m) (h : (w.fx 1 0).1 = none) : WAt H w v ∧ WOk m w := by
  cases e : w.fx 1 0 with
  | mk b a' =>
    rw [e] at h
    cases h
    obtain ⟨g1, g2, g3, g4⟩ := W.fx_good hx hc e
    have := W.fx_le (by decide) e
    exact ⟨g1, g2, by omega, by omega⟩
/-- .. over what waits -/
def fxL : List (W × Nat) → Nat → Option Nat
  | [], _ => none
  | (w, d) :: r, a => match w.fx d a with
    | (some b, _) => some b
    | (none, a') => fxL r a'
theorem fxL_app (r : List (W × Nat)) (d : Nat) : ∀ (ws : Ws) (a : Nat), fxL (ws.list.map (fun x => (x, d)) ++ r) a = match ws.fx d a with
    | (some b, _) => some b
    | (none, a') => fxL r a'
  | .nil, a => by
    rw [Ws.fx_nil]
    rfl
  | .cons w s, a => by
    rw [Ws.fx_cons]
    show (match w.fx d a with | (some b, _) => some b | (none, a') => fxL (s.list.map (fun x => (x, d)) ++ r) a') = _
    cases w.fx d a with
    | mk b a2 =>
      cases b with
      | some b => rfl
      | none => exact fxL_app r d s a2
theorem fxL_no {w : W} {d a : Nat} {r : List (W × Nat)} (h : w.bad = true ∨ 8 < d ∨ 60 ≤ a) : fxL ((w, d) :: r) a = some a := by
  show (match w.fx d a with | (some b, _) => some b | (none, a') => fxL r a') = _
  rw [W.fx_no h]
theorem fxL_yes {w : W} {d a : Nat} {r : List (W × Nat)} (h : ¬ (w.bad = true ∨ 8 < d ∨ 60 ≤ a)) : fxL ((w, d) :: r) a = fxL (w.within.list.map (fun x => (x, d + 1)) ++ r) (a + 1) := by
  rw [fxL_app]
  show (match w.fx d a with | (some b, _) => some b | (none, a') => fxL r a') = _
  rw [W.fx_yes h]
theorem fxL_one (w : W) : fxL [(w, 1)] 0 = (w.fx 1 0).1 := by
  show (match w.fx 1 0 with | (some b, _) => some b | (none, a') => fxL [] a') = _
  cases w.fx 1 0 with
  | mk b a => cases b <;> rfl
def PxAt (H : Hp) : List (W × Nat) → List V → Prop
  | [], xs => xs = []
  | p :: r, xs => ∃ T u s, xs = .ref T :: s ∧ H T = some (.tup [u, .int (p.2 : Int)]) ∧ XAt H p.1 u ∧ PxAt H r s
theorem PxAt.nice {H H' : Hp} (e : Nice H H') : ∀ {ps : List (W × Nat)} {xs : List V}, PxAt H ps xs → PxAt H' ps xs
  | [], _, h => h
  | p :: r, xs, h => by
    obtain ⟨T, u, s, h1, h2, h3, h4⟩ := h
    exact ⟨T, u, s, h1, e.t _ _ h2, h3.nice e, PxAt.nice e h4⟩
theorem PxAt.len {H : Hp} : ∀ {ps : List (W × Nat)} {xs : List V}, PxAt H ps xs → xs.length = ps.length
  | [], _, h => by
    cases h
    rfl
  | p :: r, xs, h => by
    obtain ⟨T, u, s, rfl, h2, h3, h4⟩ := h
    show s.length + 1 = r.length + 1
    rw [h4.len]
theorem within_xcan {m : Nat} {w : W} (h : w.XCan m) : w.within.XCan m := by
  cases w with
  | push c => exact trivial
  | pop => exact trivial
  | row ws => exact h.2
  | times n w => exact ⟨h.2, trivial⟩
theorem within_len {m : Nat} {w : W} (h : w.XCan m) : w.within.list.length ≤ 1000 := by
  cases w with
  | push c => exact Nat.zero_le _
  | pop => exact Nat.zero_le _
  | row ws =>
    show ws.list.length ≤ 1000
    rw [Ws.len_list]
    exact h.1
  | times n y => show 1 ≤ 1000; decide
/-! ### promises -/
def spAloneX : Sp := fun vs H Q _ => ∃ (w : W) (v : V) (D : Addr) (many : Nat), vs = [v, .ref D] ∧ XAt H w v ∧ H D = some (.lst ((signs many).map fun c => V.str (tx [c]))) ∧ w.XCan many ∧ giv (.bl (!w.bad)) H Q
def spWithinX : Sp := fun vs H Q _ => ∃ (w : W) (v : V), vs = [v] ∧ XAt H w v ∧ w.bad = false ∧ ∀ (H' : Hp) (u : Addr) (xs : List V), Same H H' → H' u = some (.tup xs) → XsAt H' w.within xs → Q (.ref u) H'
/-- a refusal of a work -/
def noW (D : Addr) (w : W) (H : Hp) (E : XK) (ok : Prop) : Prop := match (w.fx 1 0).1 with
  | some n => badNo D n H E
  | none => ok
/-- a plain refusal -/
def noP (D : Addr) (H : Hp) (E : XK) : Prop := ∀ H2, Same H H2 → E (.ref D) none H2
theorem noP.mono {D : Addr} {H H' : Hp} {E : XK} (h : noP D H E) (s : Same H H') : noP D H' E := fun H2 s2 => h H2 (s.trans s2)
theorem badNo.mono {D : Addr} {b : Nat} {H H' : Hp} {E : XK} (h : badNo D b H E) (s : Same H H') : badNo D b H' E := fun d H2 s2 h2 => h d H2 (s.trans s2) h2
def spChWorkY (D : Addr) : Sp := fun vs H Q E => ∃ (v : V) (p : Pl) (u : V) (w : W), vs = [v, u] ∧ PlanAt H v p ∧ p.Ok ∧ XAt H w u ∧ w.XCan p.many ∧ noW D w H E (giv .non H Q)
def spToldY (D : Addr) : Sp := fun vs H Q E => ∃ (v : V) (p : Pl) (u : V) (w : W), vs = [v, u] ∧ PlanAt H v p ∧ p.Ok ∧ XAt H w u ∧ w.XCan p.many ∧ noW D w H E (givT (w.tri p.room) H Q)
def spCostY (D : Addr) : Sp := fun vs H Q E => ∃ (v : V) (p : Pl) (u : V) (w : W), vs = [v, u] ∧ PlanAt H v p ∧ p.Ok ∧ XAt H w u ∧ w.XCan p.many ∧ noW D w H E False
/-- run: the work, then the stack -/
def spRunY (D8 D4 : Addr) : Sp := fun vs H Q E => ∃ (v : V) (p : Pl) (u : V) (w : W) (x : V), vs = [v, u, x] ∧ PlanAt H v p ∧ p.Ok ∧ XAt H w u ∧ w.XCan p.many ∧ noW D8 w H E (StackB H x p false ∧ noP D4 H E)
/-- alike, parting: the one, then the other -/
def spTwoY (D : Addr) : Sp := fun vs H Q E => ∃ (v : V) (p : Pl) (u : V) (w : W) (x : V), vs = [v, u, x] ∧ PlanAt H v p ∧ p.Ok ∧ XAt H w u ∧ w.XCan p.many ∧ noW D w H E (∃ w2, XAt H w2 x ∧ w2.XCan p.many ∧ noW D w2 H E False)
def spMDoY (C D : Addr) : Sp := fun vs H Q E => ∃ (x pa : Addr) (m : MS) (u : V) (w : W), vs = [.ref x, u] ∧ MAt C H x pa m ∧ m.p.Ok ∧ XAt H w u ∧ w.XCan m.p.many ∧ noW D w H E False
/-- any value asked for a triple -/
def TripleB (H : Hp) (u : V) (p : Pl) (b : Bool) : Prop := (u = .non ∧ b = false) ∨ ∃ a, u = .ref a ∧ ((∃ xs, H a = some (.lst xs) ∧ b = false) ∨ (∃ xs, H a = some (.tup xs) ∧ xs.length ≠ 3 ∧ b = false) ∨
  ∃ x y z, H a = some (.tup [x, y, z]) ∧ ((NumB H x 0 p.room false ∧ b = false) ∨ (NumB H x 0 p.room true ∧ NumB H y 0 p.room false ∧ b = false) ∨ ∃ g k : Nat, x = .int (g : Int) ∧ y = .int (k : Int) ∧ g ≤ p.room ∧ k ≤ p.room ∧
    ((TextB H z (signs p.many) false ∧ b = false) ∨ ∃ l, z = .str (tx l) ∧ l.length ≤ 10000 ∧ (∀ c ∈ l, c ∈ signs p.many) ∧ b = decide ((k = 0 → g = 0) ∧ g + k ≤ p.room ∧ l.length + k ≤ p.room))))
theorem TripleB.mono {H H' : Hp} {u : V} {p : Pl} {b : Bool} (h : TripleB H u p b) (s : Same H H') : TripleB H' u p b := by
  rcases h with h | ⟨a, e, ⟨xs, h1, h2⟩ | ⟨xs, h1, h2⟩ | ⟨x, y, z, h1, h2 | h2 | ⟨g, k, e1, e2, hg, hk, h2 | h2⟩⟩⟩
  · exact .inl h
  · exact .inr ⟨a, e, .inl ⟨xs, s _ _ h1, h2⟩⟩
  · exact .inr ⟨a, e, .inr (.inl ⟨xs, s _ _ h1, h2⟩)⟩
  · exact .inr ⟨a, e, .inr (.inr ⟨x, y, z, s _ _ h1, .inl ⟨h2.1.mono s, h2.2⟩⟩)⟩
  · exact .inr ⟨a, e, .inr (.inr ⟨x, y, z, s _ _ h1, .inr (.inl ⟨h2.1.mono s, h2.2.1.mono s, h2.2.2⟩)⟩)⟩
  · exact .inr ⟨a, e, .inr (.inr ⟨x, y, z, s _ _ h1, .inr (.inr ⟨g, k, e1, e2, hg, hk, .inl ⟨h2.1.mono s, h2.2⟩⟩)⟩)⟩
  · exact .inr ⟨a, e, .inr (.inr ⟨x, y, z, s _ _ h1, .inr (.inr ⟨g, k, e1, e2, hg, hk, .inr h2⟩)⟩)⟩
theorem TripleB.good {H : Hp} {u : V} {p : Pl} {t : Tr} (h : TripAt H u t) (ok : TrOk p.room p.many t) (r9 : p.room ≤ 9) : TripleB H u p true := by
  obtain ⟨a, e, h⟩ := h
  have kl := ok.kl
  have gk := ok.gk
  exact .inr ⟨a, e, .inr (.inr ⟨_, _, _, h, .inr (.inr ⟨t.g, t.k, rfl, rfl, by omega, by omega, .inr ⟨t.l, rfl, by omega, ok.s, (decide_eq_true ⟨ok.z, by omega, by omega⟩).symm⟩⟩)⟩)⟩
def spTripleB : Sp := fun vs H Q _ => ∃ (v : V) (p : Pl) (u : V) (b : Bool), vs = [v, u] ∧ PlanAt H v p ∧ p.Ok ∧ TripleB H u p b ∧ giv (.bl b) H Q
/-- let by, or refused -/
def orP (b : Bool) (D : Addr) (H : Hp) (E : XK) (ok : Prop) : Prop := match b with
  | true => ok
  | false => noP D H E
def spChStackY (D : Addr) : Sp := fun vs H Q E => ∃ (v : V) (p : Pl) (x : V) (b : Bool), vs = [v, x] ∧ PlanAt H v p ∧ p.Ok ∧ StackB H x p b ∧ orP b D H E (giv .non H Q)
def spChTripleY (D : Addr) : Sp := fun vs H Q E => ∃ (v : V) (p : Pl) (u : V) (b : Bool), vs = [v, u] ∧ PlanAt H v p ∧ p.Ok ∧ TripleB H u p b ∧ orP b D H E (giv .non H Q)
/-- steps that can't be -/
def StepsB (H : Hp) (x : V) (p : Pl) (b : Bool) : Prop := TextB H x (signs p.many ++ [45]) b
def spChStepsY (D : Addr) : Sp := fun vs H Q E => ∃ (v : V) (p : Pl) (x : V), vs = [v, x] ∧ PlanAt H v p ∧ p.Ok ∧ StepsB H x p false ∧ noP D H E
def spTimesY (D : Addr) : Sp := fun vs H Q E => ∃ (x : V), vs = [x] ∧ NumB H x 0 1000000000000000000 false ∧ noP D H E
/-- a triple alone that can't be, whatever stands behind it -/
def spT1 (n : Nat) (D7 : Addr) : Sp := fun vs H Q E => ∃ (v : V) (p : Pl) (u : V) (rest : List V), vs = v :: u :: rest ∧ rest.length = n ∧ PlanAt H v p ∧ p.Ok ∧ TripleB H u p false ∧ noP D7 H E
/-- a triple, then something else -/
def spT2 (bad : Hp → V → Pl → Prop) (D7 D : Addr) : Sp := fun vs H Q E => ∃ (v : V) (p : Pl) (u : V) (x : V) (b : Bool), vs = [v, u, x] ∧ PlanAt H v p ∧ p.Ok ∧ TripleB H u p b ∧ orP b D7 H E (bad H x p ∧ noP D H E)
def spStepsY (D : Addr) : Sp := fun vs H Q E => ∃ (v : V) (p : Pl) (x : V), vs = [v, x] ∧ PlanAt H v p ∧ p.Ok ∧ StepsB H x p false ∧ noP D H E
def spMInitY (D : Addr) : Sp := fun vs H Q E => ∃ (x : V) (v : V) (p : Pl) (y : V), vs = [x, v, y] ∧ PlanAt H v p ∧ p.Ok ∧ StackB H y p false ∧ noP D H E
end SK
namespace SK
open PySem PySem.Spec PyProof.Rows L2 LamX
/-! ### a tuple against the empty one -/
def rEqT0 (K : PySem.W.Frag) : R2 := fun x y H Q => ∃ a b xs, x = .ref a ∧ y = .ref b ∧ SqT K H a xs ∧ SqT K H b [] ∧ Q (.bl xs.isEmpty) H
def rNeT0 (K : PySem.W.Frag) : R2 := fun x y H Q => ∃ a b xs, x = .ref a ∧ y = .ref b ∧ SqT K H a xs ∧ SqT K H b [] ∧ Q (.bl (!xs.isEmpty)) H
theorem op_eqT0 {X : Cx} (hu : X.A.units + 64 < cLine) : OpR X (compareOp .Eq) (rEqT0 X.K) := by
  intro pins s σ H x y v u Q I rx ry h
  obtain ⟨a, b, xs, rfl, rfl, ha, hb, q⟩ := h
  cases rx
  cases ry
  obtain ⟨its, r1, p1, _⟩ := I.tuple ha
  obtain ⟨its2, r2, p2, _⟩ := I.tuple hb
  cases r2
  have e : ((List.range (min its.toArray.size ([] : List Value).toArray.size)).all (fun _ => true) && its.toArray.size == ([] : List Value).toArray.size) = xs.isEmpty := by
    have := r1.length
    cases xs with
    | nil => cases r1; rfl
    | cons z r => cases r1; rfl
  have := SeqAt.RcAt.tuples (A := X.A) (e := fun _ => true) p1 p2 (Nat.lt_of_le_of_lt (Nat.le_add_right _ _) hu) (fun j h1 h2 => absurd h2 (Nat.not_lt_zero _))
  rw [e] at this
  exact this _ _ _ _ ⟨.bl _, H, I, rfl, q⟩
theorem op_neT0 {X : Cx} (hu : X.A.units + 64 < cLine) : OpR X (compareOp .NotEq) (rNeT0 X.K) := by
  intro pins s σ H x y v u Q I rx ry h
  obtain ⟨a, b, xs, rfl, rfl, ha, hb, q⟩ := h
  cases rx
  cases ry
  obtain ⟨its, r1, p1, _⟩ := I.tuple ha
  obtain ⟨its2, r2, p2, _⟩ := I.tuple hb
  cases r2
  have e : ((List.range (min its.toArray.size ([] : List Value).toArray.size)).all (fun _ => true) && its.toArray.size == ([] : List Value).toArray.size) = xs.isEmpty := by
    have := r1.length
    cases xs with
    | nil => cases r1; rfl
    | cons z r => cases r1; rfl
  have := SeqAt.RcNeAt.tuples (A := X.A) (e := fun _ => true) p1 p2 (Nat.lt_of_le_of_lt (Nat.le_add_right _ _) hu) (fun j h1 h2 => absurd h2 (Nat.not_lt_zero _))
  rw [e] at this
  exact this _ _ _ _ ⟨.bl _, H, I, rfl, q⟩
/-! ### trees by lists -/
theorem ofL_xat {H : Hp} : ∀ {L : List W} {vs : List V}, vs.length = L.length → (∀ (i : Nat) (x : V), vs[i]? = some x → ∃ w, L[i]? = some w ∧ XAt H w x) → XsAt H (ofL L) vs
  | [], vs, hl, _ => List.eq_nil_of_length_eq_zero hl
  | w :: L, [], hl, _ => by cases hl
  | w :: L, v :: vs, hl, h => by
    obtain ⟨w0, e, h0⟩ := h 0 v rfl
    cases e
    exact ⟨v, vs, rfl, h0, ofL_xat (Nat.succ.inj hl) fun i x e => h (i + 1) x e⟩
theorem ofL_xcan {m : Nat} : ∀ {L : List W}, (∀ w ∈ L, w.XCan m) → (ofL L).XCan m
  | [], _ => trivial
  | w :: L, h => ⟨h w (List.mem_cons_self ..), ofL_xcan fun x hx => h x (List.mem_cons_of_mem _ hx)⟩
theorem ofL_lenX : ∀ L : List W, (ofL L).len = L.length
  | [] => rfl
  | w :: L => by
    show (ofL L).len + 1 = L.length + 1
    rw [ofL_lenX L]
def optI : Option Nat → V
  | none => .non
  | some n => .int (n : Int)
def spFirst (n : Nat) : Sp := fun vs H Q _ => ∃ (v : V) (p : Pl) (u : V) (w : W) (d a : Nat), vs = [v, u, .int (d : Int), .int (a : Int)] ∧ PlanAt H v p ∧ p.Ok ∧ XAt H w u ∧ w.XCan p.many ∧ 1 ≤ d ∧ d ≤ 9 ∧ 10 ≤ d + n ∧ a ≤ 60 ∧
  ∀ (T : Addr) (H' : Hp), Same H H' → H' T = some (.tup [optI (w.fx d a).1, .int (((w.fx d a).2 : Nat) : Int)]) → Q (.ref T) H'
theorem no_spFirst : ∀ vs H Q E, ¬ spFirst 0 vs H Q E := fun vs H Q E ⟨_, _, _, _, _, _, _, _, _, _, _, h1, h2, h3, _⟩ => by omega
def spSpoilt (n : Nat) : Sp := fun vs H Q _ => ∃ (p q : Addr) (ns : List Int) (z : Int) (v : V) (pl : Pl) (u : V) (w : W) (o : V) (wo : W), vs = [.ref p, v, u, o] ∧ BoxAt H p q ns z ∧ PlanAt H v pl ∧ pl.Ok ∧ WAt H w u ∧ w.Can pl.many ∧ w.dep ≤ n ∧ XAt H wo o ∧ wo.XCan pl.many ∧
  ∀ (wb : W) (x : V) (ns' : List Int) (z' : Int) (H' : Hp), wb.XCan pl.many → XAt H' wb x → BoxAt H' p q ns' z' → Keep p q H H' → Q x H'
theorem no_spSpoilt : ∀ vs H Q E, ¬ spSpoilt 0 vs H Q E := fun vs H Q E ⟨_, _, _, _, _, _, _, w, _, _, _, _, _, _, _, _, h, _⟩ => by
  have := w.dep_pos
  omega
theorem seq_by2 {a b c : TS} {D : Ends} {σ : L2.St} {H : Hp} (Good : L2.St → Hp → Prop) (ha : ∀ (R : L2.St → Hp → Prop), (∀ σ' H', Good σ' H' → R σ' H') → tSeq a b { D with nx := R } σ H) (hc : ∀ σ' H', Good σ' H' → c D σ' H') : tSeq a (tSeq b c) D σ H := ha _ hc
/-! ### tuples cut and joined -/
theorem slA_by {K : PySem.W.Frag} {H : Hp} {Q : VK} {a : Addr} {xs : List V} {lo hi : Option Int} (ha : H a = some (.tup xs)) (q : ∀ (c : Addr) (H' : Hp), Same H H' → H' c = some (.tup (cutV xs lo hi)) → Q (.ref c) H') : rSlA K (.ref a) lo hi H Q := by
  refine ⟨a, xs, rfl, SqT.of ha, fun h => ?_, fun h p hp => q p _ (Same.new hp _) upd_same⟩
  refine q a H (Same.refl H) ?_
  unfold cutV
  rw [h.1, h.2, List.drop_zero, Nat.sub_zero, List.take_length]
  exact ha
theorem catA_by {K : PySem.W.Frag} {H : Hp} {Q : VK} {a b : Addr} {xs ys : List V} (ha : H a = some (.tup xs)) (hb : H b = some (.tup ys)) (hz : xs.length + ys.length ≤ sizeLine) (q : ∀ (c : Addr) (H' : Hp), Same H H' → H' c = some (.tup (xs ++ ys)) → Q (.ref c) H') : rCatA K (.ref a) (.ref b) H Q := by
  refine ⟨a, b, xs, ys, rfl, rfl, SqT.of ha, SqT.of hb, hz, fun h => ?_, fun _ h => ?_, fun _ _ p hp => q p _ (Same.new hp _) upd_same⟩
  · refine q b H (Same.refl H) ?_
    rw [h, List.nil_append]
    exact hb
  · refine q a H (Same.refl H) ?_
    rw [h, List.append_nil]
    exact ha
theorem cut_pre (xs : List V) {k : Nat} (h : k ≤ xs.length) : cutV xs none (some (k : Int)) = xs.take k := by
  unfold cutV
  rw [HT.sIx_none, HT.sIx_nat, Nat.min_eq_left h, List.drop_zero, Nat.sub_zero]
theorem cut_suf (xs : List V) {k : Nat} (h : k ≤ xs.length) : cutV xs (some (k : Int)) none = xs.drop k := by
  unfold cutV
  rw [HT.sIx_none, HT.sIx_nat, Nat.min_eq_left h]
  exact List.take_of_length_le (by rw [List.length_drop]; exact Nat.le_refl _)
theorem get_spliced {α : Type} {xs : List α} {k : Nat} {y : α} (hk : k < xs.length) (i : Nat) {x : α} (h : (xs.take k ++ [y] ++ xs.drop (k + 1))[i]? = some x) : (i = k ∧ x = y) ∨ (i ≠ k ∧ xs[i]? = some x) := by
  have lt : (xs.take k).length = k := by rw [List.length_take]; omega
  rcases Nat.lt_trichotomy i k with c | c | c
  · rw [List.append_assoc, List.getElem?_append_left (by omega), List.getElem?_take_of_lt c] at h
    exact .inr ⟨by omega, h⟩
  · subst c
    rw [List.append_assoc, List.getElem?_append_right (by omega), lt, Nat.sub_self] at h
    cases h
    exact .inl ⟨rfl, rfl⟩
  · rw [List.getElem?_append_right (by rw [List.length_append, lt]; show k + 1 ≤ i; omega), List.length_append, lt, List.getElem?_drop] at h
    have e : k + 1 + (i - (k + [y].length)) = i := by show k + 1 + (i - (k + 1)) = i; omega
    rw [e] at h
    exact .inr ⟨by omega, h⟩
theorem len_spliced {α : Type} {xs : List α} {k : Nat} {y : α} (hk : k < xs.length) : (xs.take k ++ [y] ++ xs.drop (k + 1)).length = xs.length := by
  rw [List.length_append, List.length_append, List.length_take, List.length_drop]
  show min k xs.length + 1 + (xs.length - (k + 1)) = xs.length
  omega
/-- one of a row exchanged -/
theorem row_spliced {H : Hp} {m : Nat} {ws : Ws} {vs : List V} {k : Nat} {w : W} {y : V} (hx : XsAt H ws vs) (hc : ws.XCan m) (hk : k < vs.length) (hw : XAt H w y) (hwc : w.XCan m) :
    XsAt H (ofL (ws.list.set k w)) (vs.take k ++ [y] ++ vs.drop (k + 1)) ∧ (ofL (ws.list.set k w)).XCan m ∧ (ofL (ws.list.set k w)).len = ws.len := by
  have hl := hx.len
  refine ⟨ofL_xat ?_ fun i x e => ?_, ofL_xcan fun x hx' => ?_, ?_⟩
  · rw [len_spliced hk, List.length_set, hl]
  · rcases get_spliced hk i e with ⟨e1, e2⟩ | ⟨e1, e2⟩
    · refine ⟨w, ?_, e2 ▸ hw⟩
      rw [e1, List.getElem?_set_self (by omega)]
    · obtain ⟨w0, q1, q2⟩ := hx.get e2
      exact ⟨w0, by rw [List.getElem?_set_ne (Ne.symm e1)]; exact q1, q2⟩
  · rcases List.mem_or_eq_of_mem_set hx' with h | h
    · exact Ws.xcan_mem hc h
    · rw [h]; exact hwc
  · rw [ofL_lenX, List.length_set, Ws.len_list]
/-! ### values that can't be, further -/
theorem TripleB.ext {H H' : Hp} {u : V} {p : Pl} {b : Bool} (h : TripleB H u p b) (s : ExtN H H') : TripleB H' u p b := by
  have st : ∀ a (xs : List V), H a = some (.tup xs) → H' a = some (.tup xs) := fun a xs e => s _ _ e (by intro ps z; cases z)
  rcases h with h | ⟨a, e, ⟨xs, h1, h2⟩ | ⟨xs, h1, h2⟩ | ⟨x, y, z, h1, h2 | h2 | ⟨g, k, e1, e2, hg, hk, h2 | h2⟩⟩⟩
  · exact .inl h
  · exact .inr ⟨a, e, .inl ⟨xs, s _ _ h1 (by intro ps z; cases z), h2⟩⟩
  · exact .inr ⟨a, e, .inr (.inl ⟨xs, st _ _ h1, h2⟩)⟩
  · exact .inr ⟨a, e, .inr (.inr ⟨x, y, z, st _ _ h1, .inl ⟨h2.1.ext s, h2.2⟩⟩)⟩
  · exact .inr ⟨a, e, .inr (.inr ⟨x, y, z, st _ _ h1, .inr (.inl ⟨h2.1.ext s, h2.2.1.ext s, h2.2.2⟩)⟩)⟩
  · exact .inr ⟨a, e, .inr (.inr ⟨x, y, z, st _ _ h1, .inr (.inr ⟨g, k, e1, e2, hg, hk, .inl ⟨h2.1.ext s, h2.2⟩⟩)⟩)⟩
  · exact .inr ⟨a, e, .inr (.inr ⟨x, y, z, st _ _ h1, .inr (.inr ⟨g, k, e1, e2, hg, hk, .inr h2⟩)⟩)⟩
theorem StepsB.ext {H H' : Hp} {x : V} {p : Pl} {b : Bool} (h : StepsB H x p b) (s : ExtN H H') : StepsB H' x p b := TextB.ext h s
theorem StepsB.mono {H H' : Hp} {x : V} {p : Pl} {b : Bool} (h : StepsB H x p b) (s : Same H H') : StepsB H' x p b := TextB.mono h s
mutual
theorem W.fx_pass {m : Nat} : ∀ {w : W} {d a : Nat}, w.Can m → d + w.dep ≤ 9 → a + w.siz ≤ 60 → w.fx d a = (none, a + w.siz)
  | .push c, d, a, hc, hd, hs => by
    have hd : d + 1 ≤ 9 := hd
    have hs : a + 1 ≤ 60 := hs
    have := sign_small hc
    unfold W.fx
    rw [if_neg (by omega)]
    rfl
  | .pop, d, a, hc, hd, hs => by
    have hd : d + 1 ≤ 9 := hd
    have hs : a + 1 ≤ 60 := hs
    unfold W.fx
    rw [if_neg (by omega)]
    rfl
  | .row ws, d, a, hc, hd, hs => by
    have hd : d + (1 + ws.dep) ≤ 9 := hd
    have hs : a + (1 + ws.siz) ≤ 60 := hs
    rw [W.fx.eq_def]
    dsimp only
    rw [if_neg (by omega), Ws.fx_pass hc.2 (by omega) (by omega)]
    show (none, a + 1 + ws.siz) = (none, a + (1 + ws.siz))
    rw [Nat.add_assoc]
  | .times n w, d, a, hc, hd, hs => by
    have hd : d + (1 + w.dep) ≤ 9 := hd
    have hs : a + (1 + w.siz) ≤ 60 := hs
    rw [W.fx.eq_def]
    dsimp only
    rw [if_neg (by omega), W.fx_pass hc.2 (by omega) (by omega)]
    show (none, a + 1 + w.siz) = (none, a + (1 + w.siz))
    rw [Nat.add_assoc]
theorem Ws.fx_pass {m : Nat} : ∀ {ws : Ws} {d a : Nat}, ws.Can m → d + ws.dep ≤ 9 → a + ws.siz ≤ 60 → ws.fx d a = (none, a + ws.siz)
  | .nil, d, a, _, _, _ => by
    rw [Ws.fx_nil]
    rfl
  | .cons w r, d, a, hc, hd, hs => by
    have hd : d + max w.dep r.dep ≤ 9 := hd
    have hs : a + (w.siz + r.siz) ≤ 60 := hs
    rw [Ws.fx_cons, W.fx_pass hc.1 (by omega) (by omega)]
    dsimp only
    rw [Ws.fx_pass hc.2 (by omega) (by omega)]
    show (none, a + w.siz + r.siz) = (none, a + (w.siz + r.siz))
    rw [Nat.add_assoc]
end
theorem W.fx_fine {m : Nat} {w : W} (h : WOk m w) : (w.fx 1 0).1 = none := by
  have h1 := h.dep
  have h2 := h.siz
  rw [W.fx_pass h.can (by omega) (by omega)]
theorem s_e : ("e" : Str) = tx [101] := by decide +kernel
theorem s_A : ("A" : Str) = tx [65] := by decide +kernel
theorem s_aa : ("a" : Str) = tx [97] := by decide +kernel
theorem s_ab : ("a b" : Str) = tx [97, 32, 98] := by decide +kernel
theorem s_bra : ("[a]2" : Str) = tx [91, 97, 93, 50] := by decide +kernel
theorem textN {H : Hp} {l sg : List Nat} {c : Nat} (hl : l.length ≤ 10000) (hc : c ∈ l) (hn : c ∉ sg) : TextB H (.str (tx l)) sg false := ⟨l, rfl, hl, (decide_eq_false fun h => hn (h c hc)).symm⟩
theorem no_sign {c m : Nat} (h : c ∉ [97, 98, 99, 100]) : c ∉ signs m := fun z => h (List.mem_of_mem_take z)
theorem a_signs {n : Nat} (h : 1 ≤ n) : 97 ∈ signs n := by
  match n, h with
  | n + 1, _ => exact List.mem_cons_self ..
/-- tuples stand, lists stay lists -/
def Shp (H H' : Hp) : Prop := (∀ b xs, H b = some (.tup xs) → H' b = some (.tup xs)) ∧ ∀ b xs, H b = some (.lst xs) → ∃ ys, H' b = some (.lst ys)
theorem Shp.lst {H : Hp} {a : Addr} {xs ys : List V} (h : H a = some (.lst xs)) : Shp H (upd H a (.lst ys)) := ⟨fun b zs e => (Tups.lst h).t _ _ e, fun b zs e => by
  by_cases z : b = a
  · rw [z]
    exact ⟨ys, upd_same⟩
  · exact ⟨zs, by rw [upd_ne z]; exact e⟩⟩
theorem NumB.shp {H H' : Hp} {x : V} {lo hi : Int} {b : Bool} (h : NumB H x lo hi b) (s : Shp H H') : NumB H' x lo hi b := by
  cases x with
  | ref a =>
    obtain ⟨h1, xs, h2 | h2⟩ := h
    · exact ⟨h1, xs, .inl (s.1 _ _ h2)⟩
    · obtain ⟨ys, e⟩ := s.2 _ _ h2
      exact ⟨h1, ys, .inr e⟩
  | _ => exact h
theorem TextB.shp {H H' : Hp} {x : V} {sg : List Nat} {b : Bool} (h : TextB H x sg b) (s : Shp H H') : TextB H' x sg b := by
  cases x with
  | ref a =>
    obtain ⟨h1, xs, h2 | h2⟩ := h
    · exact ⟨h1, xs, .inl (s.1 _ _ h2)⟩
    · obtain ⟨ys, e⟩ := s.2 _ _ h2
      exact ⟨h1, ys, .inr e⟩
  | _ => exact h
theorem TripleB.shp {H H' : Hp} {u : V} {p : Pl} {b : Bool} (h : TripleB H u p b) (s : Shp H H') : TripleB H' u p b := by
  rcases h with h | ⟨a, e, ⟨xs, h1, h2⟩ | ⟨xs, h1, h2⟩ | ⟨x, y, z, h1, h2 | h2 | ⟨g, k, e1, e2, hg, hk, h2 | h2⟩⟩⟩
  · exact .inl h
  · obtain ⟨ys, h1⟩ := s.2 _ _ h1
    exact .inr ⟨a, e, .inl ⟨ys, h1, h2⟩⟩
  · exact .inr ⟨a, e, .inr (.inl ⟨xs, s.1 _ _ h1, h2⟩)⟩
  · exact .inr ⟨a, e, .inr (.inr ⟨x, y, z, s.1 _ _ h1, .inl ⟨h2.1.shp s, h2.2⟩⟩)⟩
  · exact .inr ⟨a, e, .inr (.inr ⟨x, y, z, s.1 _ _ h1, .inr (.inl ⟨h2.1.shp s, h2.2.1.shp s, h2.2.2⟩)⟩)⟩
  · exact .inr ⟨a, e, .inr (.inr ⟨x, y, z, s.1 _ _ h1, .inr (.inr ⟨g, k, e1, e2, hg, hk, .inl ⟨h2.1.shp s, h2.2⟩⟩)⟩)⟩
  · exact .inr ⟨a, e, .inr (.inr ⟨x, y, z, s.1 _ _ h1, .inr (.inr ⟨g, k, e1, e2, hg, hk, .inr h2⟩)⟩)⟩
theorem BoxAt.upd {H : Hp} {p q a : Addr} {ns : List Int} {z : Int} {o : HO} (B : BoxAt H p q ns z) (h : a ≠ p ∧ a ≠ q) : BoxAt (upd H a o) p q ns z :=
  ⟨by rw [upd_ne h.1.symm]; exact B.b, by rw [upd_ne h.2.symm]; exact B.l, B.ne⟩
section
variable {H : Hp} {T : Addr} {x y z : V} {p : Pl}
theorem numZ {x : Int} {b : Bool} (lo hi : Int) (h : b = (decide (lo ≤ x) && decide (x ≤ hi))) : NumB H (.int x) lo hi b := h
theorem tbX (hT : H T = some (.tup [x, y, z])) (h : NumB H x 0 p.room false) : TripleB H (.ref T) p false := .inr ⟨T, rfl, .inr (.inr ⟨x, y, z, hT, .inl ⟨h, rfl⟩⟩)⟩
theorem tbY (hT : H T = some (.tup [x, y, z])) (h0 : NumB H x 0 p.room true) (h : NumB H y 0 p.room false) : TripleB H (.ref T) p false := .inr ⟨T, rfl, .inr (.inr ⟨x, y, z, hT, .inr (.inl ⟨h0, h, rfl⟩)⟩)⟩
theorem tbZ (g k : Nat) (hT : H T = some (.tup [.int (g : Int), .int (k : Int), z])) (hg : g ≤ p.room) (hk : k ≤ p.room) (h : TextB H z (signs p.many) false) : TripleB H (.ref T) p false := .inr ⟨T, rfl, .inr (.inr ⟨_, _, z, hT, .inr (.inr ⟨g, k, rfl, rfl, hg, hk, .inl ⟨h, rfl⟩⟩)⟩)⟩
theorem tbW (g k : Nat) {l : List Nat} (hT : H T = some (.tup [.int (g : Int), .int (k : Int), .str (tx l)])) (hg : g ≤ p.room) (hk : k ≤ p.room) (hl : l.length ≤ 10000) (hs : ∀ c ∈ l, c ∈ signs p.many) (hn : ¬ ((k = 0 → g = 0) ∧ g + k ≤ p.room ∧ l.length + k ≤ p.room)) : TripleB H (.ref T) p false :=
  .inr ⟨T, rfl, .inr (.inr ⟨_, _, _, hT, .inr (.inr ⟨g, k, rfl, rfl, hg, hk, .inr ⟨l, rfl, hl, hs, (decide_eq_false hn).symm⟩⟩)⟩)⟩
end
end SK
namespace SK
open PySem PySem.Spec PyProof.Rows L2
def top (i : Nat) : Stmt := PySem.Challenge.pw_sinkstack_k12_calls_refused.main.body.getD i (.Pass ⟨0, 0, 0, 0⟩)
abbrev s_wall : Stmt := top 0
abbrev N_wall : List Str := ["k"]
abbrev P_wall : List Str := ["k"]
theorem sc_wall : FnScope N_wall P_wall (defScope s_wall) := ⟨rfl, rfl, rfl, by decide +kernel, rfl, by decide +kernel, by decide +kernel⟩
abbrev s_in_BadPlan : Stmt := inClass (top 3) 0
abbrev s_in_BadWork : Stmt := inClass (top 4) 0
abbrev s_in_BadPair : Stmt := inClass (top 5) 0
abbrev s_in_BadText : Stmt := inClass (top 6) 0
abbrev s_signs_of : Stmt := top 20
abbrev N_signs_of : List Str := ["plan"]
abbrev P_signs_of : List Str := ["plan"]
theorem sc_signs_of : FnScope N_signs_of P_signs_of (defScope s_signs_of) := ⟨rfl, rfl, rfl, by decide +kernel, rfl, by decide +kernel, by decide +kernel⟩
abbrev s_is_number : Stmt := top 21
abbrev N_is_number : List Str := ["value", "low", "high"]
abbrev P_is_number : List Str := ["value", "low", "high"]
theorem sc_is_number : FnScope N_is_number P_is_number (defScope s_is_number) := ⟨rfl, rfl, rfl, by decide +kernel, rfl, by decide +kernel, by decide +kernel⟩
abbrev s_is_text_of : Stmt := top 22
abbrev N_is_text_of : List Str := ["value", "signs", "sign"]
abbrev P_is_text_of : List Str := ["value", "signs"]
theorem sc_is_text_of : FnScope N_is_text_of P_is_text_of (defScope s_is_text_of) := ⟨rfl, rfl, rfl, by decide +kernel, rfl, by decide +kernel, by decide +kernel⟩
abbrev s_check_plan : Stmt := top 23
abbrev N_check_plan : List Str := ["plan", "room", "many", "prices", "pop_price"]
abbrev P_check_plan : List Str := ["plan"]
theorem sc_check_plan : FnScope N_check_plan P_check_plan (defScope s_check_plan) := ⟨rfl, rfl, rfl, by decide +kernel, rfl, by decide +kernel, by decide +kernel⟩
abbrev s_are_prices : Stmt := top 24
abbrev N_are_prices : List Str := ["prices", "many", "price"]
abbrev P_are_prices : List Str := ["prices", "many"]
theorem sc_are_prices : FnScope N_are_prices P_are_prices (defScope s_are_prices) := ⟨rfl, rfl, rfl, by decide +kernel, rfl, by decide +kernel, by decide +kernel⟩
abbrev s_check_stack : Stmt := top 25
abbrev N_check_stack : List Str := ["plan", "stack"]
abbrev P_check_stack : List Str := ["plan", "stack"]
theorem sc_check_stack : FnScope N_check_stack P_check_stack (defScope s_check_stack) := ⟨rfl, rfl, rfl, by decide +kernel, rfl, by decide +kernel, by decide +kernel⟩
abbrev s_is_stack : Stmt := top 26
abbrev N_is_stack : List Str := ["plan", "stack"]
abbrev P_is_stack : List Str := ["plan", "stack"]
theorem sc_is_stack : FnScope N_is_stack P_is_stack (defScope s_is_stack) := ⟨rfl, rfl, rfl, by decide +kernel, rfl, by decide +kernel, by decide +kernel⟩
abbrev s_check_sign : Stmt := top 27
abbrev N_check_sign : List Str := ["plan", "sign"]
abbrev P_check_sign : List Str := ["plan", "sign"]
theorem sc_check_sign : FnScope N_check_sign P_check_sign (defScope s_check_sign) := ⟨rfl, rfl, rfl, by decide +kernel, rfl, by decide +kernel, by decide +kernel⟩
abbrev s_check_steps : Stmt := top 28
abbrev N_check_steps : List Str := ["plan", "steps"]
abbrev P_check_steps : List Str := ["plan", "steps"]
theorem sc_check_steps : FnScope N_check_steps P_check_steps (defScope s_check_steps) := ⟨rfl, rfl, rfl, by decide +kernel, rfl, by decide +kernel, by decide +kernel⟩
abbrev s_check_times : Stmt := top 29
abbrev N_check_times : List Str := ["many"]
abbrev P_check_times : List Str := ["many"]
theorem sc_check_times : FnScope N_check_times P_check_times (defScope s_check_times) := ⟨rfl, rfl, rfl, by decide +kernel, rfl, by decide +kernel, by decide +kernel⟩
abbrev s_check_triple : Stmt := top 30
abbrev N_check_triple : List Str := ["plan", "triple"]
abbrev P_check_triple : List Str := ["plan", "triple"]
theorem sc_check_triple : FnScope N_check_triple P_check_triple (defScope s_check_triple) := ⟨rfl, rfl, rfl, by decide +kernel, rfl, by decide +kernel, by decide +kernel⟩
abbrev s_is_triple : Stmt := top 31
abbrev N_is_triple : List Str := ["plan", "triple", "room", "gone", "kept", "laid"]
abbrev P_is_triple : List Str := ["plan", "triple"]
theorem sc_is_triple : FnScope N_is_triple P_is_triple (defScope s_is_triple) := ⟨rfl, rfl, rfl, by decide +kernel, rfl, by decide +kernel, by decide +kernel⟩
abbrev s_check_work : Stmt := top 32
abbrev N_check_work : List Str := ["plan", "work", "signs", "waiting", "number", "found", "deep", "inner"]
abbrev P_check_work : List Str := ["plan", "work"]
theorem sc_check_work : FnScope N_check_work P_check_work (defScope s_check_work) := ⟨rfl, rfl, rfl, by decide +kernel, rfl, by decide +kernel, by decide +kernel⟩
abbrev s_is_work_alone : Stmt := top 33
abbrev N_is_work_alone : List Str := ["work", "signs"]
abbrev P_is_work_alone : List Str := ["work", "signs"]
theorem sc_is_work_alone : FnScope N_is_work_alone P_is_work_alone (defScope s_is_work_alone) := ⟨rfl, rfl, rfl, by decide +kernel, rfl, by decide +kernel, by decide +kernel⟩
abbrev s_works_within : Stmt := top 34
abbrev N_works_within : List Str := ["work"]
abbrev P_works_within : List Str := ["work"]
theorem sc_works_within : FnScope N_works_within P_works_within (defScope s_works_within) := ⟨rfl, rfl, rfl, by decide +kernel, rfl, by decide +kernel, by decide +kernel⟩
abbrev s_told : Stmt := top 36
abbrev N_told : List Str := ["plan", "work"]
abbrev P_told : List Str := ["plan", "work"]
theorem sc_told : FnScope N_told P_told (defScope s_told) := ⟨rfl, rfl, rfl, by decide +kernel, rfl, by decide +kernel, by decide +kernel⟩
abbrev s_told_of_steps : Stmt := top 37
abbrev N_told_of_steps : List Str := ["plan", "steps"]
abbrev P_told_of_steps : List Str := ["plan", "steps"]
theorem sc_told_of_steps : FnScope N_told_of_steps P_told_of_steps (defScope s_told_of_steps) := ⟨rfl, rfl, rfl, by decide +kernel, rfl, by decide +kernel, by decide +kernel⟩
abbrev s_joined : Stmt := top 38
abbrev N_joined : List Str := ["plan", "one", "other"]
abbrev P_joined : List Str := ["plan", "one", "other"]
theorem sc_joined : FnScope N_joined P_joined (defScope s_joined) := ⟨rfl, rfl, rfl, by decide +kernel, rfl, by decide +kernel, by decide +kernel⟩
abbrev s_powered : Stmt := top 39
abbrev N_powered : List Str := ["plan", "triple", "many"]
abbrev P_powered : List Str := ["plan", "triple", "many"]
theorem sc_powered : FnScope N_powered P_powered (defScope s_powered) := ⟨rfl, rfl, rfl, by decide +kernel, rfl, by decide +kernel, by decide +kernel⟩
abbrev s_done : Stmt := top 40
abbrev N_done : List Str := ["plan", "triple", "stack"]
abbrev P_done : List Str := ["plan", "triple", "stack"]
theorem sc_done : FnScope N_done P_done (defScope s_done) := ⟨rfl, rfl, rfl, by decide +kernel, rfl, by decide +kernel, by decide +kernel⟩
abbrev s_run : Stmt := top 41
abbrev N_run : List Str := ["plan", "work", "stack"]
abbrev P_run : List Str := ["plan", "work", "stack"]
theorem sc_run : FnScope N_run P_run (defScope s_run) := ⟨rfl, rfl, rfl, by decide +kernel, rfl, by decide +kernel, by decide +kernel⟩
abbrev s_alike : Stmt := top 42
abbrev N_alike : List Str := ["plan", "one", "other"]
abbrev P_alike : List Str := ["plan", "one", "other"]
theorem sc_alike : FnScope N_alike P_alike (defScope s_alike) := ⟨rfl, rfl, rfl, by decide +kernel, rfl, by decide +kernel, by decide +kernel⟩
abbrev s_parting : Stmt := top 43
abbrev N_parting : List Str := ["plan", "one", "other", "first", "second", "size", "stack"]
abbrev P_parting : List Str := ["plan", "one", "other"]
theorem sc_parting : FnScope N_parting P_parting (defScope s_parting) := ⟨rfl, rfl, rfl, by decide +kernel, rfl, by decide +kernel, by decide +kernel⟩
abbrev s_triple_of_work : Stmt := top 44
abbrev N_triple_of_work : List Str := ["plan", "work", "whole", "inner"]
abbrev P_triple_of_work : List Str := ["plan", "work"]
theorem sc_triple_of_work : FnScope N_triple_of_work P_triple_of_work (defScope s_triple_of_work) := ⟨rfl, rfl, rfl, by decide +kernel, rfl, by decide +kernel, by decide +kernel⟩
abbrev s_triple_of_steps : Stmt := top 45
abbrev N_triple_of_steps : List Str := ["plan", "steps", "whole", "step"]
abbrev P_triple_of_steps : List Str := ["plan", "steps"]
theorem sc_triple_of_steps : FnScope N_triple_of_steps P_triple_of_steps (defScope s_triple_of_steps) := ⟨rfl, rfl, rfl, by decide +kernel, rfl, by decide +kernel, by decide +kernel⟩
abbrev s_triple_of_step : Stmt := top 46
abbrev N_triple_of_step : List Str := ["plan", "step"]
abbrev P_triple_of_step : List Str := ["plan", "step"]
theorem sc_triple_of_step : FnScope N_triple_of_step P_triple_of_step (defScope s_triple_of_step) := ⟨rfl, rfl, rfl, by decide +kernel, rfl, by decide +kernel, by decide +kernel⟩
abbrev s_untouched : Stmt := top 47
abbrev N_untouched : List Str := ["plan"]
abbrev P_untouched : List Str := ["plan"]
theorem sc_untouched : FnScope N_untouched P_untouched (defScope s_untouched) := ⟨rfl, rfl, rfl, by decide +kernel, rfl, by decide +kernel, by decide +kernel⟩
abbrev s_tidied : Stmt := top 48
abbrev N_tidied : List Str := ["gone", "kept", "laid"]
abbrev P_tidied : List Str := ["gone", "kept", "laid"]
theorem sc_tidied : FnScope N_tidied P_tidied (defScope s_tidied) := ⟨rfl, rfl, rfl, by decide +kernel, rfl, by decide +kernel, by decide +kernel⟩
abbrev s_join_triples : Stmt := top 49
abbrev N_join_triples : List Str := ["one", "other", "gone", "kept", "laid", "next_gone", "next_kept", "next_laid", "deeper", "left", "still_kept"]
abbrev P_join_triples : List Str := ["one", "other"]
theorem sc_join_triples : FnScope N_join_triples P_join_triples (defScope s_join_triples) := ⟨rfl, rfl, rfl, by decide +kernel, rfl, by decide +kernel, by decide +kernel⟩
abbrev s_power_triple : Stmt := top 50
abbrev N_power_triple : List Str := ["plan", "triple", "many", "whole", "doubled", "left"]
abbrev P_power_triple : List Str := ["plan", "triple", "many"]
theorem sc_power_triple : FnScope N_power_triple P_power_triple (defScope s_power_triple) := ⟨rfl, rfl, rfl, by decide +kernel, rfl, by decide +kernel, by decide +kernel⟩
abbrev s_stack_behind : Stmt := top 51
abbrev N_stack_behind : List Str := ["triple", "stack", "gone", "kept", "laid"]
abbrev P_stack_behind : List Str := ["triple", "stack"]
theorem sc_stack_behind : FnScope N_stack_behind P_stack_behind (defScope s_stack_behind) := ⟨rfl, rfl, rfl, by decide +kernel, rfl, by decide +kernel, by decide +kernel⟩
abbrev s_without_top : Stmt := top 52
abbrev N_without_top : List Str := ["stack", "many"]
abbrev P_without_top : List Str := ["stack", "many"]
theorem sc_without_top : FnScope N_without_top P_without_top (defScope s_without_top) := ⟨rfl, rfl, rfl, by decide +kernel, rfl, by decide +kernel, by decide +kernel⟩
abbrev s_top_of : Stmt := top 53
abbrev N_top_of : List Str := ["stack", "many"]
abbrev P_top_of : List Str := ["stack", "many"]
theorem sc_top_of : FnScope N_top_of P_top_of (defScope s_top_of) := ⟨rfl, rfl, rfl, by decide +kernel, rfl, by decide +kernel, by decide +kernel⟩
abbrev s_befores : Stmt := top 55
abbrev N_befores : List Str := ["plan", "triple", "stack", "gone", "kept", "laid", "stayed", "least"]
abbrev P_befores : List Str := ["plan", "triple", "stack"]
theorem sc_befores : FnScope N_befores P_befores (defScope s_befores) := ⟨rfl, rfl, rfl, by decide +kernel, rfl, by decide +kernel, by decide +kernel⟩
abbrev s_how_many_left : Stmt := top 56
abbrev N_how_many_left : List Str := ["plan", "gone", "kept", "stayed", "room", "many"]
abbrev P_how_many_left : List Str := ["plan", "gone", "kept", "stayed"]
theorem sc_how_many_left : FnScope N_how_many_left P_how_many_left (defScope s_how_many_left) := ⟨rfl, rfl, rfl, by decide +kernel, rfl, by decide +kernel, by decide +kernel⟩
abbrev s_texts_of_size : Stmt := top 57
abbrev N_texts_of_size : List Str := ["many", "size", "whole", "_"]
abbrev P_texts_of_size : List Str := ["many", "size"]
theorem sc_texts_of_size : FnScope N_texts_of_size P_texts_of_size (defScope s_texts_of_size) := ⟨rfl, rfl, rfl, by decide +kernel, rfl, by decide +kernel, by decide +kernel⟩
abbrev s_texts_up_to : Stmt := top 58
abbrev N_texts_up_to : List Str := ["many", "longest", "size"]
abbrev P_texts_up_to : List Str := ["many", "longest"]
theorem sc_texts_up_to : FnScope N_texts_up_to P_texts_up_to (defScope s_texts_up_to) := ⟨rfl, rfl, rfl, by decide +kernel, rfl, by decide +kernel, by decide +kernel⟩
abbrev s_how_many_laying : Stmt := top 59
abbrev N_how_many_laying : List Str := ["plan", "size"]
abbrev P_how_many_laying : List Str := ["plan", "size"]
theorem sc_how_many_laying : FnScope N_how_many_laying P_how_many_laying (defScope s_how_many_laying) := ⟨rfl, rfl, rfl, by decide +kernel, rfl, by decide +kernel, by decide +kernel⟩
abbrev s_cuts : Stmt := top 60
abbrev N_cuts : List Str := ["plan", "size", "room", "gone", "kept"]
abbrev P_cuts : List Str := ["plan", "size"]
theorem sc_cuts : FnScope N_cuts P_cuts (defScope s_cuts) := ⟨rfl, rfl, rfl, by decide +kernel, rfl, by decide +kernel, by decide +kernel⟩
abbrev s_number_of : Stmt := top 62
abbrev N_number_of : List Str := ["plan", "triple", "gone", "kept", "laid", "ahead", "choices", "size"]
abbrev P_number_of : List Str := ["plan", "triple"]
theorem sc_number_of : FnScope N_number_of P_number_of (defScope s_number_of) := ⟨rfl, rfl, rfl, by decide +kernel, rfl, by decide +kernel, by decide +kernel⟩
abbrev s_number_of_laid : Stmt := top 63
abbrev N_number_of_laid : List Str := ["plan", "laid", "number", "sign"]
abbrev P_number_of_laid : List Str := ["plan", "laid"]
theorem sc_number_of_laid : FnScope N_number_of_laid P_number_of_laid (defScope s_number_of_laid) := ⟨rfl, rfl, rfl, by decide +kernel, rfl, by decide +kernel, by decide +kernel⟩
abbrev s_cost : Stmt := top 65
abbrev N_cost : List Str := ["plan", "work"]
abbrev P_cost : List Str := ["plan", "work"]
theorem sc_cost : FnScope N_cost P_cost (defScope s_cost) := ⟨rfl, rfl, rfl, by decide +kernel, rfl, by decide +kernel, by decide +kernel⟩
abbrev s_cheapest : Stmt := top 66
abbrev N_cheapest : List Str := ["plan", "triple", "way", "steps"]
abbrev P_cheapest : List Str := ["plan", "triple"]
theorem sc_cheapest : FnScope N_cheapest P_cheapest (defScope s_cheapest) := ⟨rfl, rfl, rfl, by decide +kernel, rfl, by decide +kernel, by decide +kernel⟩
abbrev s_fewest : Stmt := top 67
abbrev N_fewest : List Str := ["plan", "triple", "popped", "filled"]
abbrev P_fewest : List Str := ["plan", "triple"]
theorem sc_fewest : FnScope N_fewest P_fewest (defScope s_fewest) := ⟨rfl, rfl, rfl, by decide +kernel, rfl, by decide +kernel, by decide +kernel⟩
abbrev s_judged : Stmt := top 68
abbrev N_judged : List Str := ["plan", "triple", "steps"]
abbrev P_judged : List Str := ["plan", "triple", "steps"]
theorem sc_judged : FnScope N_judged P_judged (defScope s_judged) := ⟨rfl, rfl, rfl, by decide +kernel, rfl, by decide +kernel, by decide +kernel⟩
abbrev s_fillers : Stmt := top 69
abbrev N_fillers : List Str := ["plan", "triple"]
abbrev P_fillers : List Str := ["plan", "triple"]
theorem sc_fillers : FnScope N_fillers P_fillers (defScope s_fillers) := ⟨rfl, rfl, rfl, by decide +kernel, rfl, by decide +kernel, by decide +kernel⟩
abbrev s_ways : Stmt := top 70
abbrev N_ways : List Str := ["plan", "triple", "gone", "kept", "laid", "room"]
abbrev P_ways : List Str := ["plan", "triple"]
theorem sc_ways : FnScope N_ways P_ways (defScope s_ways) := ⟨rfl, rfl, rfl, by decide +kernel, rfl, by decide +kernel, by decide +kernel⟩
abbrev s_cheapest_way : Stmt := top 71
abbrev N_cheapest_way : List Str := ["plan", "triple", "filler_price", "pop_price"]
abbrev P_cheapest_way : List Str := ["plan", "triple"]
theorem sc_cheapest_way : FnScope N_cheapest_way P_cheapest_way (defScope s_cheapest_way) := ⟨rfl, rfl, rfl, by decide +kernel, rfl, by decide +kernel, by decide +kernel⟩
abbrev s_steps_of_way : Stmt := top 72
abbrev N_steps_of_way : List Str := ["plan", "way", "laid", "popped", "filled", "filling"]
abbrev P_steps_of_way : List Str := ["plan", "way", "laid"]
theorem sc_steps_of_way : FnScope N_steps_of_way P_steps_of_way (defScope s_steps_of_way) := ⟨rfl, rfl, rfl, by decide +kernel, rfl, by decide +kernel, by decide +kernel⟩
abbrev s_cheapest_sign : Stmt := top 73
abbrev N_cheapest_sign : List Str := ["plan", "prices"]
abbrev P_cheapest_sign : List Str := ["plan"]
theorem sc_cheapest_sign : FnScope N_cheapest_sign P_cheapest_sign (defScope s_cheapest_sign) := ⟨rfl, rfl, rfl, by decide +kernel, rfl, by decide +kernel, by decide +kernel⟩
abbrev s_price_of_work : Stmt := top 74
abbrev N_price_of_work : List Str := ["plan", "work", "inner"]
abbrev P_price_of_work : List Str := ["plan", "work"]
theorem sc_price_of_work : FnScope N_price_of_work P_price_of_work (defScope s_price_of_work) := ⟨rfl, rfl, rfl, by decide +kernel, rfl, by decide +kernel, by decide +kernel⟩
abbrev s_price_of_steps : Stmt := top 75
abbrev N_price_of_steps : List Str := ["plan", "steps", "step"]
abbrev P_price_of_steps : List Str := ["plan", "steps"]
theorem sc_price_of_steps : FnScope N_price_of_steps P_price_of_steps (defScope s_price_of_steps) := ⟨rfl, rfl, rfl, by decide +kernel, rfl, by decide +kernel, by decide +kernel⟩
abbrev s_price_of_step : Stmt := top 76
abbrev N_price_of_step : List Str := ["plan", "step"]
abbrev P_price_of_step : List Str := ["plan", "step"]
theorem sc_price_of_step : FnScope N_price_of_step P_price_of_step (defScope s_price_of_step) := ⟨rfl, rfl, rfl, by decide +kernel, rfl, by decide +kernel, by decide +kernel⟩
abbrev s_M_init : Stmt := inClass (top 78) 0
abbrev N_M_init : List Str := ["self", "plan", "stack"]
abbrev P_M_init : List Str := ["self", "plan", "stack"]
theorem sc_M_init : FnScope N_M_init P_M_init (defScope s_M_init) := ⟨rfl, rfl, rfl, by decide +kernel, rfl, by decide +kernel, by decide +kernel⟩
abbrev s_M_do : Stmt := inClass (top 78) 1
abbrev N_M_do : List Str := ["self", "work"]
abbrev P_M_do : List Str := ["self", "work"]
theorem sc_M_do : FnScope N_M_do P_M_do (defScope s_M_do) := ⟨rfl, rfl, rfl, by decide +kernel, rfl, by decide +kernel, by decide +kernel⟩
abbrev s_M_deeds : Stmt := inClass (top 78) 8
abbrev N_M_deeds : List Str := ["self"]
abbrev P_M_deeds : List Str := ["self"]
theorem sc_M_deeds : FnScope N_M_deeds P_M_deeds (defScope s_M_deeds) := ⟨rfl, rfl, rfl, by decide +kernel, rfl, by decide +kernel, by decide +kernel⟩
abbrev s_written : Stmt := top 82
abbrev N_written : List Str := ["plan", "work"]
abbrev P_written : List Str := ["plan", "work"]
theorem sc_written : FnScope N_written P_written (defScope s_written) := ⟨rfl, rfl, rfl, by decide +kernel, rfl, by decide +kernel, by decide +kernel⟩
abbrev s_text_of_work : Stmt := top 83
abbrev N_text_of_work : List Str := ["work", "inner"]
abbrev P_text_of_work : List Str := ["work"]
theorem sc_text_of_work : FnScope N_text_of_work P_text_of_work (defScope s_text_of_work) := ⟨rfl, rfl, rfl, by decide +kernel, rfl, by decide +kernel, by decide +kernel⟩
abbrev s_law_begun : Stmt := top 85
abbrev N_law_begun : List Str := ["_law_script", "_law_stirred", "_law_cell"]
abbrev P_law_begun : List Str := ["_law_script"]
theorem sc_law_begun : FnScope N_law_begun P_law_begun (defScope s_law_begun) := ⟨rfl, rfl, rfl, by decide +kernel, rfl, by decide +kernel, by decide +kernel⟩
abbrev s_law_take : Stmt := top 86
abbrev N_law_take : List Str := ["_law_box", "_law_size", "_law_figure"]
abbrev P_law_take : List Str := ["_law_box", "_law_size"]
theorem sc_law_take : FnScope N_law_take P_law_take (defScope s_law_take) := ⟨rfl, rfl, rfl, by decide +kernel, rfl, by decide +kernel, by decide +kernel⟩
abbrev s_law_alike : Stmt := top 87
abbrev N_law_alike : List Str := ["_law_found", "_law_due", "_law_k"]
abbrev P_law_alike : List Str := ["_law_found", "_law_due"]
theorem sc_law_alike : FnScope N_law_alike P_law_alike (defScope s_law_alike) := ⟨rfl, rfl, rfl, by decide +kernel, rfl, by decide +kernel, by decide +kernel⟩
abbrev s_law_told : Stmt := top 88
abbrev N_law_told : List Str := ["_law_work_here", "e", "_law_kinds", "_law_words", "_law_word"]
abbrev P_law_told : List Str := ["_law_work_here"]
theorem sc_law_told : FnScope N_law_told P_law_told (defScope s_law_told) := ⟨rfl, rfl, rfl, by decide +kernel, rfl, by decide +kernel, by decide +kernel⟩
abbrev s_law_all : Stmt := top 89
abbrev N_law_all : List Str := ["_law_works", "_law_due", "_law_work_here"]
abbrev P_law_all : List Str := ["_law_works", "_law_due"]
theorem sc_law_all : FnScope N_law_all P_law_all (defScope s_law_all) := ⟨rfl, rfl, rfl, by decide +kernel, rfl, by decide +kernel, by decide +kernel⟩
abbrev s_law_plan : Stmt := top 90
abbrev N_law_plan : List Str := ["_law_box", "_law_room", "_law_signs_here", "_law_size", "_law_prices", "_law_k"]
abbrev P_law_plan : List Str := ["_law_box", "_law_room", "_law_signs_here"]
theorem sc_law_plan : FnScope N_law_plan P_law_plan (defScope s_law_plan) := ⟨rfl, rfl, rfl, by decide +kernel, rfl, by decide +kernel, by decide +kernel⟩
abbrev s_law_signs : Stmt := top 91
abbrev N_law_signs : List Str := ["_law_box", "_law_plan_here", "_law_limit", "_law_k"]
abbrev P_law_signs : List Str := ["_law_box", "_law_plan_here", "_law_limit"]
theorem sc_law_signs : FnScope N_law_signs P_law_signs (defScope s_law_signs) := ⟨rfl, rfl, rfl, by decide +kernel, rfl, by decide +kernel, by decide +kernel⟩
abbrev s_law_work : Stmt := top 93
abbrev N_law_work : List Str := ["_law_box", "_law_plan_here", "_law_deep", "_law_times", "_law_way", "_law_k"]
abbrev P_law_work : List Str := ["_law_box", "_law_plan_here", "_law_deep", "_law_times"]
theorem sc_law_work : FnScope N_law_work P_law_work (defScope s_law_work) := ⟨rfl, rfl, rfl, by decide +kernel, rfl, by decide +kernel, by decide +kernel⟩
abbrev s_law_tuples : Stmt := top 94
abbrev N_law_tuples : List Str := ["_law_work_here", "_law_part"]
abbrev P_law_tuples : List Str := ["_law_work_here"]
theorem sc_law_tuples : FnScope N_law_tuples P_law_tuples (defScope s_law_tuples) := ⟨rfl, rfl, rfl, by decide +kernel, rfl, by decide +kernel, by decide +kernel⟩
abbrev s_law_some : Stmt := top 95
abbrev N_law_some : List Str := ["_law_box", "_law_plan_here", "_law_deep", "_law_times", "_law_limit", "_law_found"]
abbrev P_law_some : List Str := ["_law_box", "_law_plan_here", "_law_deep", "_law_times", "_law_limit"]
theorem sc_law_some : FnScope N_law_some P_law_some (defScope s_law_some) := ⟨rfl, rfl, rfl, by decide +kernel, rfl, by decide +kernel, by decide +kernel⟩
abbrev s_law_triple : Stmt := top 96
abbrev N_law_triple : List Str := ["_law_box", "_law_plan_here", "_law_kept", "_law_laid"]
abbrev P_law_triple : List Str := ["_law_box", "_law_plan_here"]
theorem sc_law_triple : FnScope N_law_triple P_law_triple (defScope s_law_triple) := ⟨rfl, rfl, rfl, by decide +kernel, rfl, by decide +kernel, by decide +kernel⟩
abbrev s_law_spoilt : Stmt := top 97
abbrev N_law_spoilt : List Str := ["_law_box", "_law_plan_here", "_law_work_here", "_law_odd", "_law_way", "_law_k"]
abbrev P_law_spoilt : List Str := ["_law_box", "_law_plan_here", "_law_work_here", "_law_odd"]
theorem sc_law_spoilt : FnScope N_law_spoilt P_law_spoilt (defScope s_law_spoilt) := ⟨rfl, rfl, rfl, by decide +kernel, rfl, by decide +kernel, by decide +kernel⟩
abbrev s_law_first : Stmt := top 98
abbrev N_law_first : List Str := ["_law_plan_here", "_law_work_here", "_law_deep", "_law_ahead", "_law_good", "_law_inner", "_law_part", "_law_bad"]
abbrev P_law_first : List Str := ["_law_plan_here", "_law_work_here", "_law_deep", "_law_ahead"]
theorem sc_law_first : FnScope N_law_first P_law_first (defScope s_law_first) := ⟨rfl, rfl, rfl, by decide +kernel, rfl, by decide +kernel, by decide +kernel⟩
abbrev s_law_refuses : Stmt := top 99
abbrev N_law_refuses : List Str := ["_law_box", "_law_plan_here", "_law_work_here", "_law_works", "_law_room", "_law_good", "_law_odd"]
abbrev P_law_refuses : List Str := ["_law_box", "_law_plan_here", "_law_work_here"]
theorem sc_law_refuses : FnScope N_law_refuses P_law_refuses (defScope s_law_refuses) := ⟨rfl, rfl, rfl, by decide +kernel, rfl, by decide +kernel, by decide +kernel⟩
abbrev s_law : Stmt := top 100
abbrev N_law : List Str := ["_law_script", "_law_box", "_law_turn", "_law_work_here", "_law_odd", "_law_deep", "_law_more", "_law_k", "_law_works", "_law_bad", "_law_good", "_law_machine", "_law_plan_here"]
abbrev P_law : List Str := ["_law_script"]
theorem sc_law : FnScope N_law P_law (defScope s_law) := ⟨rfl, rfl, rfl, by decide +kernel, rfl, by decide +kernel, by decide +kernel⟩
/-! ### what the module's names hold -/
structure Gx (mg : Str → Option Value) : Prop where
  SIGNS : ∃ u, mg "SIGNS" = some u ∧ RelV (.str (tx [97, 98, 99, 100])) u
  POP_STEP : ∃ u, mg "POP_STEP" = some u ∧ RelV (.str (tx [45])) u
  MOST_ROOM : ∃ u, mg "MOST_ROOM" = some u ∧ RelV (.int 9) u
  MOST_PRICE : ∃ u, mg "MOST_PRICE" = some u ∧ RelV (.int 99) u
  MOST_TIMES : ∃ u, mg "MOST_TIMES" = some u ∧ RelV (.int 1000000000000000000) u
  MOST_WORKS : ∃ u, mg "MOST_WORKS" = some u ∧ RelV (.int 60) u
  MOST_DEEP : ∃ u, mg "MOST_DEEP" = some u ∧ RelV (.int 8) u
  BEGIN : ∃ u, mg "BEGIN" = some u ∧ RelV (.str (tx [91])) u
  END : ∃ u, mg "END" = some u ∧ RelV (.str (tx [93])) u
  isi : mg "isinstance" = none
  bool : mg "bool" = none
  int : mg "int" = none
  str : mg "str" = none
  tuple : mg "tuple" = none
  len : mg "len" = none
  all : mg "all" = none
  max : mg "max" = none
  min : mg "min" = none
  range : mg "range" = none
  list : mg "list" = none
  reversed : mg "reversed" = none
  sum : mg "sum" = none
  abs : mg "abs" = none
  ValueError : mg "ValueError" = none
section
variable {P : Program} {w : World} {K : PySem.W.Frag} {mg : Str → Option Value} {base : Heap}
theorem ok_signs_of (D : Dn K mg "signs_of" s_signs_of P_signs_of) (g : Gx mg) : C8.Cal P w K mg base 1 "signs_of" spSigns [] := by
  refine D.cal sc_signs_of (fun vs H Q E h => ?_) (fun f cdv A outer s H vs Q E hr h => ?_)
  · obtain ⟨v, p, rfl, ⟨a, b, rfl, ha, hb⟩, ok, q⟩ := h
    rfl
  obtain ⟨v, p, rfl, ⟨a, b, rfl, ha, hb⟩, ok, q⟩ := h
  have nd := sc_signs_of.nd
  refine ⟨_, (pss_one (ps_ret (pe_slice sl_str (C8.pe_gc rfl g.SIGNS) po_none (po_some (pe_ix ix_tup (pv 0) pe_int (fun _ _ => rfl)))))), ?_⟩
  refine ⟨_, rfl, a, _, 1, _, rfl, rfl, SqT.of ha, rfl, _, rfl, _, rfl, sz (by decide), ?_⟩
  rw [cut_to (l := [97, 98, 99, 100]) (n := p.many) ok.m4]
  exact q H (Same.refl H)
theorem ok_is_number (D : Dn K mg "is_number" s_is_number P_is_number) (g : Gx mg) : C8.Cal P w K mg base 1 "is_number" spNum [] := by
  refine D.cal sc_is_number (fun vs H Q E h => ?_) (fun f cdv A outer s H vs Q E hr h => ?_)
  · obtain ⟨i, lo, hi, rfl, q⟩ := h
    rfl
  obtain ⟨i, lo, hi, rfl, q⟩ := h
  have nd := sc_is_number.nd
  refine ⟨_, (pss_one (ps_ret (pe_and (pe_callB call_isi rfl g.isi b_isi (pa_cons (pv 0) (pa_cons (pe_bltn (v := .ty "int") rfl g.int b_int rfl) pa_nil))) (pe_and (pe_not (pe_callB call_isi rfl g.isi b_isi (pa_cons (pv 0) (pa_cons (pe_bltn (v := .ty "bool") rfl g.bool b_bool rfl) pa_nil)))) (pe_one (pe_chain op_le op_le (pv 1) (pv 0) (pv 2))))))), ?_⟩
  refine ⟨_, rfl, _, _, _, _, _, rfl, .ty "int", ty_int, kit_ty k_int_int, _, rfl, iteT ?_⟩
  refine ⟨_, rfl, _, _, _, _, _, rfl, .ty "bool", ty_int, kit_ty k_int_bool, _, rfl, _, rfl, iteT ?_⟩
  refine ⟨_, rfl, _, rfl, _, _, rfl, rfl, _, rfl, ite2 (fun c => ?_) (fun c => ?_)⟩
  · have c1 : lo ≤ i := of_decide_eq_true c
    refine ⟨_, rfl, _, _, rfl, rfl, ?_⟩
    have e : decide (lo ≤ i ∧ i ≤ hi) = decide (i ≤ hi) := by simp [c1]
    have q1 := q H (Same.refl H)
    rw [e] at q1
    exact q1
  · have c1 : ¬ lo ≤ i := fun z => c (decide_eq_true z)
    have e : decide (lo ≤ i ∧ i ≤ hi) = false := by simp [c1]
    have q1 := q H (Same.refl H)
    rw [e] at q1
    exact q1
theorem ok_is_text_of (D : Dn K mg "is_text_of" s_is_text_of P_is_text_of) (g : Gx mg) : C8.Cal P w K mg base 1 "is_text_of" spTextOf [] := by
  refine D.cal sc_is_text_of (fun vs H Q E h => ?_) (fun f cdv A outer s H vs Q E hr h => ?_)
  · obtain ⟨l, sg, rfl, hl, q⟩ := h
    rfl
  obtain ⟨l, sg, rfl, hl, q⟩ := h
  have nd := sc_is_text_of.nd
  refine ⟨_, (pss_one (ps_ret (pe_and (pe_callB call_isi rfl g.isi b_isi (pa_cons (pv 0) (pa_cons (pe_bltn (v := .ty "str") rfl g.str b_str rfl) pa_nil))) (pe_one (pe_callB (cr_all rfl) rfl g.all b_all (pa_cons (pe_lc (own := [("sign", 2)]) rfl nd (pi_str (pv 0)) (blkOk_by (own := [("sign", 2)]) (N := N_is_text_of) (sc := defScope s_is_text_of) (by decide +kernel)) (fun _ _ _ _ _ => (pg_name (i := 2) nd rfl (.inl rfl))) (fun _ _ _ _ _ => pts_nil) (fun _ _ _ _ _ => (pe_cmpR op_in_sign (pv 2) (pv 1) rfl))) pa_nil)))))), ?_⟩
  refine ⟨_, rfl, _, _, _, _, _, rfl, .ty "str", ty_str, kit_ty k_str_str, _, rfl, iteT ?_⟩
  refine ⟨_, rfl, _, rfl, fun D hD => ?_⟩
  have hn : (tx l).cps.size = l.length := tx_len l
  refine lc_it (walk_str (z := tx l)) (fun i H2 => Same H H2 ∧ H2 D = some (.lst ((l.take i).map fun c => V.bl (decide (c ∈ sg))))) ⟨Same.new hD _, upd_same⟩ (fun _ _ _ _ => trivial) ?_ ?_
  · rintro i x H2 H3 hi ⟨s2, h2⟩ ⟨rfl, c, hc, rfl⟩
    have hc' : l[i]? = some c := by
      rw [← hc]
      simp [tx]
    refine ⟨rfl, ?_⟩
    refine ⟨_, rfl, _, rfl, c, tx sg, rfl, rfl, _, h2, ?_, fun b o e => ?_, ?_⟩
    · rw [List.length_map, List.length_take]
      exact szl (by omega)
    · rw [upd_ne (ne_of_none e hD)]
      exact s2 b o e
    · rw [upd_same, List.take_add_one, hc']
      simp [tx_list]
      exact decide_eq_decide.mpr Iff.rfl
  · rintro H2 ⟨s2, h2⟩
    rw [hn, List.take_of_length_le (Nat.le_refl _)] at h2
    refine ⟨D, l.map fun c => decide (c ∈ sg), rfl, SqL.of (by rw [h2, List.map_map]; rfl), ?_⟩
    have e : (l.map fun c => decide (c ∈ sg)).all id = decide (∀ c ∈ l, c ∈ sg) := by
      rw [List.all_map, Bool.eq_iff_iff]
      simp
    rw [e]
    exact q H2 s2
theorem ok_are_prices (D : Dn K mg "are_prices" s_are_prices P_are_prices) (g : Gx mg) (c_is_number : C8.Cal P w K mg base 1 "is_number" spNum []) : C8.Cal P w K mg base 2 "are_prices" spPrices [] := by
  refine D.cal sc_are_prices (fun vs H Q E h => ?_) (fun f cdv A outer s H vs Q E hr h => ?_)
  · obtain ⟨b, p, rfl, hb, ok, q⟩ := h
    rfl
  obtain ⟨b, p, rfl, hb, ok, q⟩ := h
  have nd := sc_are_prices.nd
  refine ⟨_, (pss_cons (ps_if (PW.pt (pw_or (pt_not (pt_val (pe_callB call_isi rfl g.isi b_isi (pa_cons (pv 0) (pa_cons (pe_bltn (v := .ty "tuple") rfl g.tuple b_tuple rfl) pa_nil))))) (pw_or1 (pt_cmpR op_ne (pe_callB call_len_seq rfl g.len PySem.boot_len (pa_cons (pv 0) pa_nil)) (pv 1) (nomark _))))) (pss_one (ps_ret pe_bl)) pss_nil)
    (pss_one (ps_ret (pe_callB (cr_all rfl) rfl g.all b_all (pa_cons (pe_lc (own := [("price", 2)]) rfl nd (pi_tup (pv 0)) (blkOk_by (own := [("price", 2)]) (N := N_are_prices) (sc := defScope s_are_prices) (by decide +kernel)) (fun _ _ _ _ _ => (pg_name (i := 2) nd rfl (.inl rfl))) (fun _ _ _ _ _ => pts_nil) (fun _ _ _ _ _ => (C8.pe_c c_is_number (by exact hr) (by decide) rfl (pa_cons (pv 2) (pa_cons pe_int (pa_cons (C8.pe_gc rfl g.MOST_PRICE) pa_nil)))))) pa_nil))))), ?_⟩
  have hl : (p.pr.map V.int).length = p.many := by rw [List.length_map]; exact ok.pl
  refine ⟨_, rfl, _, _, _, _, _, rfl, .ty "tuple", hb.ty, kit_ty k_tup_tup, _, rfl, iteF ?_⟩
  refine ⟨_, rfl, b, _, rfl, .inr (TupF.sq hb), _, rfl, rfl, _, rfl, iteNS (by rw [hl]) ?_⟩
  refine ⟨_, rfl, b, rfl, ⟨_, TupF.sq hb⟩, fun D hD => ?_⟩
  refine lc_it (walk_tup (a := b) (xs := p.pr.map V.int)) (fun i H2 => Same H H2 ∧ H2 D = some (.lst ((List.replicate i true).map V.bl))) ⟨Same.new hD _, upd_same⟩ (fun i H2 _ h2 => TupF.sq (PrAt.mono hb h2.1)) ?_ ?_
  · rintro i x H2 H3 hi ⟨s2, h2⟩ ⟨rfl, hx⟩
    rw [List.getElem?_map] at hx
    obtain ⟨y, hy, rfl⟩ := Option.map_eq_some_iff.mp hx
    have hy' := ok.pr y (List.mem_of_getElem? hy)
    refine ⟨rfl, ?_⟩
    refine ⟨_, rfl, y, 1, 99, rfl, fun H4 s4 => ⟨_, s4 _ _ h2, ?_, fun b o e => ?_, ?_⟩⟩
    · rw [List.length_map, List.length_replicate]
      have := ok.m4
      exact szl (by omega)
    · rw [upd_ne (ne_of_none e hD)]
      exact s4 _ _ (s2 b o e)
    · rw [upd_same, List.replicate_succ', List.map_append, decide_eq_true hy']
      rfl
  · rintro H2 ⟨s2, h2⟩
    refine ⟨D, _, rfl, SqL.of h2, ?_⟩
    have e : (List.replicate (p.pr.map V.int).length true).all id = true := by simp
    rw [e]
    exact q H2 s2
theorem mem_steps {c n : Nat} : c ∈ signs n ++ [45] ↔ c = 45 ∨ c ∈ signs n := by
  rw [List.mem_append, List.mem_singleton, Or.comm]
theorem ok_check_plan (D : Dn K mg "check_plan" s_check_plan P_check_plan) (g : Gx mg) (c_is_number : C8.Cal P w K mg base 1 "is_number" spNum []) (c_are_prices : C8.Cal P w K mg base 2 "are_prices" spPrices []) : C8.Cal P w K mg base 3 "check_plan" spChPlan [] := by
  refine D.cal sc_check_plan (fun vs H Q E h => ?_) (fun f cdv A outer s H vs Q E hr h => ?_)
  · obtain ⟨v, p, rfl, ⟨a, b, rfl, ha, hb⟩, ok, q⟩ := h
    rfl
  obtain ⟨v, p, rfl, ⟨a, b, rfl, ha, hb⟩, ok, q⟩ := h
  have nd := sc_check_plan.nd
  refine ⟨_, (pss_cons (ps_if (PW.pt (pw_or (pt_not (pt_val (pe_callB call_isi rfl g.isi b_isi (pa_cons (pv 0) (pa_cons (pe_bltn (v := .ty "tuple") rfl g.tuple b_tuple rfl) pa_nil))))) (pw_or1 (pt_cmpR op_ne (pe_callB call_len_seq rfl g.len PySem.boot_len (pa_cons (pv 0) pa_nil)) pe_int (nomark _))))) (pss_one ps_never) pss_nil)
    (pss_cons (ps_asg (pv 0) (pg_tup (by rfl) (pgs_cons (pg_name (i := 1) nd rfl (.inl rfl)) (pgs_cons (pg_name (i := 2) nd rfl (.inl rfl)) (pgs_cons (pg_name (i := 3) nd rfl (.inl rfl)) (pgs_cons (pg_name (i := 4) nd rfl (.inl rfl)) pgs_nil))))))
    (pss_cons (ps_if (pt_not (pt_val (C8.pe_c c_is_number hr (by decide) rfl (pa_cons (pv 1) (pa_cons pe_int (pa_cons (C8.pe_gc rfl g.MOST_ROOM) pa_nil)))))) (pss_one ps_never) pss_nil)
    (pss_cons (ps_if (pt_not (pt_val (C8.pe_c c_is_number hr (by decide) rfl (pa_cons (pv 2) (pa_cons pe_int (pa_cons (pe_callB call_len_str rfl g.len PySem.boot_len (pa_cons (C8.pe_gc rfl g.SIGNS) pa_nil)) pa_nil)))))) (pss_one ps_never) pss_nil)
    (pss_cons (ps_if (pt_not (pt_val (C8.pe_c c_are_prices hr (by decide) rfl (pa_cons (pv 3) (pa_cons (pv 2) pa_nil))))) (pss_one ps_never) pss_nil)
    (pss_one (ps_if (pt_not (pt_val (C8.pe_c c_is_number hr (by decide) rfl (pa_cons (pv 4) (pa_cons pe_int (pa_cons (C8.pe_gc rfl g.MOST_PRICE) pa_nil)))))) (pss_one ps_never) pss_nil))))))), ?_⟩
  refine ⟨_, rfl, _, _, _, _, _, rfl, .ty "tuple", ty_tup ha, kit_ty k_tup_tup, _, rfl, iteF ?_⟩
  refine ⟨_, rfl, a, _, rfl, .inr (SqT.of ha), rfl, _, rfl, iteNS rfl ?_⟩
  refine ⟨_, rfl, a, _, rfl, SqT.of ha, rfl, _, _, rfl, _, _, rfl, _, _, rfl, _, _, rfl, rfl, ?_⟩
  have e0 : decide ((1 : Int) ≤ (p.room : Int) ∧ (p.room : Int) ≤ 9) = true := decide_eq_true (by have := ok.r1; have := ok.r9; omega)
  have e1 : decide ((1 : Int) ≤ (p.many : Int) ∧ (p.many : Int) ≤ 4) = true := decide_eq_true (by have := ok.m1; have := ok.m4; omega)
  have e3 : decide ((1 : Int) ≤ p.pop ∧ p.pop ≤ 99) = true := decide_eq_true ⟨ok.q1, ok.q9⟩
  refine ⟨_, rfl, p.room, 1, 9, rfl, fun H1 s1 => ⟨_, rfl, ?_⟩⟩
  rw [e0]
  refine iteF ?_
  refine ⟨_, rfl, _, rfl, by rw [tx_len]; exact sz (by decide), p.many, 1, 4, rfl, fun H2 s2 => ⟨_, rfl, ?_⟩⟩
  rw [e1]
  refine iteF ?_
  refine ⟨_, rfl, _, rfl, b, p, rfl, PrAt.mono hb (s1.trans s2), ok, fun H3 s3 => ⟨_, rfl, iteF ?_⟩⟩
  refine ⟨_, rfl, p.pop, 1, 99, rfl, fun H4 s4 => ⟨_, rfl, ?_⟩⟩
  rw [e3]
  refine iteF ?_
  exact q H4 (s1.trans (s2.trans (s3.trans s4)))
theorem ok_is_stack (D : Dn K mg "is_stack" s_is_stack P_is_stack) (g : Gx mg) (c_signs_of : C8.Cal P w K mg base 1 "signs_of" spSigns []) (c_is_text_of : C8.Cal P w K mg base 1 "is_text_of" spTextOf []) : C8.Cal P w K mg base 2 "is_stack" spIsStack [] := by
  refine D.cal sc_is_stack (fun vs H Q E h => ?_) (fun f cdv A outer s H vs Q E hr h => ?_)
  · obtain ⟨v, p, l, rfl, ⟨a, b, rfl, ha, hb⟩, ok, hl, hs, q⟩ := h
    rfl
  obtain ⟨v, p, l, rfl, ⟨a, b, rfl, ha, hb⟩, ok, hl, hs, q⟩ := h
  have nd := sc_is_stack.nd
  refine ⟨_, (pss_one (ps_ret (pe_and (C8.pe_c c_is_text_of hr (by decide) rfl (pa_cons (pv 1) (pa_cons (C8.pe_c c_signs_of hr (by decide) rfl (pa_cons (pv 0) pa_nil)) pa_nil))) (pe_one (pe_cmpR op_le (pe_callB call_len_str rfl g.len PySem.boot_len (pa_cons (pv 1) pa_nil)) (pe_ix ix_tup (pv 0) pe_int (fun _ _ => rfl)) (nomark _)))))), ?_⟩
  have hr9 := ok.r9
  refine ⟨_, rfl, _, rfl, _, p, rfl, ⟨a, b, rfl, ha, hb⟩, ok, fun H1 s1 => ?_⟩
  refine ⟨l, signs p.many, rfl, by omega, fun H2 s2 => ⟨_, rfl, ?_⟩⟩
  rw [decide_eq_true hs]
  refine iteT ?_
  refine ⟨_, rfl, _, rfl, by rw [tx_len]; exact sz (by omega), _, rfl, a, _, 0, _, rfl, rfl, SqT.of ((s1.trans s2) _ _ ha), rfl, _, _, rfl, rfl, ?_⟩
  show Q (.bl (decide (((tx l).length : Int) ≤ (p.room : Int)))) H2
  rw [tx_len, decide_eq_true (by omega)]
  exact q H2 (s1.trans s2)
theorem ok_check_stack (D : Dn K mg "check_stack" s_check_stack P_check_stack) (g : Gx mg) (c_is_stack : C8.Cal P w K mg base 2 "is_stack" spIsStack []) : C8.Cal P w K mg base 3 "check_stack" spChStack [] := by
  refine D.cal sc_check_stack (fun vs H Q E h => ?_) (fun f cdv A outer s H vs Q E hr h => ?_)
  · obtain ⟨v, p, l, rfl, hp, ok, hl, hs, q⟩ := h
    rfl
  obtain ⟨v, p, l, rfl, hp, ok, hl, hs, q⟩ := h
  have nd := sc_check_stack.nd
  refine ⟨_, (pss_one (ps_if (pt_not (pt_val (C8.pe_c c_is_stack hr (by decide) rfl (pa_cons (pv 0) (pa_cons (pv 1) pa_nil))))) (pss_one ps_never) pss_nil)), ?_⟩
  refine ⟨_, rfl, _, rfl, v, p, l, rfl, hp, ok, hl, hs, fun H1 s1 => ⟨_, rfl, iteF ?_⟩⟩
  exact q H1 s1
theorem ok_check_steps (D : Dn K mg "check_steps" s_check_steps P_check_steps) (g : Gx mg) (c_signs_of : C8.Cal P w K mg base 1 "signs_of" spSigns []) (c_is_text_of : C8.Cal P w K mg base 1 "is_text_of" spTextOf []) : C8.Cal P w K mg base 2 "check_steps" spChSteps [] := by
  refine D.cal sc_check_steps (fun vs H Q E h => ?_) (fun f cdv A outer s H vs Q E hr h => ?_)
  · obtain ⟨v, p, l, rfl, ⟨a, b, rfl, ha, hb⟩, ok, hl, hs, q⟩ := h
    rfl
  obtain ⟨v, p, l, rfl, ⟨a, b, rfl, ha, hb⟩, ok, hl, hs, q⟩ := h
  have nd := sc_check_steps.nd
  refine ⟨_, (pss_one (ps_if (pt_not (pt_val (C8.pe_c c_is_text_of hr (by decide) rfl (pa_cons (pv 1) (pa_cons (pe_op op_add_str (C8.pe_c c_signs_of hr (by decide) rfl (pa_cons (pv 0) pa_nil)) (C8.pe_gc rfl g.POP_STEP)) pa_nil))))) (pss_one ps_never) pss_nil)), ?_⟩
  refine ⟨_, rfl, _, rfl, _, p, rfl, ⟨a, b, rfl, ha, hb⟩, ok, fun H1 s1 => ⟨_, _, rfl, rfl, ?_, ?_⟩⟩
  · rw [tx_len, tx_len]
    have := signs_len p.many
    exact sz (by simp; omega)
  rw [tx_app]
  refine ⟨l, _, rfl, hl, fun H2 s2 => ⟨_, rfl, ?_⟩⟩
  rw [decide_eq_true (fun c hc => mem_steps.mpr (hs c hc))]
  exact iteF (q H2 (s1.trans s2))
theorem ok_is_triple (D : Dn K mg "is_triple" s_is_triple P_is_triple) (g : Gx mg) (c_is_number : C8.Cal P w K mg base 1 "is_number" spNum []) (c_signs_of : C8.Cal P w K mg base 1 "signs_of" spSigns []) (c_is_text_of : C8.Cal P w K mg base 1 "is_text_of" spTextOf []) : C8.Cal P w K mg base 2 "is_triple" spIsTriple [] := by
  refine D.cal sc_is_triple (fun vs H Q E h => ?_) (fun f cdv A outer s H vs Q E hr h => ?_)
  · obtain ⟨v, p, u, t, rfl, ⟨a, b, rfl, ha, hb⟩, ok, ⟨c, rfl, hc⟩, tok, q⟩ := h
    rfl
  obtain ⟨v, p, u, t, rfl, ⟨a, b, rfl, ha, hb⟩, ok, ⟨c, rfl, hc⟩, tok, q⟩ := h
  have nd := sc_is_triple.nd
  refine ⟨_, (pss_cons (ps_if (PW.pt (pw_or (pt_not (pt_val (pe_callB call_isi rfl g.isi b_isi (pa_cons (pv 1) (pa_cons (pe_bltn (v := .ty "tuple") rfl g.tuple b_tuple rfl) pa_nil))))) (pw_or1 (pt_cmpR op_ne (pe_callB call_len_seq rfl g.len PySem.boot_len (pa_cons (pv 1) pa_nil)) pe_int (nomark _))))) (pss_one (ps_ret pe_bl)) pss_nil)
    (pss_cons (ps_set (i := 2) nd rfl (.inl rfl) (pe_ix ix_tup (pv 0) pe_int (fun _ _ => rfl)))
    (pss_cons (ps_asg (pv 1) (pg_tup (by rfl) (pgs_cons (pg_name (i := 3) nd rfl (.inl rfl)) (pgs_cons (pg_name (i := 4) nd rfl (.inl rfl)) (pgs_cons (pg_name (i := 5) nd rfl (.inl rfl)) pgs_nil)))))
    (pss_cons (ps_if (PW.pt (pw_or (pt_not (pt_val (C8.pe_c c_is_number hr (by decide) rfl (pa_cons (pv 3) (pa_cons pe_int (pa_cons (pv 2) pa_nil)))))) (pw_or1 (pt_not (pt_val (C8.pe_c c_is_number hr (by decide) rfl (pa_cons (pv 4) (pa_cons pe_int (pa_cons (pv 2) pa_nil))))))))) (pss_one (ps_ret pe_bl)) pss_nil)
    (pss_cons (ps_if (pt_not (pt_val (C8.pe_c c_is_text_of hr (by decide) rfl (pa_cons (pv 5) (pa_cons (C8.pe_c c_signs_of hr (by decide) rfl (pa_cons (pv 0) pa_nil)) pa_nil))))) (pss_one (ps_ret pe_bl)) pss_nil)
    (pss_cons (ps_if (PW.pt (pw_and (pt_cmpR op_eq (pv 4) pe_int (nomark _)) (pw_and1 (pt_cmpR op_ne (pv 3) pe_int (nomark _))))) (pss_one (ps_ret pe_bl)) pss_nil)
    (pss_one (ps_ret (pe_and (pe_cmpR op_le (pe_op op_add (pv 3) (pv 4)) (pv 2) (nomark _)) (pe_one (pe_cmpR op_le (pe_op op_add (pe_callB call_len_str rfl g.len PySem.boot_len (pa_cons (pv 5) pa_nil)) (pv 4)) (pv 2) (nomark _)))))))))))), ?_⟩
  have h1 := tok.gk
  have h2 := tok.kl
  have h3 := tok.z
  have hr9 := ok.r9
  refine ⟨_, rfl, _, _, _, _, _, rfl, .ty "tuple", ty_tup hc, kit_ty k_tup_tup, _, rfl, iteF ?_⟩
  refine ⟨_, rfl, c, _, rfl, .inr (SqT.of hc), rfl, _, rfl, iteNS rfl ?_⟩
  refine ⟨_, rfl, a, _, 0, _, rfl, rfl, SqT.of ha, rfl, ?_⟩
  refine ⟨_, rfl, c, _, rfl, SqT.of hc, rfl, _, _, rfl, _, _, rfl, _, _, rfl, rfl, ?_⟩
  refine ⟨_, rfl, _, rfl, t.g, 0, p.room, rfl, fun H1 s1 => ⟨_, rfl, ?_⟩⟩
  rw [decide_eq_true (by omega)]
  refine iteF ?_
  refine ⟨_, rfl, _, rfl, t.k, 0, p.room, rfl, fun H2 s2 => ⟨_, rfl, ?_⟩⟩
  rw [decide_eq_true (by omega)]
  refine iteF ?_
  refine ⟨_, rfl, _, rfl, _, p, rfl, ⟨a, b, rfl, (s1.trans s2) _ _ ha, PrAt.mono hb (s1.trans s2)⟩, ok, fun H3 s3 => ?_⟩
  refine ⟨t.l, signs p.many, rfl, by omega, fun H4 s4 => ⟨_, rfl, ?_⟩⟩
  rw [decide_eq_true tok.s]
  refine iteF ?_
  refine ⟨_, rfl, rfl, _, rfl, ite2 (fun z => ?_) (fun z => ?_)⟩
  · have z1 : t.k = 0 := by
      have z1 := of_decide_eq_true z
      injection z1 with z2
      omega
    have z2 := h3 z1
    refine ⟨_, rfl, rfl, _, rfl, iteNS (by rw [z2]; rfl) ?_⟩
    refine ⟨_, rfl, _, rfl, _, _, rfl, rfl, _, rfl, _, _, rfl, rfl, _, rfl, ?_⟩
    rw [decide_eq_true (by omega)]
    refine iteT ⟨_, rfl, _, rfl, by rw [tx_len]; exact sz (by omega), _, rfl, _, _, rfl, rfl, _, rfl, _, _, rfl, rfl, ?_⟩
    show Q (.bl (decide (((tx t.l).length : Int) + (t.k : Int) ≤ (p.room : Int)))) H4
    rw [tx_len, decide_eq_true (by omega)]
    exact q _ (s1.trans (s2.trans (s3.trans s4)))
  · refine iteF ?_
    refine ⟨_, rfl, _, rfl, _, _, rfl, rfl, _, rfl, _, _, rfl, rfl, _, rfl, ?_⟩
    rw [decide_eq_true (by omega)]
    refine iteT ⟨_, rfl, _, rfl, by rw [tx_len]; exact sz (by omega), _, rfl, _, _, rfl, rfl, _, rfl, _, _, rfl, rfl, ?_⟩
    show Q (.bl (decide (((tx t.l).length : Int) + (t.k : Int) ≤ (p.room : Int)))) H4
    rw [tx_len, decide_eq_true (by omega)]
    exact q _ (s1.trans (s2.trans (s3.trans s4)))
theorem ok_check_triple (D : Dn K mg "check_triple" s_check_triple P_check_triple) (g : Gx mg) (c_is_triple : C8.Cal P w K mg base 2 "is_triple" spIsTriple []) : C8.Cal P w K mg base 3 "check_triple" spChTriple [] := by
  refine D.cal sc_check_triple (fun vs H Q E h => ?_) (fun f cdv A outer s H vs Q E hr h => ?_)
  · obtain ⟨v, p, u, t, rfl, hp, ok, ht, tok, q⟩ := h
    rfl
  obtain ⟨v, p, u, t, rfl, hp, ok, ht, tok, q⟩ := h
  have nd := sc_check_triple.nd
  refine ⟨_, (pss_one (ps_if (pt_not (pt_val (C8.pe_c c_is_triple hr (by decide) rfl (pa_cons (pv 0) (pa_cons (pv 1) pa_nil))))) (pss_one ps_never) pss_nil)), ?_⟩
  refine ⟨_, rfl, _, rfl, v, p, u, t, rfl, hp, ok, ht, tok, fun H1 s1 => ⟨_, rfl, iteF ?_⟩⟩
  exact q H1 s1
theorem ok_without_top (D : Dn K mg "without_top" s_without_top P_without_top) (g : Gx mg) : C8.Cal P w K mg base 1 "without_top" spWithout [] := by
  refine D.cal sc_without_top (fun vs H Q E h => ?_) (fun f cdv A outer s H vs Q E hr h => ?_)
  · obtain ⟨l, n, rfl, hl, q⟩ := h
    rfl
  obtain ⟨l, n, rfl, hl, q⟩ := h
  have nd := sc_without_top.nd
  refine ⟨_, (pss_one (ps_ret (pe_slice sl_str (pv 0) po_none (po_some (pe_callB (call_max2 rfl) rfl g.max b_max (pa_cons (pe_op op_sub (pe_callB call_len_str rfl g.len PySem.boot_len (pa_cons (pv 0) pa_nil)) (pv 1)) (pa_cons pe_int pa_nil))))))), ?_⟩
  have e : (if (0 : Int) > (((tx l).length : Nat) : Int) - (n : Int) then (0 : Int) else (((tx l).length : Nat) : Int) - (n : Int)) = ((l.length - n : Nat) : Int) := by
    rw [tx_len]
    split <;> omega
  refine ⟨_, rfl, _, rfl, _, rfl, by rw [tx_len]; exact sz (by omega), _, rfl, _, _, rfl, rfl, _, _, rfl, ?_⟩
  rw [e]
  refine ⟨_, rfl, _, rfl, by rw [tx_len]; exact sz (by omega), ?_⟩
  rw [cut_to (Nat.sub_le ..)]
  exact q H (Same.refl H)
theorem ok_top_of (D : Dn K mg "top_of" s_top_of P_top_of) (g : Gx mg) : C8.Cal P w K mg base 1 "top_of" spTop [] := by
  refine D.cal sc_top_of (fun vs H Q E h => ?_) (fun f cdv A outer s H vs Q E hr h => ?_)
  · obtain ⟨l, n, rfl, hl, q⟩ := h
    rfl
  obtain ⟨l, n, rfl, hl, q⟩ := h
  have nd := sc_top_of.nd
  refine ⟨_, (pss_one (ps_ret (pe_slice sl_str (pv 0) (po_some (pe_callB (call_max2 rfl) rfl g.max b_max (pa_cons (pe_op op_sub (pe_callB call_len_str rfl g.len PySem.boot_len (pa_cons (pv 0) pa_nil)) (pv 1)) (pa_cons pe_int pa_nil)))) po_none))), ?_⟩
  have e : (if (0 : Int) > (((tx l).length : Nat) : Int) - (n : Int) then (0 : Int) else (((tx l).length : Nat) : Int) - (n : Int)) = ((l.length - n : Nat) : Int) := by
    rw [tx_len]
    split <;> omega
  refine ⟨_, rfl, _, rfl, _, rfl, by rw [tx_len]; exact sz (by omega), _, rfl, _, _, rfl, rfl, _, _, rfl, ?_⟩
  rw [e]
  refine ⟨_, rfl, _, rfl, by rw [tx_len]; exact sz (by omega), ?_⟩
  rw [cut_from (Nat.sub_le ..)]
  exact q H (Same.refl H)
theorem ok_stack_behind (D : Dn K mg "stack_behind" s_stack_behind P_stack_behind) (g : Gx mg) (c_without_top : C8.Cal P w K mg base 1 "without_top" spWithout []) (c_top_of : C8.Cal P w K mg base 1 "top_of" spTop []) : C8.Cal P w K mg base 2 "stack_behind" spBehind [] := by
  refine D.cal sc_stack_behind (fun vs H Q E h => ?_) (fun f cdv A outer s H vs Q E hr h => ?_)
  · obtain ⟨u, t, l, rfl, ⟨a, rfl, ha⟩, hl, ht, q⟩ := h
    rfl
  obtain ⟨u, t, l, rfl, ⟨a, rfl, ha⟩, hl, ht, q⟩ := h
  have nd := sc_stack_behind.nd
  refine ⟨_, (pss_cons (ps_asg (pv 0) (pg_tup (by rfl) (pgs_cons (pg_name (i := 2) nd rfl (.inl rfl)) (pgs_cons (pg_name (i := 3) nd rfl (.inl rfl)) (pgs_cons (pg_name (i := 4) nd rfl (.inl rfl)) pgs_nil)))))
    (pss_one (ps_ret (pe_op op_add_str (C8.pe_c c_top_of hr (by decide) rfl (pa_cons (C8.pe_c c_without_top hr (by decide) rfl (pa_cons (pv 1) (pa_cons (pv 2) pa_nil))) (pa_cons (pv 3) pa_nil))) (pv 4))))), ?_⟩
  refine ⟨_, rfl, a, _, rfl, SqT.of ha, rfl, _, _, rfl, _, _, rfl, _, _, rfl, rfl, ?_⟩
  refine ⟨_, rfl, _, rfl, l, t.g, rfl, by omega, fun H1 s1 => ⟨_, rfl, ct t.g l, t.k, rfl, by rw [len_ct]; omega, fun H2 s2 => ⟨_, rfl, _, _, rfl, rfl, ?_, ?_⟩⟩⟩
  · rw [tx_len, tx_len, len_tp, len_ct]
    exact sz (by omega)
  · rw [tx_app]
    exact q _ (s1.trans s2)
theorem ok_tidied (D : Dn K mg "tidied" s_tidied P_tidied) (g : Gx mg) : C8.Cal P w K mg base 1 "tidied" spTidied [] := by
  refine D.cal sc_tidied (fun vs H Q E h => ?_) (fun f cdv A outer s H vs Q E hr h => ?_)
  · obtain ⟨a, b, l, rfl, q⟩ := h
    rfl
  obtain ⟨a, b, l, rfl, q⟩ := h
  have nd := sc_tidied.nd
  refine ⟨_, (pss_cons (ps_if (pt_cmpR op_eq (pv 1) pe_int (nomark _)) (pss_one (ps_ret (pe_tup (pa_cons pe_int (pa_cons pe_int (pa_cons (pv 2) pa_nil)))))) pss_nil)
    (pss_one (ps_ret (pe_tup (pa_cons (pv 0) (pa_cons (pv 1) (pa_cons (pv 2) pa_nil))))))), ?_⟩
  refine ⟨_, rfl, rfl, _, rfl, ite2 (fun c => ?_) (fun c => ?_)⟩
  · have c' : b = 0 := by
      have c1 := of_decide_eq_true c
      injection c1 with c2
      omega
    refine ⟨_, rfl, by show 3 ≤ sizeLine; decide, fun p hp => ?_⟩
    refine q _ _ (Same.new hp _) ⟨p, rfl, ?_⟩
    unfold tidy
    rw [if_pos c', upd_same]
    rfl
  · have c' : ¬ b = 0 := fun z => by
      subst z
      exact c (decide_eq_true rfl)
    refine ⟨_, rfl, _, rfl, _, rfl, by show 3 ≤ sizeLine; decide, fun p hp => ?_⟩
    refine q _ _ (Same.new hp _) ⟨p, rfl, ?_⟩
    unfold tidy
    rw [if_neg c', upd_same]
theorem ok_untouched (D : Dn K mg "untouched" s_untouched P_untouched) (g : Gx mg) : C8.Cal P w K mg base 1 "untouched" spUnt [] := by
  refine D.cal sc_untouched (fun vs H Q E h => ?_) (fun f cdv A outer s H vs Q E hr h => ?_)
  · obtain ⟨v, p, rfl, ⟨a, b, rfl, ha, hb⟩, q⟩ := h
    rfl
  obtain ⟨v, p, rfl, ⟨a, b, rfl, ha, hb⟩, q⟩ := h
  have nd := sc_untouched.nd
  refine ⟨_, (pss_one (ps_ret (pe_tup (pa_cons pe_int (pa_cons (pe_ix ix_tup (pv 0) pe_int (fun _ _ => rfl)) (pa_cons pe_str pa_nil)))))), ?_⟩
  refine ⟨_, rfl, a, _, 0, _, rfl, rfl, SqT.of ha, rfl, by show 3 ≤ sizeLine; decide, fun e he => ?_⟩
  refine q _ _ (Same.new he _) ⟨e, rfl, ?_⟩
  rw [upd_same]
  exact congrArg (fun z => some (HO.tup [V.int 0, V.int p.room, V.str z])) s_empty
theorem ok_join_triples (D : Dn K mg "join_triples" s_join_triples P_join_triples) (g : Gx mg) (c_without_top : C8.Cal P w K mg base 1 "without_top" spWithout []) (c_top_of : C8.Cal P w K mg base 1 "top_of" spTop []) (c_tidied : C8.Cal P w K mg base 1 "tidied" spTidied []) : C8.Cal P w K mg base 2 "join_triples" spJoin [] := by
  refine D.cal sc_join_triples (fun vs H Q E h => ?_) (fun f cdv A outer s H vs Q E hr h => ?_)
  · obtain ⟨_, _, t, u, rfl, ⟨a, rfl, ha⟩, ⟨b, rfl, hb⟩, ht, hu, q⟩ := h
    rfl
  obtain ⟨_, _, t, u, rfl, ⟨a, rfl, ha⟩, ⟨b, rfl, hb⟩, ht, hu, q⟩ := h
  have nd := sc_join_triples.nd
  refine ⟨_, (pss_cons (ps_asg (pv 0) (pg_tup (by rfl) (pgs_cons (pg_name (i := 2) nd rfl (.inl rfl)) (pgs_cons (pg_name (i := 3) nd rfl (.inl rfl)) (pgs_cons (pg_name (i := 4) nd rfl (.inl rfl)) pgs_nil)))))
    (pss_cons (ps_asg (pv 1) (pg_tup (by rfl) (pgs_cons (pg_name (i := 5) nd rfl (.inl rfl)) (pgs_cons (pg_name (i := 6) nd rfl (.inl rfl)) (pgs_cons (pg_name (i := 7) nd rfl (.inl rfl)) pgs_nil)))))
    (pss_cons (ps_set (i := 8) nd rfl (.inl rfl) (pe_callB (call_max2 rfl) rfl g.max b_max (pa_cons (pe_op op_sub (pv 5) (pe_callB call_len_str rfl g.len PySem.boot_len (pa_cons (pv 4) pa_nil))) (pa_cons pe_int pa_nil))))
    (pss_cons (ps_set (i := 9) nd rfl (.inl rfl) (C8.pe_c c_without_top hr (by decide) rfl (pa_cons (pv 4) (pa_cons (pv 5) pa_nil))))
    (pss_cons (ps_set (i := 10) nd rfl (.inl rfl) (pe_callB (call_max2 rfl) rfl g.max b_max (pa_cons (pe_callB (call_min2 rfl) rfl g.min b_min (pa_cons (pe_op op_sub (pv 3) (pv 8)) (pa_cons (pe_op op_sub (pv 6) (pe_callB call_len_str rfl g.len PySem.boot_len (pa_cons (pv 9) pa_nil))) pa_nil))) (pa_cons pe_int pa_nil))))
    (pss_one (ps_ret (C8.pe_c c_tidied hr (by decide) rfl (pa_cons (pe_op op_add (pv 2) (pv 8)) (pa_cons (pv 10) (pa_cons (pe_op op_add_str (C8.pe_c c_top_of hr (by decide) rfl (pa_cons (pv 9) (pa_cons (pv 6) pa_nil))) (pv 7)) pa_nil))))))))))), ?_⟩
  refine ⟨_, rfl, a, _, rfl, SqT.of ha, rfl, _, _, rfl, _, _, rfl, _, _, rfl, rfl, ?_⟩
  refine ⟨_, rfl, b, _, rfl, SqT.of hb, rfl, _, _, rfl, _, _, rfl, _, _, rfl, rfl, ?_⟩
  have e1 : (if (0 : Int) > (u.g : Int) - (((tx t.l).length : Nat) : Int) then (0 : Int) else (u.g : Int) - (((tx t.l).length : Nat) : Int)) = ((u.g - t.l.length : Nat) : Int) := by
    rw [tx_len]
    split <;> omega
  refine ⟨_, rfl, _, rfl, _, rfl, by rw [tx_len]; exact sz (by omega), _, _, rfl, rfl, _, _, rfl, ?_⟩
  rw [e1]
  refine ⟨_, rfl, _, rfl, t.l, u.g, rfl, by omega, fun H1 s1 => ?_⟩
  have e2 : (if (0 : Int) > (if (u.k : Int) - (((tx (ct u.g t.l)).length : Nat) : Int) < (t.k : Int) - ((u.g - t.l.length : Nat) : Int) then (u.k : Int) - (((tx (ct u.g t.l)).length : Nat) : Int) else (t.k : Int) - ((u.g - t.l.length : Nat) : Int)) then (0 : Int)
      else (if (u.k : Int) - (((tx (ct u.g t.l)).length : Nat) : Int) < (t.k : Int) - ((u.g - t.l.length : Nat) : Int) then (u.k : Int) - (((tx (ct u.g t.l)).length : Nat) : Int) else (t.k : Int) - ((u.g - t.l.length : Nat) : Int)))
      = ((min (t.k - (u.g - t.l.length)) (u.k - (ct u.g t.l).length) : Nat) : Int) := by
    rw [tx_len]
    split <;> split <;> omega
  have hc := len_ct u.g t.l
  refine ⟨_, rfl, _, rfl, _, _, rfl, rfl, _, rfl, _, rfl, _, rfl, by rw [tx_len]; exact sz (by omega), _, _, rfl, rfl, _, _, rfl, _, _, rfl, ?_⟩
  rw [e2]
  refine ⟨_, rfl, _, rfl, _, _, rfl, rfl, _, rfl, _, rfl, _, rfl, ct u.g t.l, u.k, rfl, by omega, fun H2 s2 => ⟨_, rfl, _, _, rfl, rfl, ?_, ?_⟩⟩
  · rw [tx_len, tx_len, len_tp]
    exact sz (by omega)
  rw [tx_app]
  exact ⟨t.g + (u.g - t.l.length), _, _, rfl, fun H3 v s3 hv => q H3 v (s1.trans (s2.trans s3)) hv⟩
theorem ok_triple_of_step (D : Dn K mg "triple_of_step" s_triple_of_step P_triple_of_step) (g : Gx mg) (c_tidied : C8.Cal P w K mg base 1 "tidied" spTidied []) : C8.Cal P w K mg base 2 "triple_of_step" spTStep [] := by
  refine D.cal sc_triple_of_step (fun vs H Q E h => ?_) (fun f cdv A outer s H vs Q E hr h => ?_)
  · obtain ⟨v, p, c, rfl, ⟨a, b, rfl, ha, hb⟩, ok, q⟩ := h
    rfl
  obtain ⟨v, p, c, rfl, ⟨a, b, rfl, ha, hb⟩, ok, q⟩ := h
  have nd := sc_triple_of_step.nd
  refine ⟨_, (pss_cons (ps_if (pt_cmpR op_eq (pv 1) (C8.pe_gc rfl g.POP_STEP) (nomark _)) (pss_one (ps_ret (C8.pe_c c_tidied hr (by decide) rfl (pa_cons pe_int (pa_cons (pe_op op_sub (pe_ix ix_tup (pv 0) pe_int (fun _ _ => rfl)) pe_int) (pa_cons pe_str pa_nil)))))) pss_nil)
    (pss_one (ps_ret (pe_tup (pa_cons pe_int (pa_cons (pe_op op_sub (pe_ix ix_tup (pv 0) pe_int (fun _ _ => rfl)) pe_int) (pa_cons (pv 1) pa_nil))))))), ?_⟩
  have hr1 := ok.r1
  have e : (p.room : Int) - 1 = ((p.room - 1 : Nat) : Int) := by omega
  refine ⟨_, rfl, rfl, _, rfl, ite2 (fun z => ?_) (fun z => ?_)⟩
  · have z' : c = 45 := by
      have z1 := of_decide_eq_true z
      injection z1 with z2
      have z3 := str_inj.mp z2
      exact List.head_eq_of_cons_eq z3
    refine ⟨_, rfl, a, _, 0, _, rfl, rfl, SqT.of ha, rfl, _, _, rfl, rfl, ?_⟩
    refine ⟨1, p.room - 1, [], (by show [V.int 1, V.int ((p.room : Int) - 1), V.str ""] = _; rw [e, s_empty]; rfl), fun H1 v s1 hv => q H1 v s1 ?_⟩
    unfold tstep
    rw [if_pos z']
    exact hv
  · have z' : ¬ c = 45 := fun y => by
      subst y
      exact z (decide_eq_true rfl)
    refine ⟨_, rfl, a, _, 0, _, rfl, rfl, SqT.of ha, rfl, _, _, rfl, rfl, _, rfl, by show 3 ≤ sizeLine; decide, fun x hx => ?_⟩
    refine q _ _ (Same.new hx _) ⟨x, rfl, ?_⟩
    unfold tstep
    rw [if_neg z', upd_same]
    exact congrArg (fun z => some (HO.tup [V.int 0, V.int z, V.str (tx [c])])) e
theorem ok_triple_of_steps (D : Dn K mg "triple_of_steps" s_triple_of_steps P_triple_of_steps) (g : Gx mg) (c_untouched : C8.Cal P w K mg base 1 "untouched" spUnt []) (c_triple_of_step : C8.Cal P w K mg base 2 "triple_of_step" spTStep []) (c_join_triples : C8.Cal P w K mg base 2 "join_triples" spJoin []) : C8.Cal P w K mg base 3 "triple_of_steps" spTSteps [] := by
  refine D.cal sc_triple_of_steps (fun vs H Q E h => ?_) (fun f cdv A outer s H vs Q E hr h => ?_)
  · obtain ⟨v, p, l, rfl, ⟨a, b, rfl, ha, hb⟩, ok, hs, q⟩ := h
    rfl
  obtain ⟨v, p, l, rfl, ⟨a, b, rfl, ha, hb⟩, ok, hs, q⟩ := h
  have nd := sc_triple_of_steps.nd
  refine ⟨_, (pss_cons (ps_set (i := 2) nd rfl (.inl rfl) (C8.pe_c c_untouched hr (by decide) rfl (pa_cons (pv 0) pa_nil)))
    (pss_cons (ps_for PassesOwn.never rfl (pi_str (pv 1)) (pg_name (i := 3) nd rfl (.inl rfl)) (pss_one (ps_set (i := 2) nd rfl (.inl rfl) (C8.pe_c c_join_triples hr (by decide) rfl (pa_cons (pv 2) (pa_cons (C8.pe_c c_triple_of_step hr (by decide) rfl (pa_cons (pv 0) (pa_cons (pv 3) pa_nil))) pa_nil))))))
    (pss_one (ps_ret (pv 2))))), ?_⟩
  have hr1 := ok.r1
  have hr9 := ok.r9
  have hn : (tx l).cps.size = l.length := tx_len l
  refine ⟨_, rfl, _, p, rfl, ⟨a, b, rfl, ha, hb⟩, fun H1 v1 s1 hv1 => ?_⟩
  refine ⟨_, rfl, _, rfl, for_it (walk_str (z := tx l)) (fun i σ H2 => ∃ (v2 : V) (o : Option V), σ = [some (.ref a), some (.str (tx l)), some v2, o] ∧ Same H H2 ∧ TripAt H2 v2 ((l.take i).foldl (fun t c => tjoin t (tstep p.room c)) (tunt p.room)))
    ⟨v1, none, rfl, s1, hv1⟩ (fun _ _ _ _ _ => trivial) ?_ ?_⟩
  · rintro i x σ H2 H3 hi ⟨v2, o, rfl, s2, hv2⟩ ⟨rfl, c, hc, rfl⟩
    have hc' : l[i]? = some c := by
      rw [← hc]
      simp [tx]
    have hcm : c ∈ l := List.mem_of_getElem? hc'
    have ok1 := ttold_ok (room := p.room) (many := p.many) hr1 (l.take i) (tunt p.room) tunt_ok (fun d hd => hs d (List.mem_of_mem_take hd))
    have ok2 := tstep_ok (room := p.room) (many := p.many) (c := c) hr1 (hs c hcm)
    have k1 := ok1.kl
    have k2 := ok2.kl
    refine ⟨_, rfl, _, rfl, _, rfl, _, p, c, rfl, ⟨a, b, rfl, s2 _ _ ha, PrAt.mono hb s2⟩, ok, fun H4 v4 s4 hv4 => ?_⟩
    refine ⟨_, _, _, _, rfl, hv2.mono s4, hv4, by omega, by omega, fun H5 v5 s5 hv5 => ?_⟩
    refine ⟨v5, _, rfl, s2.trans (s4.trans s5), ?_⟩
    rw [List.take_add_one, hc', List.foldl_append]
    exact hv5
  · rintro σ H2 ⟨v2, o, rfl, s2, hv2⟩
    rw [hn, List.take_of_length_le (Nat.le_refl _)] at hv2
    exact ⟨_, rfl, q H2 v2 s2 hv2⟩
theorem ok_told_of_steps (D : Dn K mg "told_of_steps" s_told_of_steps P_told_of_steps) (g : Gx mg) (c_check_plan : C8.Cal P w K mg base 3 "check_plan" spChPlan []) (c_check_steps : C8.Cal P w K mg base 2 "check_steps" spChSteps []) (c_triple_of_steps : C8.Cal P w K mg base 3 "triple_of_steps" spTSteps []) : C8.Cal P w K mg base 4 "told_of_steps" spToldSteps [] := by
  refine D.cal sc_told_of_steps (fun vs H Q E h => ?_) (fun f cdv A outer s H vs Q E hr h => ?_)
  · obtain ⟨v, p, l, rfl, hp, ok, hl, hs, q⟩ := h
    rfl
  obtain ⟨v, p, l, rfl, hp, ok, hl, hs, q⟩ := h
  have nd := sc_told_of_steps.nd
  refine ⟨_, (pss_cons (ps_expr (C8.pe_c c_check_plan hr (by decide) rfl (pa_cons (pv 0) pa_nil)))
    (pss_cons (ps_expr (C8.pe_c c_check_steps hr (by decide) rfl (pa_cons (pv 0) (pa_cons (pv 1) pa_nil))))
    (pss_one (ps_ret (C8.pe_c c_triple_of_steps hr (by decide) rfl (pa_cons (pv 0) (pa_cons (pv 1) pa_nil))))))), ?_⟩
  refine ⟨_, rfl, v, p, rfl, hp, ok, fun H1 s1 => ?_⟩
  refine ⟨_, rfl, _, rfl, v, p, l, rfl, hp.mono s1, ok, hl, hs, fun H2 s2 => ?_⟩
  exact ⟨_, rfl, _, rfl, v, p, l, rfl, hp.mono (s1.trans s2), ok, hs, fun H3 v3 s3 h3 => q H3 v3 (s1.trans (s2.trans s3)) h3⟩
theorem ok_done (D : Dn K mg "done" s_done P_done) (g : Gx mg) (c_check_plan : C8.Cal P w K mg base 3 "check_plan" spChPlan []) (c_check_triple : C8.Cal P w K mg base 3 "check_triple" spChTriple []) (c_check_stack : C8.Cal P w K mg base 3 "check_stack" spChStack []) (c_stack_behind : C8.Cal P w K mg base 2 "stack_behind" spBehind []) : C8.Cal P w K mg base 4 "done" spDone [] := by
  refine D.cal sc_done (fun vs H Q E h => ?_) (fun f cdv A outer s H vs Q E hr h => ?_)
  · obtain ⟨v, p, u, t, l, rfl, hp, ok, ht, tok, hl, hs, q⟩ := h
    rfl
  obtain ⟨v, p, u, t, l, rfl, hp, ok, ht, tok, hl, hs, q⟩ := h
  have nd := sc_done.nd
  refine ⟨_, (pss_cons (ps_expr (C8.pe_c c_check_plan hr (by decide) rfl (pa_cons (pv 0) pa_nil)))
    (pss_cons (ps_expr (C8.pe_c c_check_triple hr (by decide) rfl (pa_cons (pv 0) (pa_cons (pv 1) pa_nil))))
    (pss_cons (ps_expr (C8.pe_c c_check_stack hr (by decide) rfl (pa_cons (pv 0) (pa_cons (pv 2) pa_nil))))
    (pss_one (ps_ret (C8.pe_c c_stack_behind hr (by decide) rfl (pa_cons (pv 1) (pa_cons (pv 2) pa_nil)))))))), ?_⟩
  have hr9 := ok.r9
  have hk := tok.kl
  refine ⟨_, rfl, v, p, rfl, hp, ok, fun H1 s1 => ?_⟩
  refine ⟨_, rfl, _, rfl, v, p, u, t, rfl, hp.mono s1, ok, ht.mono s1, tok, fun H2 s2 => ?_⟩
  refine ⟨_, rfl, _, rfl, v, p, l, rfl, hp.mono (s1.trans s2), ok, hl, hs, fun H3 s3 => ?_⟩
  refine ⟨_, rfl, _, rfl, u, t, l, rfl, ht.mono (s1.trans (s2.trans s3)), by omega, by omega, fun H4 s4 => ?_⟩
  exact q H4 (s1.trans (s2.trans (s3.trans s4)))
theorem ok_law_take (D : Dn K mg "_law_take" s_law_take P_law_take) (g : Gx mg) : C8.Cal P w K mg base 1 "_law_take" spTake [] := by
  refine D.cal sc_law_take (fun vs H Q E h => ?_) (fun f cdv A outer s H vs Q E hr h => ?_)
  · obtain ⟨p, q, ns, z, n, rfl, B, h0, h9, kk⟩ := h
    rfl
  obtain ⟨p, q, ns, z, n, rfl, B, h0, h9, kk⟩ := h
  have nd := sc_law_take.nd
  refine ⟨_, (pss_cons (ps_if (pt_cmpR (op_eqD hr.units) (pe_ix ix_list (pv 0) pe_int (fun _ _ => rfl)) (pe_lst pa_nil) (nomark _)) (pss_cons (ps_asg (pe_op op_modN (pe_op op_mul (pe_ix ix_list (pv 0) pe_int (fun _ _ => rfl)) pe_int) pe_int) (pg_sub (pv 0) pe_int set_list))
    (pss_one (ps_ret (pe_op op_modN (pe_op op_fdivN (pe_ix ix_list (pv 0) pe_int (fun _ _ => rfl)) pe_int) (pv 1))))) pss_nil)
    (pss_cons (ps_set (i := 2) nd rfl (.inl rfl) (pe_ix ix_list (pe_ix ix_list (pv 0) pe_int (fun _ _ => rfl)) pe_int (fun _ _ => rfl)))
    (pss_cons (ps_asg (pe_op op_fdivW (pv 2) (pv 1)) (pg_sub (pe_ix ix_list (pv 0) pe_int (fun _ _ => rfl)) pe_int set_list))
    (pss_cons (ps_if (PW.pt (pw_or (pt_cmpR op_eq (pe_ix ix_list (pe_ix ix_list (pv 0) pe_int (fun _ _ => rfl)) pe_int (fun _ _ => rfl)) pe_int (nomark _)) (pw_or1 (pt_cmpR op_eq (pe_ix ix_list (pe_ix ix_list (pv 0) pe_int (fun _ _ => rfl)) pe_int (fun _ _ => rfl)) (pe_un un_neg pe_int) (nomark _))))) (pss_one (ps_expr (pe_bm PySem.F.plainAttrs_list PySem.F.slot_list_pop PySem.F.type_list_pop mt_popAt (pe_ix ix_list (pv 0) pe_int (fun _ _ => rfl)) (pa_cons pe_int pa_nil)))) pss_nil)
    (pss_one (ps_ret (pe_op op_modN (pv 2) (pv 1)))))))), ?_⟩
  refine ⟨_, rfl, p, _, 0, _, rfl, rfl, SqL.of B.b, rfl, by show 0 ≤ sizeLine; decide, fun D hD => ?_⟩
  have s1 : Same H (upd H D (.lst [])) := Same.new hD _
  have B1 := B.mono s1
  refine ⟨.list (ns.map PyData.int), .list [], .lst (SqL.of B1.l) (dpAll ns), .lst (SqL.of upd_same) .nil, shp ns, shp [], _, rfl, ?_⟩
  cases ns with
  | nil =>
    refine iteT ?_
    refine ⟨_, rfl, p, _, 1, _, rfl, rfl, SqL.of B1.b, rfl, _, _, rfl, rfl, .inr ⟨by decide, by decide⟩, _, _, rfl, rfl, by show ((2147483647 : Int) ≠ 0); decide, ?_⟩
    refine ⟨_, rfl, p, _, 1, 1, rfl, rfl, B1.b, rfl, ?_⟩
    refine ⟨_, rfl, p, _, 1, _, rfl, rfl, SqL.of upd_same, rfl, _, _, rfl, rfl, ⟨by decide, by decide⟩, _, rfl, _, _, rfl, rfl, by show n ≠ 0; omega, ?_⟩
    obtain ⟨f1, f2⟩ := fmod_in (x := ((z * 48271).fmod 2147483647).fdiv 7) h0
    refine kk _ [] ((z * 48271).fmod 2147483647) _ f1 f2 ⟨upd_same, by rw [upd_ne B.ne.symm]; exact B1.l, B.ne⟩ fun b o e e1 e2 => ?_
    rw [upd_ne e1]
    exact s1 _ _ e
  | cons x r =>
    refine iteF ?_
    refine ⟨_, rfl, p, _, 0, _, rfl, rfl, SqL.of B1.b, rfl, q, _, 0, _, rfl, rfl, SqL.of B1.l, at0, ?_⟩
    refine ⟨_, rfl, _, rfl, _, _, rfl, rfl, divW h0 h9, ?_⟩
    refine ⟨_, rfl, p, _, 0, _, rfl, rfl, SqL.of B1.b, rfl, q, _, 0, 0, rfl, rfl, B1.l, ix0, ?_⟩
    have B2 : BoxAt (upd (upd H D (.lst [])) q (.lst (((x / n) :: r).map V.int))) p q ((x / n) :: r) z := ⟨by rw [upd_ne B.ne]; exact B1.b, upd_same, B.ne⟩
    have k2 : Keep p q H (upd (upd H D (.lst [])) q (.lst (((x / n) :: r).map V.int))) := fun b o e e1 e2 => by
      rw [upd_ne e2]
      exact s1 _ _ e
    obtain ⟨f1, f2⟩ := fmod_in (x := x) h0
    have pop : ∀ (T : Prop), (∀ (ns' : List Int) (H' : Hp), BoxAt H' p q ns' z → Keep p q H H' → T) → T := fun T h => h _ _ B2 k2
    have fin : ∀ (ns' : List Int) (H' : Hp), BoxAt H' p q ns' z → Keep p q H H' → tRet (tOp (rI (fun _ j => j ≠ 0) fun i j => V.int (i.fmod j)) (tVar 2) (tVar 1)) { nx := fun _ H' => Q V.non H', rt := Q } [some (.ref p), some (.int n), some (.int x)] H' := fun ns' H' b k =>
      ⟨_, rfl, _, rfl, _, _, rfl, rfl, by show n ≠ 0; omega, kk _ ns' z H' f1 f2 b k⟩
    have B3 : BoxAt (upd (upd (upd H D (.lst [])) q (.lst (((x / n) :: r).map V.int))) q (.lst (r.map V.int))) p q r z := ⟨by rw [upd_ne B.ne]; exact B2.b, upd_same, B.ne⟩
    have k3 : Keep p q H (upd (upd (upd H D (.lst [])) q (.lst (((x / n) :: r).map V.int))) q (.lst (r.map V.int))) := fun b o e e1 e2 => by
      rw [upd_ne e2]
      exact k2 _ _ e e1 e2
    refine ⟨_, rfl, p, _, 0, _, rfl, rfl, SqL.of B2.b, rfl, q, _, 0, _, rfl, rfl, SqL.of B2.l, at0, rfl, _, rfl, ite2 (fun c => ?_) (fun c => ?_)⟩
    · refine iteT ?_
      refine ⟨_, rfl, p, _, 0, _, rfl, rfl, SqL.of B2.b, rfl, .inl ⟨rfl, _, SqL.of B2.l⟩, q, _, 0, 0, _, rfl, rfl, B2.l, by decide, by decide, sq0, rfl, ?_⟩
      exact fin r _ B3 k3
    · refine ⟨_, rfl, p, _, 0, _, rfl, rfl, SqL.of B2.b, rfl, q, _, 0, _, rfl, rfl, SqL.of B2.l, at0, _, rfl, rfl, _, rfl, ite2 (fun c2 => ?_) (fun c2 => ?_)⟩
      · refine ⟨_, rfl, p, _, 0, _, rfl, rfl, SqL.of B2.b, rfl, .inl ⟨rfl, _, SqL.of B2.l⟩, q, _, 0, 0, _, rfl, rfl, B2.l, by decide, by decide, sq0, rfl, ?_⟩
        exact fin r _ B3 k3
      · exact fin _ _ B2 k2
theorem ok_law_begun (D : Dn K mg "_law_begun" s_law_begun P_law_begun) (g : Gx mg) : C8.Cal P w K mg base 1 "_law_begun" (spLBegun K) [] := by
  refine D.cal sc_law_begun (fun vs H Q E h => ?_) (fun f cdv A outer s H vs Q E hr h => ?_)
  · obtain ⟨a, ns, rfl, hS, h63, kk⟩ := h
    rfl
  obtain ⟨a, ns, rfl, hS, h63, kk⟩ := h
  have nd := sc_law_begun.nd
  refine ⟨_, (pss_cons (ps_set (i := 1) nd rfl (.inl rfl) pe_int)
    (pss_cons (ps_for PassesOwn.never rfl (pi_list (pv 0)) (pg_name (i := 2) nd rfl (.inl rfl)) (pss_one (ps_set (i := 1) nd rfl (.inl rfl) (pe_op op_modN (pe_op op_add (pe_op op_add (pe_op op_mul (pv 1) pe_int) (pe_op op_mul (pv 2) pe_int)) pe_int) pe_int))))
    (pss_one (ps_ret (pe_lst (pa_cons (pe_callTy call_list_of rfl g.list b_list (pa_cons (pv 0) pa_nil)) (pa_cons (pe_op op_mul (pv 1) (pe_callTy call_int1 rfl g.int b_int (pa_cons (pe_cmpR op_gt (pe_callB call_len_seq rfl g.len PySem.boot_len (pa_cons (pv 0) pa_nil)) pe_int (nomark _)) pa_nil))) pa_nil))))))), ?_⟩
  have hc : ∀ k : Bool, -(2 ^ 64) < (if k = true then (1 : Int) else 0) ∧ (if k = true then (1 : Int) else 0) < 2 ^ 64 := fun k => by
    cases k <;> decide
  refine ⟨_, rfl, a, rfl, ⟨_, hS⟩, for_list (K := K) (a := a) (xs := ns.map V.int) (fun i σ H2 => (∃ (z : Int) (o : Option V), σ = [some (.ref a), some (.int z), o]) ∧ H2 = H)
    ⟨⟨0, none, rfl⟩, rfl⟩ (fun i σ H2 _ h2 => by rw [h2.2]; exact hS) ?_ ?_⟩
  · rintro i x σ H2 hx ⟨⟨z, o, rfl⟩, rfl⟩
    rw [List.getElem?_map] at hx
    obtain ⟨y, hy, rfl⟩ := Option.map_eq_some_iff.mp hx
    refine ⟨_, rfl, _, _, rfl, rfl, .inr ⟨by decide, by decide⟩, _, rfl, _, _, rfl, rfl, .inr ⟨by decide, by decide⟩, _, _, rfl, rfl, _, _, rfl, rfl, _, _, rfl, rfl, by show ((2147483647 : Int) ≠ 0); decide, ?_⟩
    exact ⟨⟨_, _, rfl⟩, rfl⟩
  · rintro σ H2 ⟨⟨z, o, rfl⟩, rfl⟩
    refine ⟨_, rfl, a, _, rfl, .inl hS, fun l hl => ?_⟩
    refine ⟨_, rfl, _, rfl, a, _, rfl, .inl ((Same.new hl _).seq hS), _, _, rfl, rfl, .inr ⟨_, rfl, _, _, rfl, rfl, .inr (hc _), by show 2 ≤ sizeLine; decide, fun D hD => ?_⟩⟩
    have s1 := Same.new hl (.lst (ns.map V.int))
    have hD0 : H2 D = none := s1.free hD
    refine kk D l _ _ (s1.trans (Same.new hD _)) ⟨upd_same, (Same.new hD _) _ _ upd_same, fun e => ?_⟩ hD0 hl
    subst e
    rw [upd_same] at hD
    cases hD
/-- [a, b][take(box, 2)] -/
theorem pick2 {K : PySem.W.Frag} {i : Nat} {σ : L2.St} {H : Hp} {Q : VK} {p q : Addr} {ns : List Int} {z : Int} {x y : V} {t1 t2 : TE} (hσ : σ[i]? = some (some (.ref p))) (B : BoxAt H p q ns z)
    (h1 : ∀ H Q, Q x H → t1 σ H Q) (h2 : ∀ H Q, Q y H → t2 σ H Q)
    (h : ∀ (v : V) (ns' : List Int) (z' : Int) (H' : Hp), (v = x ∨ v = y) → BoxAt H' p q ns' z' → Keep p q H H' → Q v H') :
    tOp (rIxL K) (tLst (tCons t1 (tCons t2 tNil))) (tCall spTake [] C8.E0 (tCons (tVar i) (tCons (tC (.int 2)) tNil))) σ H Q := by
  refine h1 _ _ (h2 _ _ ⟨by show 2 ≤ sizeLine; decide, fun D hD => ?_⟩)
  have s1 : Same H (upd H D (.lst [x, y])) := Same.new hD _
  refine ⟨_, hσ, p, q, ns, z, 2, rfl, B.mono s1, by decide, p9 (by decide), fun r ns' z' H' r0 r1 B' k' => ?_⟩
  have k2 : Keep p q H H' := (Keep.of s1).trans k'
  have hf := B.fresh hD
  have hL : H' D = some (.lst [x, y]) := k' _ _ upd_same hf.1 hf.2
  have hr : r = 0 ∨ r = 1 := by omega
  rcases hr with rfl | rfl
  · exact ⟨D, _, 0, x, rfl, rfl, SqL.of hL, rfl, h _ _ _ _ (.inl rfl) B' k2⟩
  · exact ⟨D, _, 1, y, rfl, rfl, SqL.of hL, rfl, h _ _ _ _ (.inr rfl) B' k2⟩
theorem tC_q {v : V} {σ : L2.St} : ∀ (H : Hp) (Q : VK), Q v H → tC v σ H Q := fun _ _ h => h
theorem ok_law_plan (D : Dn K mg "_law_plan" s_law_plan P_law_plan) (g : Gx mg) (c_law_take : C8.Cal P w K mg base 1 "_law_take" spTake []) : C8.Cal P w K mg base 2 "_law_plan" spLPlan [] := by
  refine D.cal sc_law_plan (fun vs H Q E h => ?_) (fun f cdv A outer s H vs Q E hr h => ?_)
  · obtain ⟨p, q, ns, z, r, s0, rfl, B, r1, r9, s1, s4, kk⟩ := h
    rfl
  obtain ⟨p, q, ns, z, r, s0, rfl, B, r1, r9, s1, s4, kk⟩ := h
  have nd := sc_law_plan.nd
  refine ⟨_, (pss_cons (ps_set (i := 3) nd rfl (.inl rfl) (pe_op op_add pe_int (C8.pe_c c_law_take hr (by decide) rfl (pa_cons (pv 0) (pa_cons (pv 2) pa_nil)))))
    (pss_cons (ps_set (i := 4) nd rfl (.inl rfl) (pe_callTy call_tupleF rfl g.tuple b_tuple (pa_cons (pe_lc (own := [("_law_k", 5)]) rfl nd (pi_range1 (by rfl) g.range (pa_cons (pv 3) pa_nil)) (blkOk_by (own := [("_law_k", 5)]) (N := N_law_plan) (sc := defScope s_law_plan) (by decide +kernel)) (fun _ _ _ _ _ => (pg_name (i := 5) nd rfl (.inl rfl))) (fun _ _ _ _ _ => pts_nil) (fun _ _ _ _ _ => (pe_op op_add pe_int (C8.pe_c c_law_take (by exact hr) (by decide) rfl (pa_cons (pv 0) (pa_cons (pe_ix (r := rIxL K) ix_list (pe_lst (pa_cons pe_int (pa_cons pe_int pa_nil))) (C8.pe_c c_law_take (by exact hr) (by decide) rfl (pa_cons (pv 0) (pa_cons pe_int pa_nil))) (fun _ _ => rfl)) pa_nil)))))) pa_nil)))
    (pss_one (ps_ret (pe_tup (pa_cons (pe_op op_add pe_int (C8.pe_c c_law_take hr (by decide) rfl (pa_cons (pv 0) (pa_cons (pv 1) pa_nil)))) (pa_cons (pv 3) (pa_cons (pv 4) (pa_cons (pe_op op_add pe_int (C8.pe_c c_law_take hr (by decide) rfl (pa_cons (pv 0) (pa_cons (pe_ix ix_list (pe_lst (pa_cons pe_int (pa_cons pe_int pa_nil))) (C8.pe_c c_law_take hr (by decide) rfl (pa_cons (pv 0) (pa_cons pe_int pa_nil))) (fun _ _ => rfl)) pa_nil)))) pa_nil))))))))), ?_⟩
  refine ⟨_, rfl, _, rfl, p, q, ns, z, s0, rfl, B, by omega, p9 (by omega), fun m ns1 z1 H1 m0 m1 B1 k1 => ⟨_, _, rfl, rfl, ?_⟩⟩
  -- the prices
  obtain ⟨M, rfl⟩ : ∃ M : Nat, m = (M : Int) := ⟨m.toNat, by omega⟩
  refine ⟨_, rfl, ?_⟩
  refine ⟨1 + (M : Int), rfl, by omega, by omega, fun D hD => ?_⟩
  have hf := B1.fresh hD
  have sD := Same.new hD (.lst [])
  refine lc_range (lo := 0) (fun i H2 => ∃ (ps : List Int) (ns2 : List Int) (z2 : Int), BoxAt H2 p q ns2 z2 ∧ Keep p q H1 H2 ∧ H2 D = some (.lst (ps.map V.int)) ∧ ps.length = i ∧ ∀ x ∈ ps, 1 ≤ x ∧ x ≤ 99)
    ⟨[], ns1, z1, B1.mono sD, Keep.of sD, upd_same, rfl, fun x hx => by simp at hx⟩ ?_ ?_
  · rintro i H2 hi ⟨ps, ns2, z2, B2, k2, hD2, hl, hps⟩
    refine ⟨rfl, ?_⟩
    refine ⟨_, rfl, pick2 (x := .int 3) (y := .int 99) rfl B2 tC_q tC_q fun v ns3 z3 H3 hv B3 k3 => ?_⟩
    have hv' : ∃ n : Int, v = .int n ∧ 0 < n ∧ n ≤ 99 := by
      rcases hv with rfl | rfl
      · exact ⟨3, rfl, by decide, by decide⟩
      · exact ⟨99, rfl, by decide, by decide⟩
    obtain ⟨n, rfl, n0, n9⟩ := hv'
    refine ⟨p, q, ns3, z3, n, rfl, B3, n0, p9 (by omega), fun d ns4 z4 H4 d0 d1 B4 k4 => ⟨_, _, rfl, rfl, ?_⟩⟩
    have hD4 : H4 D = some (.lst (ps.map V.int)) := k4 _ _ (k3 _ _ hD2 hf.1 hf.2) hf.1 hf.2
    refine ⟨_, hD4, by rw [List.length_map, hl]; exact szl (by omega), ps ++ [1 + d], ns4, z4, ⟨by rw [upd_ne hf.1.symm]; exact B4.b, by rw [upd_ne hf.2.symm]; exact B4.l, B4.ne⟩, fun b o e e1 e2 => ?_, ?_, by simp [hl], fun x hx => ?_⟩
    · rw [upd_ne (ne_of_none e hD)]
      exact k4 _ _ (k3 _ _ (k2 _ _ e e1 e2) e1 e2) e1 e2
    · rw [upd_same, List.map_append]
      rfl
    · rcases List.mem_append.mp hx with h | h
      · exact hps x h
      · have : x = 1 + d := by simpa using h
        omega
  · rintro H2 ⟨ps, ns2, z2, B2, k2, hD2, hl, hps⟩
    have hl' : ps.length = M + 1 := by omega
    refine ⟨D, _, rfl, SqL.of hD2, fun T obT hobT hT => ?_⟩
    have sT := Same.new hT (.frz obT (.tup (ps.map V.int)))
    have BT := B2.mono sT
    refine ⟨_, rfl, _, rfl, p, q, ns2, z2, r, rfl, BT, by omega, p9 (by omega), fun a ns3 z3 H3 a0 a1 B3 k3 => ⟨_, _, rfl, rfl, ?_⟩⟩
    refine ⟨_, rfl, _, rfl, _, rfl, pick2 (x := .int 3) (y := .int 99) rfl B3 tC_q tC_q fun v ns4 z4 H4 hv B4 k4 => ?_⟩
    have hv' : ∃ n : Int, v = .int n ∧ 0 < n ∧ n ≤ 99 := by
      rcases hv with rfl | rfl
      · exact ⟨3, rfl, by decide, by decide⟩
      · exact ⟨99, rfl, by decide, by decide⟩
    obtain ⟨n, rfl, n0, n9⟩ := hv'
    refine ⟨p, q, ns4, z4, n, rfl, B4, n0, p9 (by omega), fun c ns5 z5 H5 c0 c1 B5 k5 => ⟨_, _, rfl, rfl, ?_⟩⟩
    refine ⟨by show 4 ≤ sizeLine; decide, fun U hU => ?_⟩
    have sU := Same.new hU (.tup [.int (1 + a), .int (1 + (M : Int)), .ref T, .int (1 + c)])
    obtain ⟨A0, rfl⟩ : ∃ A0 : Nat, a = (A0 : Int) := ⟨a.toNat, by omega⟩
    refine kk ⟨A0 + 1, M + 1, ps, 1 + c⟩ _ ns5 z5 _ ⟨by show 1 ≤ A0 + 1; omega, by show A0 + 1 ≤ 9; omega, by show 1 ≤ M + 1; omega, by show M + 1 ≤ 4; omega, hl', hps, by show 1 ≤ 1 + c; omega, by show 1 + c ≤ 99; omega⟩
      (by show A0 + 1 ≤ r; omega) (by show M + 1 ≤ s0; omega) ⟨U, T, rfl, ?_, ?_⟩ (B5.mono sU) ?_
    · rw [upd_same]
      have e1 : (1 : Int) + (A0 : Int) = ((A0 + 1 : Nat) : Int) := by omega
      have e2 : (1 : Int) + (M : Int) = ((M + 1 : Nat) : Int) := by omega
      show some (HO.tup [V.int (1 + (A0 : Int)), V.int (1 + (M : Int)), V.ref T, V.int (1 + c)]) = _
      rw [e1, e2]
    · exact ⟨obT, hobT, sU _ _ ((k5.tups B4).f _ _ _ ((k4.tups B3).f _ _ _ ((k3.tups BT).f _ _ _ upd_same)))⟩
    · refine (k1.trans (k2.trans ((Keep.of sT).trans (k3.trans (k4.trans (k5.trans (Keep.of sU)))))))
theorem iteD {c A B : Prop} [Decidable c] (hc : c) (h : A) : if decide c = true then A else B := by
  rw [decide_eq_true hc]
  exact iteT h
theorem iteDF {c A B : Prop} [Decidable c] (hc : ¬ c) (h : B) : if decide c = true then A else B := by
  rw [decide_eq_false hc]
  exact iteF h
theorem givD {x : V} {H : Hp} {Q : VK} (q : giv (.bl true) H Q) : Q (.bl (decide (x = x))) H := by
  rw [decide_eq_true rfl]
  exact q H (Same.refl H)
theorem ok_law_alike (D : Dn K mg "_law_alike" s_law_alike P_law_alike) (g : Gx mg) : ∀ n, C8.Cal P w K mg base n "_law_alike" (spAlike n) []
  | 0 => by
    obtain ⟨f, fd, F, hm, b⟩ := D.ex
    have no : ∀ vs H Q E, ¬ spAlike 0 vs H Q E := fun vs H Q E h => by
      obtain ⟨v, w, _, h, _⟩ := h
      exact h
    exact ⟨f, fd, _, [], ⟨fun vs H Q E h => absurd h (no vs H Q E), fun A outer s H args us vs Q E _ _ _ _ h => absurd h (no vs H Q E)⟩, hm, F.kp, b, .nil⟩
  | n + 1 => by
    have c_law_alike := ok_law_alike D g n
    refine D.cal sc_law_alike (fun vs H Q E h => ?_) (fun f cdv A outer s H vs Q E hr h => ?_)
    · obtain ⟨v, w, rfl, _⟩ := h
      rfl
    obtain ⟨v, w, rfl, al, q⟩ := h
    have nd := sc_law_alike.nd
    refine ⟨_, (pss_cons (ps_if (pt_cmpR op_isN (pv 1) pe_non (nomark _)) (pss_one (ps_ret (pe_cmpR op_isN (pv 0) pe_non (nomark _)))) pss_nil)
    (pss_cons (ps_if (pt_val (pe_callB call_isi rfl g.isi b_isi (pa_cons (pv 1) (pa_cons (pe_bltn (v := .ty "bool") rfl g.bool b_bool rfl) pa_nil)))) (pss_one (ps_ret (pe_and (pe_callB call_isi rfl g.isi b_isi (pa_cons (pv 0) (pa_cons (pe_bltn (v := .ty "bool") rfl g.bool b_bool rfl) pa_nil))) (pe_one (pe_cmpR op_eq (pv 0) (pv 1) (nomark _)))))) pss_nil)
    (pss_cons (ps_if (pt_val (pe_callB call_isi rfl g.isi b_isi (pa_cons (pv 1) (pa_cons (pe_bltn (v := .ty "int") rfl g.int b_int rfl) pa_nil)))) (pss_one (ps_ret (pe_and (pe_callB call_isi rfl g.isi b_isi (pa_cons (pv 0) (pa_cons (pe_bltn (v := .ty "int") rfl g.int b_int rfl) pa_nil))) (pe_and (pe_not (pe_callB call_isi rfl g.isi b_isi (pa_cons (pv 0) (pa_cons (pe_bltn (v := .ty "bool") rfl g.bool b_bool rfl) pa_nil)))) (pe_one (pe_cmpR op_eq (pv 0) (pv 1) (nomark _))))))) pss_nil)
    (pss_cons (ps_if (pt_val (pe_callB call_isi rfl g.isi b_isi (pa_cons (pv 1) (pa_cons (pe_bltn (v := .ty "str") rfl g.str b_str rfl) pa_nil)))) (pss_one (ps_ret (pe_and (pe_callB call_isi rfl g.isi b_isi (pa_cons (pv 0) (pa_cons (pe_bltn (v := .ty "str") rfl g.str b_str rfl) pa_nil))) (pe_one (pe_cmpR op_eq (pv 0) (pv 1) (nomark _)))))) pss_nil)
    (pss_cons (ps_if (PW.pt (pw_or (pt_cmpR op_ne (pe_callB call_isi rfl g.isi b_isi (pa_cons (pv 1) (pa_cons (pe_bltn (v := .ty "tuple") rfl g.tuple b_tuple rfl) pa_nil))) (pe_callB call_isi rfl g.isi b_isi (pa_cons (pv 0) (pa_cons (pe_bltn (v := .ty "tuple") rfl g.tuple b_tuple rfl) pa_nil))) (nomark _)) (pw_or1 (pt_cmpR op_ne (pe_callB call_isi rfl g.isi b_isi (pa_cons (pv 1) (pa_cons (pe_bltn (v := .ty "list") rfl g.list b_list rfl) pa_nil))) (pe_callB call_isi rfl g.isi b_isi (pa_cons (pv 0) (pa_cons (pe_bltn (v := .ty "list") rfl g.list b_list rfl) pa_nil))) (nomark _))))) (pss_one (ps_ret pe_bl)) pss_nil)
    (pss_cons (ps_if (pt_cmpR op_ne (pe_callB call_len rfl g.len PySem.boot_len (pa_cons (pv 0) pa_nil)) (pe_callB call_len rfl g.len PySem.boot_len (pa_cons (pv 1) pa_nil)) (nomark _)) (pss_one (ps_ret pe_bl)) pss_nil)
    (pss_cons (ps_for PassesOwn.never rfl (pi_range1 (by rfl) g.range (pa_cons (pe_callB call_len rfl g.len PySem.boot_len (pa_cons (pv 1) pa_nil)) pa_nil)) (pg_name (i := 2) nd rfl (.inl rfl)) (pss_one (ps_if (pt_not (pt_val (C8.pe_c c_law_alike hr (Nat.le_refl _) rfl (pa_cons (pe_ix ix_seq (pv 0) (pv 2) (fun _ _ => rfl)) (pa_cons (pe_ix ix_seq (pv 1) (pv 2) (fun _ _ => rfl)) pa_nil))))) (pss_one (ps_ret pe_bl)) pss_nil)))
    (pss_one (ps_ret pe_bl))))))))), ?_⟩
    rcases al with ⟨rfl, hs⟩ | ⟨a, b, xs, ys, rfl, rfl, ⟨ha, hb⟩ | ⟨ha, hb⟩, hl, hy, he⟩
    · cases v with
      | non =>
        refine ⟨_, rfl, rfl, _, rfl, iteD rfl ?_⟩
        exact ⟨_, rfl, rfl, givD q⟩
      | bl x =>
        refine ⟨_, rfl, rfl, _, rfl, iteDF (by intro z; cases z) ?_⟩
        refine ⟨_, rfl, _, _, _, _, _, rfl, .ty "bool", ty_bl, kit_ty k_bool_bool, _, rfl, iteT ?_⟩
        exact ⟨_, rfl, _, _, _, _, _, rfl, .ty "bool", ty_bl, kit_ty k_bool_bool, _, rfl, iteT ⟨_, rfl, _, rfl, rfl, givD q⟩⟩
      | int x =>
        refine ⟨_, rfl, rfl, _, rfl, iteDF (by intro z; cases z) ?_⟩
        refine ⟨_, rfl, _, _, _, _, _, rfl, .ty "bool", ty_int, kit_ty k_int_bool, _, rfl, iteF ?_⟩
        refine ⟨_, rfl, _, _, _, _, _, rfl, .ty "int", ty_int, kit_ty k_int_int, _, rfl, iteT ?_⟩
        refine ⟨_, rfl, _, _, _, _, _, rfl, .ty "int", ty_int, kit_ty k_int_int, _, rfl, iteT ?_⟩
        exact ⟨_, rfl, _, _, _, _, _, rfl, .ty "bool", ty_int, kit_ty k_int_bool, _, rfl, _, rfl, iteT ⟨_, rfl, _, rfl, rfl, givD q⟩⟩
      | str x =>
        refine ⟨_, rfl, rfl, _, rfl, iteDF (by intro z; cases z) ?_⟩
        refine ⟨_, rfl, _, _, _, _, _, rfl, .ty "bool", ty_str, kit_ty k_str_bool, _, rfl, iteF ?_⟩
        refine ⟨_, rfl, _, _, _, _, _, rfl, .ty "int", ty_str, kit_ty k_str_int, _, rfl, iteF ?_⟩
        refine ⟨_, rfl, _, _, _, _, _, rfl, .ty "str", ty_str, kit_ty k_str_str, _, rfl, iteT ?_⟩
        exact ⟨_, rfl, _, _, _, _, _, rfl, .ty "str", ty_str, kit_ty k_str_str, _, rfl, iteT ⟨_, rfl, _, rfl, rfl, givD q⟩⟩
      | ref x => exact hs.elim
      | ty x => exact hs.elim
      | flt x => exact hs.elim
      | byt x => exact hs.elim
    · -- tuples
      refine ⟨_, rfl, rfl, _, rfl, iteDF (by intro z; cases z) ?_⟩
      refine ⟨_, rfl, _, _, _, _, _, rfl, .ty "bool", ty_tup hb, kit_ty k_tup_bool, _, rfl, iteF ?_⟩
      refine ⟨_, rfl, _, _, _, _, _, rfl, .ty "int", ty_tup hb, kit_ty k_tup_int, _, rfl, iteF ?_⟩
      refine ⟨_, rfl, _, _, _, _, _, rfl, .ty "str", ty_tup hb, kit_ty k_tup_str, _, rfl, iteF ?_⟩
      refine ⟨_, rfl, _, _, _, _, _, rfl, .ty "tuple", ty_tup hb, kit_ty k_tup_tup, _, rfl, _, _, _, _, _, rfl, .ty "tuple", ty_tup ha, kit_ty k_tup_tup, rfl, _, rfl, iteNS rfl ?_⟩
      refine ⟨_, rfl, _, _, _, _, _, rfl, .ty "list", ty_tup hb, kit_ty k_tup_lst, _, rfl, _, _, _, _, _, rfl, .ty "list", ty_tup ha, kit_ty k_tup_lst, rfl, _, rfl, iteNS rfl ?_⟩
      refine ⟨_, rfl, _, _, rfl, .inr ⟨xs, SqT.of ha, rfl⟩, _, rfl, _, _, rfl, .inr ⟨ys, SqT.of hb, rfl⟩, rfl, _, rfl, iteNS (by rw [hl]) ?_⟩
      refine ⟨_, rfl, _, _, rfl, .inr ⟨ys, SqT.of hb, rfl⟩, _, rfl, by omega, by omega, ?_⟩
      refine for_range (lo := 0) (fun i σ H2 => ∃ (o : Option V), σ = [some (.ref a), some (.ref b), o] ∧ Same H H2) ⟨none, rfl, Same.refl H⟩ ?_ ?_
      · rintro i σ H2 hi ⟨o, rfl, s2⟩
        have hi' : i < ys.length := by omega
        have ex : xs[i]? = some xs[i] := List.getElem?_eq_getElem (by omega)
        have ey : ys[i]? = some ys[i] := List.getElem?_eq_getElem hi'
        refine ⟨_, rfl, _, rfl, .inr <| .inl ⟨a, xs, 0 + (i : Int), _, rfl, rfl, SqT.of (s2 _ _ ha), (by rw [Int.zero_add]; exact atI_nat ex), ?_⟩⟩
        refine ⟨_, rfl, _, rfl, .inr <| .inl ⟨b, ys, 0 + (i : Int), _, rfl, rfl, SqT.of (s2 _ _ hb), (by rw [Int.zero_add]; exact atI_nat ey), ?_⟩⟩
        refine ⟨_, _, rfl, Alk.mono s2 (he i _ _ ex ey), fun H3 s3 => ⟨_, rfl, iteF ?_⟩⟩
        exact ⟨_, rfl, s2.trans s3⟩
      · rintro σ H2 ⟨o, rfl, s2⟩
        exact q H2 s2
    · -- lists
      refine ⟨_, rfl, rfl, _, rfl, iteDF (by intro z; cases z) ?_⟩
      refine ⟨_, rfl, _, _, _, _, _, rfl, .ty "bool", ty_lst hb, kit_ty k_lst_bool, _, rfl, iteF ?_⟩
      refine ⟨_, rfl, _, _, _, _, _, rfl, .ty "int", ty_lst hb, kit_ty k_lst_int, _, rfl, iteF ?_⟩
      refine ⟨_, rfl, _, _, _, _, _, rfl, .ty "str", ty_lst hb, kit_ty k_lst_str, _, rfl, iteF ?_⟩
      refine ⟨_, rfl, _, _, _, _, _, rfl, .ty "tuple", ty_lst hb, kit_ty k_lst_tup, _, rfl, _, _, _, _, _, rfl, .ty "tuple", ty_lst ha, kit_ty k_lst_tup, rfl, _, rfl, iteNS rfl ?_⟩
      refine ⟨_, rfl, _, _, _, _, _, rfl, .ty "list", ty_lst hb, kit_ty k_lst_lst, _, rfl, _, _, _, _, _, rfl, .ty "list", ty_lst ha, kit_ty k_lst_lst, rfl, _, rfl, iteNS rfl ?_⟩
      refine ⟨_, rfl, _, _, rfl, .inl ⟨xs, SqL.of ha, rfl⟩, _, rfl, _, _, rfl, .inl ⟨ys, SqL.of hb, rfl⟩, rfl, _, rfl, iteNS (by rw [hl]) ?_⟩
      refine ⟨_, rfl, _, _, rfl, .inl ⟨ys, SqL.of hb, rfl⟩, _, rfl, by omega, by omega, ?_⟩
      refine for_range (lo := 0) (fun i σ H2 => ∃ (o : Option V), σ = [some (.ref a), some (.ref b), o] ∧ Same H H2) ⟨none, rfl, Same.refl H⟩ ?_ ?_
      · rintro i σ H2 hi ⟨o, rfl, s2⟩
        have hi' : i < ys.length := by omega
        have ex : xs[i]? = some xs[i] := List.getElem?_eq_getElem (by omega)
        have ey : ys[i]? = some ys[i] := List.getElem?_eq_getElem hi'
        refine ⟨_, rfl, _, rfl, .inl ⟨a, xs, 0 + (i : Int), _, rfl, rfl, SqL.of (s2 _ _ ha), (by rw [Int.zero_add]; exact atI_nat ex), ?_⟩⟩
        refine ⟨_, rfl, _, rfl, .inl ⟨b, ys, 0 + (i : Int), _, rfl, rfl, SqL.of (s2 _ _ hb), (by rw [Int.zero_add]; exact atI_nat ey), ?_⟩⟩
        refine ⟨_, _, rfl, Alk.mono s2 (he i _ _ ex ey), fun H3 s3 => ⟨_, rfl, iteF ?_⟩⟩
        exact ⟨_, rfl, s2.trans s3⟩
      · rintro σ H2 ⟨o, rfl, s2⟩
        exact q H2 s2
theorem inV_sign {c : Nat} {l : List Nat} (h : c ∈ l) : inV (.str (tx [c])) (l.map fun c => V.str (tx [c])) = true := by
  unfold inV
  rw [List.any_eq_true]
  refine ⟨.str (tx [c]), List.mem_map.mpr ⟨c, h, rfl⟩, ?_⟩
  show (tx [c] == tx [c]) = true
  simp
theorem flat_signs (l : List Nat) : (l.map fun c => V.str (tx [c])).all flatV = true := by
  rw [List.all_eq_true]
  intro x hx
  obtain ⟨c, _, rfl⟩ := List.mem_map.mp hx
  rfl
theorem ok_is_work_alone (D : Dn K mg "is_work_alone" s_is_work_alone P_is_work_alone) (g : Gx mg) (c_is_number : C8.Cal P w K mg base 1 "is_number" spNum []) : C8.Cal P w K mg base 2 "is_work_alone" spAlone [] := by
  refine D.cal sc_is_work_alone (fun vs H Q E h => ?_) (fun f cdv A outer s H vs Q E hr h => ?_)
  · obtain ⟨wk, v, D0, many, rfl, hw, hD, can, q⟩ := h
    rfl
  obtain ⟨wk, v, D0, many, rfl, hw, hD, can, q⟩ := h
  have nd := sc_is_work_alone.nd
  refine ⟨_, (pss_cons (ps_if (PW.pt (pw_or (pt_not (pt_val (pe_callB call_isi rfl g.isi b_isi (pa_cons (pv 0) (pa_cons (pe_bltn (v := .ty "tuple") rfl g.tuple b_tuple rfl) pa_nil))))) (pw_or1 (pt_cmpR op_eq (pe_callB call_len_seq rfl g.len PySem.boot_len (pa_cons (pv 0) pa_nil)) pe_int (nomark _))))) (pss_one (ps_ret pe_bl)) pss_nil)
    (pss_cons (ps_if (pt_cmpR op_eq (pe_ix ix_tup (pv 0) pe_int (fun _ _ => rfl)) pe_str (nomark _)) (pss_one (ps_ret (pe_and (pe_cmpR op_eq (pe_callB call_len_seq rfl g.len PySem.boot_len (pa_cons (pv 0) pa_nil)) pe_int (nomark _)) (pe_one (pe_cmpR op_in_seq (pe_ix ix_tup (pv 0) pe_int (fun _ _ => rfl)) (pv 1) rfl))))) pss_nil)
    (pss_cons (ps_if (pt_cmpR op_eq (pe_ix ix_tup (pv 0) pe_int (fun _ _ => rfl)) pe_str (nomark _)) (pss_one (ps_ret (pe_cmpR op_eq (pe_callB call_len_seq rfl g.len PySem.boot_len (pa_cons (pv 0) pa_nil)) pe_int (nomark _)))) pss_nil)
    (pss_cons (ps_if (pt_cmpR op_eq (pe_ix ix_tup (pv 0) pe_int (fun _ _ => rfl)) pe_str (nomark _)) (pss_one (ps_ret (pe_and (pe_cmpR op_eq (pe_callB call_len_seq rfl g.len PySem.boot_len (pa_cons (pv 0) pa_nil)) pe_int (nomark _)) (pe_one (pe_callB call_isi rfl g.isi b_isi (pa_cons (pe_ix ix_tup (pv 0) pe_int (fun _ _ => rfl)) (pa_cons (pe_bltn (v := .ty "tuple") rfl g.tuple b_tuple rfl) pa_nil))))))) pss_nil)
    (pss_cons (ps_if (pt_cmpR op_eq (pe_ix ix_tup (pv 0) pe_int (fun _ _ => rfl)) pe_str (nomark _)) (pss_one (ps_ret (pe_and (pe_cmpR op_eq (pe_callB call_len_seq rfl g.len PySem.boot_len (pa_cons (pv 0) pa_nil)) pe_int (nomark _)) (pe_one (C8.pe_c c_is_number hr (by decide) rfl (pa_cons (pe_ix ix_tup (pv 0) pe_int (fun _ _ => rfl)) (pa_cons pe_int (pa_cons (C8.pe_gc rfl g.MOST_TIMES) pa_nil)))))))) pss_nil)
    (pss_one (ps_ret pe_bl))))))), ?_⟩
  cases wk with
  | push c =>
    obtain ⟨a, rfl, ha⟩ := hw
    refine ⟨_, rfl, _, _, _, _, _, rfl, .ty "tuple", ty_tup ha, kit_ty k_tup_tup, _, rfl, iteF ?_⟩
    refine ⟨_, rfl, a, _, rfl, .inr (SqT.of ha), rfl, _, rfl, iteDF (by intro z; cases z) ?_⟩
    refine ⟨_, rfl, a, _, 0, _, rfl, rfl, SqT.of ha, rfl, rfl, _, rfl, iteD rfl ?_⟩
    refine ⟨_, rfl, a, _, rfl, .inr (SqT.of ha), rfl, _, rfl, iteD rfl ?_⟩
    refine ⟨_, rfl, a, _, 1, _, rfl, rfl, SqT.of ha, rfl, _, rfl, D0, _, rfl, .inl (SqL.of hD), rfl, flat_signs _, ?_⟩
    rw [inV_sign can]
    exact q H (Same.refl H)
  | pop =>
    obtain ⟨a, rfl, ha⟩ := hw
    refine ⟨_, rfl, _, _, _, _, _, rfl, .ty "tuple", ty_tup ha, kit_ty k_tup_tup, _, rfl, iteF ?_⟩
    refine ⟨_, rfl, a, _, rfl, .inr (SqT.of ha), rfl, _, rfl, iteDF (by intro z; cases z) ?_⟩
    refine ⟨_, rfl, a, _, 0, _, rfl, rfl, SqT.of ha, rfl, rfl, _, rfl, iteDF (vne s_po_pu) ?_⟩
    refine ⟨_, rfl, a, _, 0, _, rfl, rfl, SqT.of ha, rfl, rfl, _, rfl, iteD rfl ?_⟩
    refine ⟨_, rfl, a, _, rfl, .inr (SqT.of ha), rfl, ?_⟩
    exact givD q
  | row ws =>
    obtain ⟨a, b, xs, rfl, ha, hb, hs⟩ := hw
    refine ⟨_, rfl, _, _, _, _, _, rfl, .ty "tuple", ty_tup ha, kit_ty k_tup_tup, _, rfl, iteF ?_⟩
    refine ⟨_, rfl, a, _, rfl, .inr (SqT.of ha), rfl, _, rfl, iteDF (by intro z; cases z) ?_⟩
    refine ⟨_, rfl, a, _, 0, _, rfl, rfl, SqT.of ha, rfl, rfl, _, rfl, iteDF (vne s_ro_pu) ?_⟩
    refine ⟨_, rfl, a, _, 0, _, rfl, rfl, SqT.of ha, rfl, rfl, _, rfl, iteDF (vne s_ro_po) ?_⟩
    refine ⟨_, rfl, a, _, 0, _, rfl, rfl, SqT.of ha, rfl, rfl, _, rfl, iteD rfl ?_⟩
    refine ⟨_, rfl, a, _, rfl, .inr (SqT.of ha), rfl, _, rfl, iteD rfl ?_⟩
    refine ⟨_, rfl, a, _, 1, _, rfl, rfl, SqT.of ha, rfl, _, _, _, _, _, rfl, .ty "tuple", ty_tup hb, kit_ty k_tup_tup, ?_⟩
    exact q H (Same.refl H)
  | times n w' =>
    obtain ⟨a, u, rfl, ha, hu⟩ := hw
    obtain ⟨hn, _⟩ := can
    refine ⟨_, rfl, _, _, _, _, _, rfl, .ty "tuple", ty_tup ha, kit_ty k_tup_tup, _, rfl, iteF ?_⟩
    refine ⟨_, rfl, a, _, rfl, .inr (SqT.of ha), rfl, _, rfl, iteDF (by intro z; cases z) ?_⟩
    refine ⟨_, rfl, a, _, 0, _, rfl, rfl, SqT.of ha, rfl, rfl, _, rfl, iteDF (vne s_ti_pu) ?_⟩
    refine ⟨_, rfl, a, _, 0, _, rfl, rfl, SqT.of ha, rfl, rfl, _, rfl, iteDF (vne s_ti_po) ?_⟩
    refine ⟨_, rfl, a, _, 0, _, rfl, rfl, SqT.of ha, rfl, rfl, _, rfl, iteDF (vne s_ti_ro) ?_⟩
    refine ⟨_, rfl, a, _, 0, _, rfl, rfl, SqT.of ha, rfl, rfl, _, rfl, iteD rfl ?_⟩
    refine ⟨_, rfl, a, _, rfl, .inr (SqT.of ha), rfl, _, rfl, iteD rfl ?_⟩
    refine ⟨_, rfl, a, _, 1, _, rfl, rfl, SqT.of ha, rfl, (n : Int), 0, 1000000000000000000, rfl, fun H1 s1 => ?_⟩
    rw [decide_eq_true (by omega)]
    exact q H1 s1
theorem ok_works_within (D : Dn K mg "works_within" s_works_within P_works_within) (g : Gx mg) : C8.Cal P w K mg base 1 "works_within" spWithin [] := by
  refine D.cal sc_works_within (fun vs H Q E h => ?_) (fun f cdv A outer s H vs Q E hr h => ?_)
  · obtain ⟨wk, v, rfl, hw, q⟩ := h
    rfl
  obtain ⟨wk, v, rfl, hw, q⟩ := h
  have nd := sc_works_within.nd
  refine ⟨_, (pss_cons (ps_if (pt_cmpR op_eq (pe_ix ix_tup (pv 0) pe_int (fun _ _ => rfl)) pe_str (nomark _)) (pss_one (ps_ret (pe_ix ix_tup (pv 0) pe_int (fun _ _ => rfl)))) pss_nil)
    (pss_cons (ps_if (pt_cmpR op_eq (pe_ix ix_tup (pv 0) pe_int (fun _ _ => rfl)) pe_str (nomark _)) (pss_one (ps_ret (pe_tup (pa_cons (pe_ix ix_tup (pv 0) pe_int (fun _ _ => rfl)) pa_nil)))) pss_nil)
    (pss_one (ps_ret (pe_tup pa_nil))))), ?_⟩
  cases wk with
  | push c =>
    obtain ⟨a, rfl, ha⟩ := hw
    refine ⟨_, rfl, a, _, 0, _, rfl, rfl, SqT.of ha, rfl, rfl, _, rfl, iteDF (vne s_pu_ro) ?_⟩
    refine ⟨_, rfl, a, _, 0, _, rfl, rfl, SqT.of ha, rfl, rfl, _, rfl, iteDF (vne s_pu_ti) ?_⟩
    exact ⟨by show 0 ≤ sizeLine; decide, fun u hu => q _ u [] (Same.new hu _) upd_same rfl⟩
  | pop =>
    obtain ⟨a, rfl, ha⟩ := hw
    refine ⟨_, rfl, a, _, 0, _, rfl, rfl, SqT.of ha, rfl, rfl, _, rfl, iteDF (vne s_po_ro) ?_⟩
    refine ⟨_, rfl, a, _, 0, _, rfl, rfl, SqT.of ha, rfl, rfl, _, rfl, iteDF (vne s_po_ti) ?_⟩
    exact ⟨by show 0 ≤ sizeLine; decide, fun u hu => q _ u [] (Same.new hu _) upd_same rfl⟩
  | row ws =>
    obtain ⟨a, b, xs, rfl, ha, hb, hs⟩ := hw
    refine ⟨_, rfl, a, _, 0, _, rfl, rfl, SqT.of ha, rfl, rfl, _, rfl, iteD rfl ?_⟩
    exact ⟨_, rfl, a, _, 1, _, rfl, rfl, SqT.of ha, rfl, q H b xs (Same.refl H) hb hs⟩
  | times n w' =>
    obtain ⟨a, u, rfl, ha, hu⟩ := hw
    refine ⟨_, rfl, a, _, 0, _, rfl, rfl, SqT.of ha, rfl, rfl, _, rfl, iteDF (vne s_ti_ro) ?_⟩
    refine ⟨_, rfl, a, _, 0, _, rfl, rfl, SqT.of ha, rfl, rfl, _, rfl, iteD rfl ?_⟩
    refine ⟨_, rfl, a, _, 2, _, rfl, rfl, SqT.of ha, rfl, by show 1 ≤ sizeLine; decide, fun p hp => ?_⟩
    exact q _ p _ (Same.new hp _) upd_same ⟨u, [], rfl, hu.tups (Tups.of (Same.new hp _)), rfl⟩
theorem ok_power_triple (D : Dn K mg "power_triple" s_power_triple P_power_triple) (g : Gx mg) (c_untouched : C8.Cal P w K mg base 1 "untouched" spUnt []) (c_join_triples : C8.Cal P w K mg base 2 "join_triples" spJoin []) : C8.Cal P w K mg base 3 "power_triple" spPower [] := by
  refine D.cal sc_power_triple (fun vs H Q E h => ?_) (fun f cdv A outer s H vs Q E hr h => ?_)
  · obtain ⟨v, p, u, t, n, rfl, hp, ok, ht, tok, hn, q⟩ := h
    rfl
  obtain ⟨v, p, u, t, n, rfl, hp, ok, ht, tok, hn, q⟩ := h
  have nd := sc_power_triple.nd
  refine ⟨_, (pss_cons (ps_set (i := 3) nd rfl (.inl rfl) (C8.pe_c c_untouched hr (by decide) rfl (pa_cons (pv 0) pa_nil)))
    (pss_cons (ps_set (i := 4) nd rfl (.inl rfl) (pv 1))
    (pss_cons (ps_set (i := 5) nd rfl (.inl rfl) (pv 2))
    (pss_cons (ps_while PassesOwn.never (pt_cmpR op_gt (pv 5) pe_int (nomark _)) (pss_cons (ps_if (pt_cmpR op_eq (pe_op op_modN (pv 5) pe_int) pe_int (nomark _)) (pss_one (ps_set (i := 3) nd rfl (.inl rfl) (C8.pe_c c_join_triples hr (by decide) rfl (pa_cons (pv 3) (pa_cons (pv 4) pa_nil))))) pss_nil)
    (pss_cons (ps_set (i := 4) nd rfl (.inl rfl) (C8.pe_c c_join_triples hr (by decide) rfl (pa_cons (pv 4) (pa_cons (pv 4) pa_nil))))
    (pss_one (ps_set (i := 5) nd rfl (.inl rfl) (pe_op op_fdivN (pv 5) pe_int))))))
    (pss_one (ps_ret (pv 3))))))), ?_⟩
  have h9 := ok.r9
  refine ⟨_, rfl, v, p, rfl, hp, fun H1 u1 s1 hu1 => ?_⟩
  refine ⟨_, rfl, _, rfl, ?_⟩
  refine while_by (fun σ H2 => ∃ (wv dv : V) (m : Nat) (a b : Tr), σ = [some v, some u, some (.int n), some wv, some dv, some (.int m)] ∧ Same H H2 ∧ TripAt H2 wv a ∧ TripAt H2 dv b ∧ TrOk p.room p.many a ∧ TrOk p.room p.many b ∧ m ≤ 1000000000000000000 ∧ tjoin a (tpw p.room b m) = tpw p.room t n)
    (fun σ _ => match σ with | [_, _, _, _, _, some (.int m)] => m.toNat | _ => 0)
    ⟨u1, u, n, tunt p.room, t, rfl, s1, hu1, ht.mono s1, tunt_ok, tok, hn, tunt_left (tpw_ok tok n)⟩ ?_ ?_
  · rintro σ H2 ⟨wv, dv, m, a, b, rfl, s2, hwv, hdv, aok, bok, hm, e⟩
    have ka := aok.kl
    have kb := bok.kl
    refine ⟨_, rfl, _, _, rfl, rfl, _, rfl, ite2 (fun c => ?_) (fun c => ?_)⟩
    · have m0 : 0 < m := by
        have := of_decide_eq_true c
        omega
      have em : (m : Int).fmod 2 = ((m % 2 : Nat) : Int) := by
        rw [Int.fmod_eq_emod_of_nonneg _ (by decide)]
        omega
      have ed : (m : Int).fdiv 2 = ((m / 2 : Nat) : Int) := by
        rw [Int.fdiv_eq_ediv_of_nonneg _ (by decide)]
        omega
      refine ⟨_, rfl, _, _, rfl, rfl, by show ((2 : Int) ≠ 0); decide, rfl, _, rfl, ?_⟩
      have step : ∀ (H3 : Hp) (wv3 : V) (a3 : Tr), Same H H3 → TripAt H3 wv3 a3 → TripAt H3 dv b → TrOk p.room p.many a3 → tjoin a3 (tpw p.room (tjoin b b) (m / 2)) = tpw p.room t n → ∀ H4 v4, Same H3 H4 → TripAt H4 v4 (tjoin b b) →
          ∃ (wv dv : V) (m' : Nat) (a b : Tr), [some v, some u, some (.int n), some wv3, some v4, some (.int ((m : Int).fdiv 2))] = [some v, some u, some (.int n), some wv, some dv, some (.int m')] ∧ Same H H4 ∧ TripAt H4 wv a ∧ TripAt H4 dv b ∧ TrOk p.room p.many a ∧ TrOk p.room p.many b ∧ m' ≤ 1000000000000000000 ∧ tjoin a (tpw p.room b m') = tpw p.room t n :=
        fun H3 wv3 a3 s3 h3 hd3 ok3 e3 H4 v4 s4 h4 => ⟨wv3, v4, m / 2, a3, tjoin b b, by rw [ed], s3.trans s4, h3.mono s4, h4, ok3, tjoin_ok bok bok, by omega, e3⟩
      have less : ((m : Int).fdiv 2).toNat < (m : Int).toNat := by
        rw [ed]
        omega
      refine ite2 (fun c2 => ?_) (fun c2 => ?_)
      · have m1 : m % 2 = 1 := by
          have c3 := of_decide_eq_true c2
          injection c3 with c4
          have c5 : (m : Int).fmod 2 = 1 := c4
          omega
        refine ⟨_, rfl, _, rfl, _, _, a, b, rfl, hwv, hdv, by omega, by omega, fun H3 v3 s3 h3 => ?_⟩
        refine ⟨_, rfl, _, rfl, _, _, b, b, rfl, hdv.mono s3, hdv.mono s3, by omega, by omega, fun H4 v4 s4 h4 => ?_⟩
        refine ⟨_, rfl, _, _, rfl, rfl, ⟨by decide, by decide⟩, ?_⟩
        refine ⟨step H3 v3 (tjoin a b) (s2.trans s3) h3 (hdv.mono s3) (tjoin_ok aok bok) ?_ H4 v4 s4 h4, less⟩
        rw [← e, ← tpw_odd bok aok m1]
      · have m1 : m % 2 = 0 := by
          by_cases h : m % 2 = 1
          · exact absurd (decide_eq_true (congrArg V.int (show (m : Int).fmod 2 = 1 by omega))) c2
          · omega
        refine ⟨_, rfl, _, rfl, _, _, b, b, rfl, hdv, hdv, by omega, by omega, fun H4 v4 s4 h4 => ?_⟩
        refine ⟨_, rfl, _, _, rfl, rfl, ⟨by decide, by decide⟩, ?_⟩
        refine ⟨step H2 wv a s2 hwv hdv aok ?_ H4 v4 s4 h4, less⟩
        rw [← e, ← tpw_even bok m1]
    · have m0 : m = 0 := by
        by_cases h : m = 0
        · exact h
        · exact absurd (decide_eq_true (show (0 : Int) < (m : Int) by omega)) c
      subst m0
      rw [show tpw p.room b 0 = tunt p.room from rfl, tunt_right aok] at e
      rw [e] at hwv
      exact ⟨_, rfl, q H2 wv s2 hwv⟩
  · rintro σ H2 Q1 Q2 hq ⟨x, e1, i, j, e2, e3, k, e4, h⟩
    exact ⟨x, e1, i, j, e2, e3, k, e4, hq _ _ h⟩
theorem ok_price_of_step (D : Dn K mg "price_of_step" s_price_of_step P_price_of_step) (g : Gx mg) : C8.Cal P w K mg base 1 "price_of_step" spPStep [] := by
  refine D.cal sc_price_of_step (fun vs H Q E h => ?_) (fun f cdv A outer s H vs Q E hr h => ?_)
  · obtain ⟨v, p, c, rfl, ⟨a, b, rfl, ha, hb⟩, ok, hc, q⟩ := h
    rfl
  obtain ⟨v, p, c, rfl, ⟨a, b, rfl, ha, hb⟩, ok, hc, q⟩ := h
  have nd := sc_price_of_step.nd
  refine ⟨_, (pss_cons (ps_if (pt_cmpR op_eq (pv 1) (C8.pe_gc rfl g.POP_STEP) (nomark _)) (pss_one (ps_ret (pe_ix ix_tup (pv 0) pe_int (fun _ _ => rfl)))) pss_nil)
    (pss_one (ps_ret (pe_ix ix_tup (pe_ix ix_tup (pv 0) pe_int (fun _ _ => rfl)) (pe_bm PySem.F.plainAttrs_str PySem.F.slot_str_index PySem.F.type_str_index mt_sindex (C8.pe_gc rfl g.SIGNS) (pa_cons (pv 1) pa_nil)) (fun _ _ => rfl))))), ?_⟩
  refine ⟨_, rfl, rfl, _, rfl, ite2 (fun z => ?_) (fun z => ?_)⟩
  · have z' : c = 45 := by
      have z1 := of_decide_eq_true z
      injection z1 with z2
      exact List.head_eq_of_cons_eq (str_inj.mp z2)
    refine ⟨_, rfl, a, _, 3, _, rfl, rfl, SqT.of ha, rfl, ?_⟩
    have e : cst p c = p.pop := by
      unfold cst
      rw [if_pos z']
    rw [← e]
    exact q H (Same.refl H)
  · have z' : ¬ c = 45 := fun y => by
      subst y
      exact z (decide_eq_true rfl)
    have hs := hc.resolve_left z'
    have hin : ∀ M, c ∈ signs M → c - 97 < M ∧ ∃ r, Builtin.Str.occurrences (tx [97, 98, 99, 100]) (tx [c]) 0 (tx [97, 98, 99, 100]).length 1 = (c - 97) :: r := fun M hM => by
      have h4 : c = 97 ∨ c = 98 ∨ c = 99 ∨ c = 100 := by
        have := List.mem_of_mem_take (show c ∈ List.take M [97, 98, 99, 100] from hM)
        simpa using this
      have hj : c - 97 < M := by
        match M, hM with
        | 0, hM => simp [signs] at hM
        | 1, hM => simp [signs] at hM; omega
        | 2, hM => simp [signs] at hM; omega
        | 3, hM => simp [signs] at hM; omega
        | M + 4, _ => omega
      refine ⟨hj, ?_⟩
      rcases h4 with rfl | rfl | rfl | rfl
      · exact ⟨[], by decide +kernel⟩
      · exact ⟨[], by decide +kernel⟩
      · exact ⟨[], by decide +kernel⟩
      · exact ⟨[], by decide +kernel⟩
    obtain ⟨hj, r, hocc⟩ := hin p.many hs
    have hl : c - 97 < p.pr.length := by
      rw [ok.pl]
      exact hj
    refine ⟨_, rfl, a, _, 2, _, rfl, rfl, SqT.of ha, rfl, rfl, _, rfl, _, _, _, r, rfl, rfl, hocc, ?_⟩
    refine ⟨b, _, ((c - 97 : Nat) : Int), .int p.pr[c - 97], rfl, rfl, TupF.sq hb, atI_nat (by rw [List.getElem?_map, List.getElem?_eq_getElem hl]; rfl), ?_⟩
    have e : cst p c = p.pr[c - 97] := by
      unfold cst
      rw [if_neg z', List.getD_eq_getElem?_getD, List.getElem?_eq_getElem hl]
      rfl
    rw [← e]
    exact q H (Same.refl H)
theorem walk_rt {K : PySem.W.Frag} {a : Addr} {xs : List V} : Walk (RT.ItvT K a xs.length) xs.length (fun H => SqT K H a xs) (fun i H x H' => H' = H ∧ xs[xs.length - 1 - i]? = some x) :=
  ⟨fun i _ hi q => ⟨hi, xs, xs[xs.length - 1 - i]'(by omega), q, by simp [show xs.length - 1 - i < xs.length by omega]⟩, fun _ _ => Nat.le_refl _, fun _ _ _ _ _ q y => ⟨y.1, y.2 xs q⟩⟩
theorem no_spTri : ∀ vs H Q E, ¬ spTri 0 vs H Q E := fun vs H Q E h => by
  obtain ⟨v, p, u, w, _, _, _, _, _, h, _⟩ := h
  have := W.dep_pos w
  omega
theorem no_spPWork : ∀ vs H Q E, ¬ spPWork 0 vs H Q E := fun vs H Q E h => by
  obtain ⟨v, p, u, w, _, _, _, _, _, h, _⟩ := h
  have := W.dep_pos w
  omega
theorem foldW_ok {room many : Nat} (hr : 1 ≤ room) : ∀ (l : List W) (t : Tr), (∀ w ∈ l, w.Can many) → TrOk room many t → TrOk room many (l.foldl (fun t w => tjoin t (w.tri room)) t)
  | [], _, _, a => a
  | w :: r, t, h, a => foldW_ok hr r _ (fun x hx => h x (List.mem_cons_of_mem _ hx)) (tjoin_ok a (W.tri_ok hr w (h w (List.mem_cons_self ..))))
theorem ok_triple_of_work (D : Dn K mg "triple_of_work" s_triple_of_work P_triple_of_work) (g : Gx mg) (c_triple_of_step : C8.Cal P w K mg base 2 "triple_of_step" spTStep []) (c_power_triple : C8.Cal P w K mg base 3 "power_triple" spPower []) (c_untouched : C8.Cal P w K mg base 1 "untouched" spUnt []) (c_join_triples : C8.Cal P w K mg base 2 "join_triples" spJoin []) : ∀ n, C8.Cal P w K mg base (n + 3) "triple_of_work" (spTri n) []
  | 0 => by
    obtain ⟨f, fd, F, hm, b⟩ := D.ex
    exact ⟨f, fd, _, [], (⟨fun vs H Q E h => absurd h (no_spTri vs H Q E), fun A outer s H args us vs Q E _ _ _ _ h => absurd h (no_spTri vs H Q E)⟩ : FnOk _ _ _ _ _ _ _ _ _ _ _), hm, F.kp, b, .nil⟩
  | n + 1 => by
    have c_triple_of_work := ok_triple_of_work D g c_triple_of_step c_power_triple c_untouched c_join_triples n
    refine D.cal sc_triple_of_work (fun vs H Q E h => ?_) (fun f cdv A outer s H vs Q E hr h => ?_)
    · obtain ⟨v, p, u, wk, rfl, hp, ok, hw, can, hd, q⟩ := h
      rfl
    obtain ⟨v, p, u, wk, rfl, hp, ok, hw, can, hd, q⟩ := h
    have nd := sc_triple_of_work.nd
    refine ⟨_, (pss_cons (ps_if (pt_cmpR op_eq (pe_ix ix_tup (pv 1) pe_int (fun _ _ => rfl)) pe_str (nomark _)) (pss_one (ps_ret (C8.pe_c c_triple_of_step hr (by omega) rfl (pa_cons (pv 0) (pa_cons (pe_ix ix_tup (pv 1) pe_int (fun _ _ => rfl)) pa_nil))))) pss_nil)
      (pss_cons (ps_if (pt_cmpR op_eq (pe_ix ix_tup (pv 1) pe_int (fun _ _ => rfl)) pe_str (nomark _)) (pss_one (ps_ret (C8.pe_c c_triple_of_step hr (by omega) rfl (pa_cons (pv 0) (pa_cons (C8.pe_gc rfl g.POP_STEP) pa_nil))))) pss_nil)
      (pss_cons (ps_if (pt_cmpR op_eq (pe_ix ix_tup (pv 1) pe_int (fun _ _ => rfl)) pe_str (nomark _)) (pss_one (ps_ret (C8.pe_c c_power_triple hr (by omega) rfl (pa_cons (pv 0) (pa_cons (C8.pe_c c_triple_of_work hr (by omega) rfl (pa_cons (pv 0) (pa_cons (pe_ix ix_tup (pv 1) pe_int (fun _ _ => rfl)) pa_nil))) (pa_cons (pe_ix ix_tup (pv 1) pe_int (fun _ _ => rfl)) pa_nil)))))) pss_nil)
      (pss_cons (ps_set (i := 2) nd rfl (.inl rfl) (C8.pe_c c_untouched hr (by omega) rfl (pa_cons (pv 0) pa_nil)))
      (pss_cons (ps_for PassesOwn.never rfl (pi_tup (pe_ix ix_tup (pv 1) pe_int (fun _ _ => rfl))) (pg_name (i := 3) nd rfl (.inl rfl)) (pss_one (ps_set (i := 2) nd rfl (.inl rfl) (C8.pe_c c_join_triples hr (by omega) rfl (pa_cons (pv 2) (pa_cons (C8.pe_c c_triple_of_work hr (by omega) rfl (pa_cons (pv 0) (pa_cons (pv 3) pa_nil))) pa_nil))))))
      (pss_one (ps_ret (pv 2)))))))), ?_⟩
    have h9 := ok.r9
    cases wk with
    | push c =>
      obtain ⟨a, rfl, ha⟩ := hw
      refine ⟨_, rfl, a, _, 0, _, rfl, rfl, SqT.of ha, rfl, rfl, _, rfl, iteD rfl ?_⟩
      exact ⟨_, rfl, _, rfl, a, _, 1, _, rfl, rfl, SqT.of ha, rfl, v, p, c, rfl, hp, ok, q⟩
    | pop =>
      obtain ⟨a, rfl, ha⟩ := hw
      refine ⟨_, rfl, a, _, 0, _, rfl, rfl, SqT.of ha, rfl, rfl, _, rfl, iteDF (vne s_po_pu) ?_⟩
      refine ⟨_, rfl, a, _, 0, _, rfl, rfl, SqT.of ha, rfl, rfl, _, rfl, iteD rfl ?_⟩
      exact ⟨_, rfl, v, p, 45, rfl, hp, ok, q⟩
    | times m wk =>
      obtain ⟨a, u, rfl, ha, hu⟩ := hw
      obtain ⟨hm, can⟩ := can
      have hd' : wk.dep ≤ n := by
        have : 1 + wk.dep ≤ n + 1 := hd
        omega
      refine ⟨_, rfl, a, _, 0, _, rfl, rfl, SqT.of ha, rfl, rfl, _, rfl, iteDF (vne s_ti_pu) ?_⟩
      refine ⟨_, rfl, a, _, 0, _, rfl, rfl, SqT.of ha, rfl, rfl, _, rfl, iteDF (vne s_ti_po) ?_⟩
      refine ⟨_, rfl, a, _, 0, _, rfl, rfl, SqT.of ha, rfl, rfl, _, rfl, iteD rfl ?_⟩
      refine ⟨_, rfl, _, rfl, _, rfl, a, _, 2, _, rfl, rfl, SqT.of ha, rfl, v, p, u, wk, rfl, hp, ok, hu, can, hd', fun H1 u1 s1 h1 => ?_⟩
      exact ⟨_, rfl, a, _, 1, _, rfl, rfl, SqT.of (s1 _ _ ha), rfl, v, p, u1, wk.tri p.room, m, rfl, hp.mono s1, ok, h1, W.tri_ok ok.r1 wk can, hm, fun H2 u2 s2 h2 => q H2 u2 (s1.trans s2) h2⟩
    | row ws =>
      obtain ⟨a, b, xs, rfl, ha, hb, hs⟩ := hw
      obtain ⟨hlen, can⟩ := can
      have hd' : ws.dep ≤ n := by
        have : 1 + ws.dep ≤ n + 1 := hd
        omega
      have hl := hs.len
      refine ⟨_, rfl, a, _, 0, _, rfl, rfl, SqT.of ha, rfl, rfl, _, rfl, iteDF (vne s_ro_pu) ?_⟩
      refine ⟨_, rfl, a, _, 0, _, rfl, rfl, SqT.of ha, rfl, rfl, _, rfl, iteDF (vne s_ro_po) ?_⟩
      refine ⟨_, rfl, a, _, 0, _, rfl, rfl, SqT.of ha, rfl, rfl, _, rfl, iteDF (vne s_ro_ti) ?_⟩
      refine ⟨_, rfl, v, p, rfl, hp, fun H1 u1 s1 h1 => ?_⟩
      refine ⟨_, rfl, a, _, 1, _, rfl, rfl, SqT.of (s1 _ _ ha), rfl, b, rfl, ⟨_, SqT.of (s1 _ _ hb)⟩, ?_⟩
      refine for_it (walk_tup (K := K) (a := b) (xs := xs)) (fun i σ H2 => ∃ (wv : V) (o : Option V), σ = [some v, some (.ref a), some wv, o] ∧ Same H H2 ∧ TripAt H2 wv ((ws.list.take i).foldl (fun t w => tjoin t (w.tri p.room)) (tunt p.room)))
        ⟨u1, none, rfl, s1, h1⟩ (fun i σ H2 _ ⟨_, _, _, s2, _⟩ => SqT.of (s2 _ _ hb)) ?_ ?_
      · rintro i x σ H2 H3 hi ⟨wv, o, rfl, s2, hwv⟩ ⟨rfl, hx⟩
        obtain ⟨wk, hwk, hwa⟩ := hs.get hx
        have hmem := List.mem_of_getElem? hwk
        have cwk := Ws.can_mem can hmem
        have dwk := Ws.dep_mem hmem
        have fok := foldW_ok (many := p.many) ok.r1 (ws.list.take i) (tunt p.room) (fun x hx => Ws.can_mem can (List.mem_of_mem_take hx)) tunt_ok
        have tok := W.tri_ok (room := p.room) ok.r1 wk cwk
        have k1 := fok.kl
        have k2 := tok.kl
        refine ⟨_, rfl, _, rfl, _, rfl, v, p, x, wk, rfl, hp.mono s2, ok, hwa.tups (Tups.of s2), cwk, by omega, fun H4 v4 s4 h4 => ?_⟩
        refine ⟨_, _, _, _, rfl, hwv.mono s4, h4, by omega, by omega, fun H5 v5 s5 h5 => ?_⟩
        refine ⟨v5, some x, rfl, s2.trans (s4.trans s5), ?_⟩
        rw [List.take_add_one, hwk, List.foldl_append]
        exact h5
      · rintro σ H2 ⟨wv, o, rfl, s2, hwv⟩
        rw [hl, List.take_of_length_le (Nat.le_refl _), ← Ws.tri_list] at hwv
        exact ⟨_, rfl, q H2 wv s2 hwv⟩
theorem ok_price_of_work (D : Dn K mg "price_of_work" s_price_of_work P_price_of_work) (g : Gx mg) (c_price_of_step : C8.Cal P w K mg base 1 "price_of_step" spPStep []) : ∀ n, C8.Cal P w K mg base (n + 1) "price_of_work" (spPWork n) []
  | 0 => by
    obtain ⟨f, fd, F, hm, b⟩ := D.ex
    exact ⟨f, fd, _, [], (⟨fun vs H Q E h => absurd h (no_spPWork vs H Q E), fun A outer s H args us vs Q E _ _ _ _ h => absurd h (no_spPWork vs H Q E)⟩ : FnOk _ _ _ _ _ _ _ _ _ _ _), hm, F.kp, b, .nil⟩
  | n + 1 => by
    have c_price_of_work := ok_price_of_work D g c_price_of_step n
    refine D.cal sc_price_of_work (fun vs H Q E h => ?_) (fun f cdv A outer s H vs Q E hr h => ?_)
    · obtain ⟨v, p, u, wk, rfl, hp, ok, hw, can, hd, q⟩ := h
      rfl
    obtain ⟨v, p, u, wk, rfl, hp, ok, hw, can, hd, q⟩ := h
    have nd := sc_price_of_work.nd
    refine ⟨_, (pss_cons (ps_if (pt_cmpR op_eq (pe_ix ix_tup (pv 1) pe_int (fun _ _ => rfl)) pe_str (nomark _)) (pss_one (ps_ret (C8.pe_c c_price_of_step hr (by omega) rfl (pa_cons (pv 0) (pa_cons (pe_ix ix_tup (pv 1) pe_int (fun _ _ => rfl)) pa_nil))))) pss_nil)
      (pss_cons (ps_if (pt_cmpR op_eq (pe_ix ix_tup (pv 1) pe_int (fun _ _ => rfl)) pe_str (nomark _)) (pss_one (ps_ret (C8.pe_c c_price_of_step hr (by omega) rfl (pa_cons (pv 0) (pa_cons (C8.pe_gc rfl g.POP_STEP) pa_nil))))) pss_nil)
      (pss_cons (ps_if (pt_cmpR op_eq (pe_ix ix_tup (pv 1) pe_int (fun _ _ => rfl)) pe_str (nomark _)) (pss_one (ps_ret (pe_op op_mul (pe_ix ix_tup (pv 1) pe_int (fun _ _ => rfl)) (C8.pe_c c_price_of_work hr (by omega) rfl (pa_cons (pv 0) (pa_cons (pe_ix ix_tup (pv 1) pe_int (fun _ _ => rfl)) pa_nil)))))) pss_nil)
      (pss_one (ps_ret (pe_callB (cr_sum rfl) rfl g.sum b_sum (pa_cons (pe_lc (own := [("inner", 2)]) rfl nd (pi_tup (pe_ix ix_tup (pv 1) pe_int (fun _ _ => rfl))) (blkOk_by (own := [("inner", 2)]) (N := N_price_of_work) (sc := defScope s_price_of_work) (by decide +kernel)) (fun _ _ _ _ _ => (pg_name (i := 2) nd rfl (.inl rfl))) (fun _ _ _ _ _ => pts_nil) (fun _ _ _ _ _ => (C8.pe_c c_price_of_work (by exact hr) (by omega) rfl (pa_cons (pv 0) (pa_cons (pv 2) pa_nil))))) pa_nil))))))), ?_⟩
    cases wk with
    | push c =>
      obtain ⟨a, rfl, ha⟩ := hw
      refine ⟨_, rfl, a, _, 0, _, rfl, rfl, SqT.of ha, rfl, rfl, _, rfl, iteD rfl ?_⟩
      exact ⟨_, rfl, _, rfl, a, _, 1, _, rfl, rfl, SqT.of ha, rfl, v, p, c, rfl, hp, ok, .inr can, q⟩
    | pop =>
      obtain ⟨a, rfl, ha⟩ := hw
      refine ⟨_, rfl, a, _, 0, _, rfl, rfl, SqT.of ha, rfl, rfl, _, rfl, iteDF (vne s_po_pu) ?_⟩
      refine ⟨_, rfl, a, _, 0, _, rfl, rfl, SqT.of ha, rfl, rfl, _, rfl, iteD rfl ?_⟩
      exact ⟨_, rfl, v, p, 45, rfl, hp, ok, .inl rfl, q⟩
    | times m wk =>
      obtain ⟨a, u, rfl, ha, hu⟩ := hw
      obtain ⟨hm, can⟩ := can
      have hd' : wk.dep ≤ n := by
        have : 1 + wk.dep ≤ n + 1 := hd
        omega
      refine ⟨_, rfl, a, _, 0, _, rfl, rfl, SqT.of ha, rfl, rfl, _, rfl, iteDF (vne s_ti_pu) ?_⟩
      refine ⟨_, rfl, a, _, 0, _, rfl, rfl, SqT.of ha, rfl, rfl, _, rfl, iteDF (vne s_ti_po) ?_⟩
      refine ⟨_, rfl, a, _, 0, _, rfl, rfl, SqT.of ha, rfl, rfl, _, rfl, iteD rfl ?_⟩
      have hmi : -(2 ^ 64) < (m : Int) ∧ (m : Int) < 2 ^ 64 := by
        have e : (2 : Int) ^ 64 = 18446744073709551616 := by decide
        rw [e]
        omega
      exact ⟨_, rfl, a, _, 1, _, rfl, rfl, SqT.of ha, rfl, _, rfl, _, rfl, a, _, 2, _, rfl, rfl, SqT.of ha, rfl, v, p, u, wk, rfl, hp, ok, hu, can, hd', fun H1 s1 => ⟨_, _, rfl, rfl, .inl hmi, q H1 s1⟩⟩
    | row ws =>
      obtain ⟨a, b, xs, rfl, ha, hb, hs⟩ := hw
      obtain ⟨hlen, can⟩ := can
      have hd' : ws.dep ≤ n := by
        have : 1 + ws.dep ≤ n + 1 := hd
        omega
      have hl := hs.len
      refine ⟨_, rfl, a, _, 0, _, rfl, rfl, SqT.of ha, rfl, rfl, _, rfl, iteDF (vne s_ro_pu) ?_⟩
      refine ⟨_, rfl, a, _, 0, _, rfl, rfl, SqT.of ha, rfl, rfl, _, rfl, iteDF (vne s_ro_po) ?_⟩
      refine ⟨_, rfl, a, _, 0, _, rfl, rfl, SqT.of ha, rfl, rfl, _, rfl, iteDF (vne s_ro_ti) ?_⟩
      refine ⟨_, rfl, a, _, 1, _, rfl, rfl, SqT.of ha, rfl, b, rfl, ⟨_, SqT.of hb⟩, fun D hD => ?_⟩
      refine lc_it (walk_tup (K := K) (a := b) (xs := xs)) (fun i H2 => Same H H2 ∧ H2 D = some (.lst (((ws.list.take i).map (W.prc (cst p))).map V.int))) ⟨Same.new hD _, upd_same⟩ (fun i H2 _ h2 => SqT.of (h2.1 _ _ hb)) ?_ ?_
      · rintro i x H2 H3 hi ⟨s2, h2⟩ ⟨rfl, hx⟩
        obtain ⟨wk, hwk, hwa⟩ := hs.get hx
        have hmem := List.mem_of_getElem? hwk
        have hsz : i < sizeLine := szl (by rw [hl, Ws.len_list] at hi; omega)
        refine ⟨rfl, ?_⟩
        refine ⟨_, rfl, _, rfl, v, p, x, wk, rfl, hp.mono s2, ok, hwa.tups (Tups.of s2), Ws.can_mem can hmem, Nat.le_trans (Ws.dep_mem hmem) hd', fun H4 s4 => ⟨_, s4 _ _ h2, ?_, fun b o e => ?_, ?_⟩⟩
        · rw [List.length_map, List.length_map, List.length_take]
          exact Nat.lt_of_le_of_lt (Nat.min_le_left ..) hsz
        · rw [upd_ne (ne_of_none e hD)]
          exact s4 _ _ (s2 b o e)
        · rw [upd_same, List.take_add_one, hwk, List.map_append, List.map_append]
          rfl
      · rintro H2 ⟨s2, h2⟩
        rw [hl, List.take_of_length_le (Nat.le_refl _)] at h2
        refine ⟨D, _, rfl, SqL.of h2, ?_⟩
        rw [← Ws.prc_list]
        exact q H2 s2
/-- what waits, the next one first -/
def PAt (H : Hp) : List (W × Nat) → List V → Prop
  | [], xs => xs = []
  | p :: r, xs => ∃ T u s, xs = .ref T :: s ∧ H T = some (.tup [u, .int (p.2 : Int)]) ∧ WAt H p.1 u ∧ PAt H r s
theorem PAt.tups {H H' : Hp} (e : Tups H H') : ∀ {ps : List (W × Nat)} {xs : List V}, PAt H ps xs → PAt H' ps xs
  | [], _, h => h
  | p :: r, xs, h => by
    obtain ⟨T, u, s, h1, h2, h3, h4⟩ := h
    exact ⟨T, u, s, h1, e _ _ h2, h3.tups e, PAt.tups e h4⟩
theorem PAt.len {H : Hp} : ∀ {ps : List (W × Nat)} {xs : List V}, PAt H ps xs → xs.length = ps.length
  | [], _, h => by
    cases h
    rfl
  | p :: r, xs, h => by
    obtain ⟨T, u, s, rfl, h2, h3, h4⟩ := h
    show s.length + 1 = r.length + 1
    rw [h4.len]
def psz (ps : List (W × Nat)) : Nat := (ps.map fun p => p.1.siz).sum
theorem psz_cons (p : W × Nat) (r : List (W × Nat)) : psz (p :: r) = p.1.siz + psz r := by
  unfold psz
  rw [List.map_cons, List.sum_cons]
theorem psz_len : ∀ ps : List (W × Nat), ps.length ≤ psz ps
  | [] => Nat.zero_le _
  | p :: r => by
    have := psz_len r
    have := W.siz_pos p.1
    rw [psz_cons, List.length_cons]
    omega
theorem within_siz : ∀ w : W, w.siz = 1 + w.within.siz
  | .push _ => rfl
  | .pop => rfl
  | .row _ => rfl
  | .times _ w => by
    show 1 + w.siz = 1 + (w.siz + 0)
    omega
theorem within_dep : ∀ w : W, w.dep = 1 + w.within.dep
  | .push _ => rfl
  | .pop => rfl
  | .row _ => rfl
  | .times _ w => by
    show 1 + w.dep = 1 + max w.dep 0
    omega
theorem within_can {many : Nat} : ∀ {w : W}, w.Can many → w.within.Can many
  | .push _, _ => trivial
  | .pop, _ => trivial
  | .row _, h => h.2
  | .times _ _, h => ⟨h.2, trivial⟩
theorem gn {i : Nat} {x : V} {σ : L2.St} {H : Hp} {Q : L2.St → Hp → Prop} (h : Q (σ.set i (some x)) H) : gName i x σ H Q := h
theorem asg_c {v : V} {i : Nat} {u : TS} {D : Ends} {σ : L2.St} {H : Hp} (h : u D (σ.set i (some v)) H) : tSeq (tAsg (tC v) (gName i)) u D σ H := h
theorem ok_check_work (D : Dn K mg "check_work" s_check_work P_check_work) (g : Gx mg) (c_signs_of : C8.Cal P w K mg base 1 "signs_of" spSigns []) (c_is_work_alone : C8.Cal P w K mg base 2 "is_work_alone" spAlone []) (c_works_within : C8.Cal P w K mg base 1 "works_within" spWithin []) : C8.Cal P w K mg base 3 "check_work" spChWork [] := by
  refine D.cal sc_check_work (fun vs H Q E h => ?_) (fun f cdv A outer s H vs Q E hr h => ?_)
  · obtain ⟨v, p, u, wk, rfl, hp, ok, hw, wok, q⟩ := h
    rfl
  obtain ⟨v, p, u, wk, rfl, hp, ok, hw, wok, q⟩ := h
  have nd := sc_check_work.nd
  refine ⟨_, (pss_cons (ps_set (i := 2) nd rfl (.inl rfl) (pe_callTy (call_listS rfl) rfl g.list b_list (pa_cons (C8.pe_c c_signs_of hr (by decide) rfl (pa_cons (pv 0) pa_nil)) pa_nil)))
    (pss_cons (ps_set (i := 3) nd rfl (.inl rfl) (pe_lst (pa_cons (pe_tup (pa_cons (pv 1) (pa_cons pe_int pa_nil))) pa_nil)))
    (pss_cons (ps_set (i := 4) nd rfl (.inl rfl) pe_int)
    (pss_one (ps_while PassesOwn.never (pt_truth (pv 3) (by intro _; rfl)) (pss_cons (ps_asg (pe_bm0 PySem.F.plainAttrs_list PySem.F.slot_list_pop PySem.F.type_list_pop mt_pop (pv 3)) (pg_tup (by rfl) (pgs_cons (pg_name (i := 5) nd rfl (.inl rfl)) (pgs_cons (pg_name (i := 6) nd rfl (.inl rfl)) pgs_nil))))
    (pss_cons (ps_if (PW.pt (pw_or (pt_cmpR op_eq (pv 4) (C8.pe_gc rfl g.MOST_WORKS) (nomark _)) (pw_or (pt_cmpR op_gt (pv 6) (C8.pe_gc rfl g.MOST_DEEP) (nomark _)) (pw_or1 (pt_not (pt_val (C8.pe_c c_is_work_alone hr (by decide) rfl (pa_cons (pv 5) (pa_cons (pv 2) pa_nil))))))))) (pss_one ps_never) pss_nil)
    (pss_cons (ps_aug (i := 4) nd rfl (.inl rfl) pe_int ip_add)
    (pss_one (ps_for PassesOwn.never rfl (RT.pi_revA rfl g.reversed (C8.pe_c c_works_within hr (by decide) rfl (pa_cons (pv 5) pa_nil))) (pg_name (i := 7) nd rfl (.inl rfl)) (pss_one (ps_expr (pe_bm PySem.F.plainAttrs_list PySem.F.slot_list_append PySem.F.type_list_append mt_append (pv 3) (pa_cons (pe_tup (pa_cons (pv 7) (pa_cons (pe_op op_add (pv 6) pe_int) pa_nil))) pa_nil)))))))))))))), ?_⟩
  have h4 := signs_len p.many
  refine ⟨_, rfl, v, p, rfl, hp, ok, fun H1 s1 => ⟨_, rfl, by rw [tx_len]; exact sz (by omega), fun D hD => ?_⟩⟩
  rw [tx_list]
  have sD := Same.new hD (.lst ((signs p.many).map fun c => V.str ⟨#[c]⟩))
  have hDD : upd H1 D (.lst ((signs p.many).map fun c => V.str ⟨#[c]⟩)) D = some (.lst ((signs p.many).map fun c => V.str (tx [c]))) := upd_same
  generalize upd H1 D (.lst ((signs p.many).map fun c => V.str ⟨#[c]⟩)) = H2 at sD hDD
  refine ⟨_, rfl, by show 2 ≤ sizeLine; decide, fun T0 hT0 => ⟨by show 1 ≤ sizeLine; decide, fun Wl hWl => ?_⟩⟩
  have sT := Same.new hT0 (.tup [u, .int 1])
  have sW := Same.new hWl (.lst [.ref T0])
  have s2 := s1.trans (sD.trans (sT.trans sW))
  have nW : H Wl = none := (s1.trans (sD.trans sT)).free hWl
  have neD : D ≠ Wl := ne_of_none (sT _ _ hDD) hWl
  refine gn ?_
  dsimp only
  refine asg_c ?_
  refine while_by (fun σ H3 => ∃ (num : Nat) (o5 o6 o7 : Option V) (ps : List (W × Nat)) (ys : List V), σ = [some v, some u, some (.ref D), some (.ref Wl), some (.int (num : Int)), o5, o6, o7] ∧ Same H H3 ∧ H3 D = some (.lst ((signs p.many).map fun c => V.str (tx [c]))) ∧ H3 Wl = some (.lst ys.reverse) ∧ PAt H3 ps ys ∧
      num + psz ps ≤ 60 ∧ ∀ x ∈ ps, x.1.Can p.many ∧ 1 ≤ x.2 ∧ x.2 + x.1.dep ≤ 9)
    (fun σ _ => match σ with | [_, _, _, _, some (.int m), _, _, _] => 60 - m.toNat | _ => 0)
    ⟨0, none, none, none, [(wk, 1)], [.ref T0], rfl, s2, sW _ _ (sT _ _ hDD), upd_same, ⟨T0, u, [], rfl, sW _ _ upd_same, hw.tups (Tups.of s2), rfl⟩, by
      have := wok.siz
      show 0 + psz [(wk, 1)] ≤ 60
      rw [psz_cons]
      show 0 + (wk.siz + 0) ≤ 60
      omega, fun x hx => by
      have e : x = (wk, 1) := by simpa using hx
      subst e
      have := wok.dep
      exact ⟨wok.can, Nat.le_refl _, by show 1 + wk.dep ≤ 9; omega⟩⟩ ?_ ?_
  · rintro σ H3 ⟨num, o5, o6, o7, ps, ys, rfl, s3, hD3, hW3, hpa, hnum, hall⟩
    refine ⟨_, rfl, _, .inl ⟨_, SqL.of hW3, rfl⟩, ?_⟩
    cases ps with
    | nil =>
      have e : ys = [] := hpa
      subst e
      exact iteF (q H3 s3)
    | cons x r =>
      obtain ⟨T, fu, ys, rfl, hT, hfu, hpr⟩ := hpa
      obtain ⟨can, d1, d9⟩ := hall x (List.mem_cons_self ..)
      have dpos := W.dep_pos x.1
      have spos := W.siz_pos x.1
      rw [psz_cons] at hnum
      have erev : (V.ref T :: ys).reverse = ys.reverse ++ [.ref T] := List.reverse_cons
      rw [erev] at hW3 ⊢
      have ene : (!(ys.reverse ++ [V.ref T]).isEmpty) = true := by simp
      rw [ene]
      refine iteT ?_
      -- found, deep = waiting.pop()
      refine ⟨_, rfl, .inl ⟨rfl, _, SqL.of hW3⟩, Wl, _, .ref T, rfl, rfl, hW3, by simp, ?_⟩
      rw [List.dropLast_concat]
      have tW : Tups H3 (upd H3 Wl (.lst ys.reverse)) := Tups.lst hW3
      have s4 : Same H (upd H3 Wl (.lst ys.reverse)) := fun b o e => by
        rw [upd_ne (ne_of_none e nW)]
        exact s3 _ _ e
      have hD4 : upd H3 Wl (.lst ys.reverse) D = some (.lst ((signs p.many).map fun c => V.str (tx [c]))) := by
        rw [upd_ne neD]
        exact hD3
      have hW4 : upd H3 Wl (.lst ys.reverse) Wl = some (.lst ys.reverse) := upd_same
      have hT4 := tW _ _ hT
      have hfu4 := hfu.tups tW
      have hpr4 := hpr.tups tW
      generalize upd H3 Wl (.lst ys.reverse) = H4 at s4 hD4 hW4 hT4 hfu4 hpr4 tW
      refine ⟨T, _, rfl, SqT.of hT4, rfl, _, _, rfl, _, _, rfl, rfl, ?_⟩
      -- the test
      refine ⟨_, rfl, rfl, _, rfl, iteDF (fun z => by injection z with z; omega) ?_⟩
      refine ⟨_, rfl, _, _, rfl, rfl, _, rfl, iteDF (by omega) ?_⟩
      refine ⟨_, rfl, _, rfl, x.1, fu, D, p.many, rfl, hfu4, hD4, can, fun H5 s5 => ⟨_, rfl, iteF ?_⟩⟩
      -- number += 1
      refine ⟨_, rfl, _, _, rfl, rfl, ?_⟩
      -- for inner in reversed(..)
      refine ⟨_, rfl, x.1, fu, rfl, hfu4.tups (Tups.of s5), fun H6 uu zs s6 huu hzs => ⟨uu, zs, rfl, .inr ⟨SqT.of huu, ?_⟩⟩⟩
      have hl := hzs.len
      have e1 := within_siz x.1
      have e2 := within_dep x.1
      have cw := within_can can
      have s46 := s5.trans s6
      have sz2 : ∀ n, psz (((x.1.within.list.drop n).map fun w' => (w', x.2 + 1)) ++ r) ≤ x.1.within.siz + psz r := fun n => by
        have h1 : ∀ (l : List W) (n : Nat), ((l.drop n).map W.siz).sum ≤ (l.map W.siz).sum := fun l => by
          induction l with
          | nil => intro n; simp
          | cons a l ih =>
            intro n
            cases n with
            | zero => simp
            | succ n =>
              have := ih n
              rw [List.drop_succ_cons, List.map_cons, List.sum_cons]
              omega
        have h2 := h1 x.1.within.list n
        rw [← Ws.siz_list] at h2
        unfold psz
        rw [List.map_append, List.sum_append, List.map_map]
        have e : ((fun p : W × Nat => p.1.siz) ∘ fun w' => (w', x.2 + 1)) = W.siz := rfl
        rw [e]
        omega
      refine for_it (walk_rt (K := K) (a := uu) (xs := zs)) (fun i σ H7 => ∃ (o7 : Option V) (ws : List V), σ = [some v, some u, some (.ref D), some (.ref Wl), some (.int ((num : Int) + 1)), some fu, some (.int (x.2 : Int)), o7] ∧ Same H H7 ∧ Tups H6 H7 ∧ H7 D = some (.lst ((signs p.many).map fun c => V.str (tx [c]))) ∧ H7 Wl = some (.lst ws.reverse) ∧
          PAt H7 (((x.1.within.list.drop (zs.length - i)).map fun w' => (w', x.2 + 1)) ++ r) ws)
        ⟨o7, ys, rfl, s4.trans s46, Tups.refl _, s46 _ _ hD4, s46 _ _ hW4, by
          rw [Nat.sub_zero, hl, List.drop_length]
          exact hpr4.tups (Tups.of s46)⟩ (fun i σ H7 _ ⟨_, _, _, _, t7, _⟩ => SqT.of (t7 _ _ huu)) ?_ ?_
      · rintro i y σ H7 H8 hi ⟨o7, ws, rfl, s7, t7, hD7, hW7, hp7⟩ ⟨rfl, hy⟩
        obtain ⟨w', hw', hwa⟩ := hzs.get hy
        have hlen := hp7.len
        have hle := psz_len (((x.1.within.list.drop (zs.length - i)).map fun w' => (w', x.2 + 1)) ++ r)
        have hs2 := sz2 (zs.length - i)
        refine ⟨_, rfl, .inl ⟨rfl, _, SqL.of hW7⟩, _, rfl, _, rfl, _, _, rfl, rfl, by show 2 ≤ sizeLine; decide, fun T' hT' => ?_⟩
        have sT' := Same.new hT' (.tup [y, .int ((x.2 : Int) + 1)])
        refine ⟨Wl, _, _, rfl, rfl, sT' _ _ hW7, by rw [List.length_reverse, hlen]; exact szl (by omega), ?_⟩
        have hneW : T' ≠ Wl := (ne_of_none hW7 hT').symm
        have tl : Tups (upd H8 T' (.tup [y, .int ((x.2 : Int) + 1)])) (upd (upd H8 T' (.tup [y, .int ((x.2 : Int) + 1)])) Wl (.lst (ws.reverse ++ [.ref T']))) := Tups.lst (sT' _ _ hW7)
        have tall : Tups H8 (upd (upd H8 T' (.tup [y, .int ((x.2 : Int) + 1)])) Wl (.lst (ws.reverse ++ [.ref T']))) := (Tups.of sT').trans tl
        refine ⟨some y, .ref T' :: ws, rfl, fun b o e => ?_, t7.trans tall, ?_, by rw [upd_same, List.reverse_cons], ?_⟩
        · rw [upd_ne (ne_of_none e nW)]
          exact sT' _ _ (s7 _ _ e)
        · rw [upd_ne neD]
          exact sT' _ _ hD7
        · have hdrop : x.1.within.list.drop (zs.length - (i + 1)) = w' :: x.1.within.list.drop (zs.length - i) := by
            have e3 : zs.length - (i + 1) = zs.length - 1 - i := by omega
            have e4 : zs.length - i = zs.length - 1 - i + 1 := by omega
            rw [e3, e4]
            obtain ⟨hlt, he⟩ := List.getElem?_eq_some_iff.mp hw'
            rw [← he]
            exact List.drop_eq_getElem_cons hlt
          rw [hdrop]
          refine ⟨T', y, ws, rfl, tl _ _ upd_same, hwa.tups (t7.trans tall), hp7.tups tall⟩
      · rintro σ H7 ⟨o7, ws, rfl, s7, t7, hD7, hW7, hp7⟩
        have e0 : zs.length - zs.length = 0 := Nat.sub_self _
        rw [e0, List.drop_zero] at hp7
        have hs2 := sz2 0
        rw [List.drop_zero] at hs2
        refine ⟨⟨num + 1, some fu, some (.int (x.2 : Int)), o7, _, ws, rfl, s7, hD7, hW7, hp7, by omega, fun y hy => ?_⟩, ?_⟩
        · rcases List.mem_append.mp hy with h | h
          · obtain ⟨w', hw', rfl⟩ := List.mem_map.mp h
            have := Ws.dep_mem hw'
            exact ⟨Ws.can_mem cw hw', by show 1 ≤ x.2 + 1; omega, by show x.2 + 1 + w'.dep ≤ 9; omega⟩
          · exact hall y (List.mem_cons_of_mem _ h)
        · show 60 - ((num : Int) + 1).toNat < 60 - ((num : Int)).toNat
          omega
  · rintro σ H3 Q1 Q2 hq ⟨x, e1, k, t, h⟩
    exact ⟨x, e1, k, t, hq _ _ h⟩
theorem ok_told (D : Dn K mg "told" s_told P_told) (g : Gx mg) (c_check_plan : C8.Cal P w K mg base 3 "check_plan" spChPlan []) (c_check_work : C8.Cal P w K mg base 3 "check_work" spChWork []) (c_triple_of_work : C8.Cal P w K mg base 11 "triple_of_work" (spTri 8) []) : C8.Cal P w K mg base 12 "told" spTold [] := by
  refine D.cal sc_told (fun vs H Q E h => ?_) (fun f cdv A outer s H vs Q E hr h => ?_)
  · obtain ⟨v, p, u, wk, rfl, hp, ok, hw, wok, q⟩ := h
    rfl
  obtain ⟨v, p, u, wk, rfl, hp, ok, hw, wok, q⟩ := h
  have nd := sc_told.nd
  refine ⟨_, (pss_cons (ps_expr (C8.pe_c c_check_plan hr (by decide) rfl (pa_cons (pv 0) pa_nil)))
    (pss_cons (ps_expr (C8.pe_c c_check_work hr (by decide) rfl (pa_cons (pv 0) (pa_cons (pv 1) pa_nil))))
    (pss_one (ps_ret (C8.pe_c c_triple_of_work hr (by decide) rfl (pa_cons (pv 0) (pa_cons (pv 1) pa_nil))))))), ?_⟩
  refine ⟨_, rfl, v, p, rfl, hp, ok, fun H1 s1 => ?_⟩
  refine ⟨_, rfl, _, rfl, v, p, u, wk, rfl, hp.mono s1, ok, hw.tups (Tups.of s1), wok, fun H2 s2 => ?_⟩
  exact ⟨_, rfl, _, rfl, v, p, u, wk, rfl, hp.mono (s1.trans s2), ok, hw.tups (Tups.of (s1.trans s2)), wok.can, wok.dep, fun H3 v3 s3 h3 => q H3 v3 (s1.trans (s2.trans s3)) h3⟩
theorem ok_run (D : Dn K mg "run" s_run P_run) (g : Gx mg) (c_check_plan : C8.Cal P w K mg base 3 "check_plan" spChPlan []) (c_check_work : C8.Cal P w K mg base 3 "check_work" spChWork []) (c_check_stack : C8.Cal P w K mg base 3 "check_stack" spChStack []) (c_triple_of_work : C8.Cal P w K mg base 11 "triple_of_work" (spTri 8) []) (c_stack_behind : C8.Cal P w K mg base 2 "stack_behind" spBehind []) : C8.Cal P w K mg base 12 "run" spRun [] := by
  refine D.cal sc_run (fun vs H Q E h => ?_) (fun f cdv A outer s H vs Q E hr h => ?_)
  · obtain ⟨v, p, u, wk, l, rfl, hp, ok, hw, wok, hl, hs, q⟩ := h
    rfl
  obtain ⟨v, p, u, wk, l, rfl, hp, ok, hw, wok, hl, hs, q⟩ := h
  have nd := sc_run.nd
  refine ⟨_, (pss_cons (ps_expr (C8.pe_c c_check_plan hr (by decide) rfl (pa_cons (pv 0) pa_nil)))
    (pss_cons (ps_expr (C8.pe_c c_check_work hr (by decide) rfl (pa_cons (pv 0) (pa_cons (pv 1) pa_nil))))
    (pss_cons (ps_expr (C8.pe_c c_check_stack hr (by decide) rfl (pa_cons (pv 0) (pa_cons (pv 2) pa_nil))))
    (pss_one (ps_ret (C8.pe_c c_stack_behind hr (by decide) rfl (pa_cons (C8.pe_c c_triple_of_work hr (by decide) rfl (pa_cons (pv 0) (pa_cons (pv 1) pa_nil))) (pa_cons (pv 2) pa_nil)))))))), ?_⟩
  have h9 := ok.r9
  have hk := (W.tri_ok (room := p.room) ok.r1 wk wok.can).kl
  refine ⟨_, rfl, v, p, rfl, hp, ok, fun H1 s1 => ?_⟩
  refine ⟨_, rfl, _, rfl, v, p, u, wk, rfl, hp.mono s1, ok, hw.tups (Tups.of s1), wok, fun H2 s2 => ?_⟩
  refine ⟨_, rfl, _, rfl, v, p, l, rfl, hp.mono (s1.trans s2), ok, hl, hs, fun H3 s3 => ?_⟩
  refine ⟨_, rfl, _, rfl, v, p, u, wk, rfl, hp.mono (s1.trans (s2.trans s3)), ok, hw.tups (Tups.of (s1.trans (s2.trans s3))), wok.can, wok.dep, fun H4 v4 s4 h4 => ?_⟩
  exact ⟨_, rfl, v4, wk.tri p.room, l, rfl, h4, by omega, by omega, fun H5 s5 => q H5 (s1.trans (s2.trans (s3.trans (s4.trans s5))))⟩
theorem ok_cost (D : Dn K mg "cost" s_cost P_cost) (g : Gx mg) (c_check_plan : C8.Cal P w K mg base 3 "check_plan" spChPlan []) (c_check_work : C8.Cal P w K mg base 3 "check_work" spChWork []) (c_price_of_work : C8.Cal P w K mg base 9 "price_of_work" (spPWork 8) []) : C8.Cal P w K mg base 10 "cost" spCost [] := by
  refine D.cal sc_cost (fun vs H Q E h => ?_) (fun f cdv A outer s H vs Q E hr h => ?_)
  · obtain ⟨v, p, u, wk, rfl, hp, ok, hw, wok, q⟩ := h
    rfl
  obtain ⟨v, p, u, wk, rfl, hp, ok, hw, wok, q⟩ := h
  have nd := sc_cost.nd
  refine ⟨_, (pss_cons (ps_expr (C8.pe_c c_check_plan hr (by decide) rfl (pa_cons (pv 0) pa_nil)))
    (pss_cons (ps_expr (C8.pe_c c_check_work hr (by decide) rfl (pa_cons (pv 0) (pa_cons (pv 1) pa_nil))))
    (pss_one (ps_ret (C8.pe_c c_price_of_work hr (by decide) rfl (pa_cons (pv 0) (pa_cons (pv 1) pa_nil))))))), ?_⟩
  refine ⟨_, rfl, v, p, rfl, hp, ok, fun H1 s1 => ?_⟩
  refine ⟨_, rfl, _, rfl, v, p, u, wk, rfl, hp.mono s1, ok, hw.tups (Tups.of s1), wok, fun H2 s2 => ?_⟩
  exact ⟨_, rfl, _, rfl, v, p, u, wk, rfl, hp.mono (s1.trans s2), ok, hw.tups (Tups.of (s1.trans s2)), wok.can, wok.dep, fun H3 s3 => q H3 (s1.trans (s2.trans s3))⟩
theorem ok_law_signs (D : Dn K mg "_law_signs" s_law_signs P_law_signs) (g : Gx mg) (c_law_take : C8.Cal P w K mg base 1 "_law_take" spTake []) : C8.Cal P w K mg base 2 "_law_signs" spLSigns [] := by
  refine D.cal sc_law_signs (fun vs H Q E h => ?_) (fun f cdv A outer s H vs Q E hr h => ?_)
  · obtain ⟨p, q, ns, z, v, pl, n, rfl, B, ⟨a, b, rfl, ha, hb⟩, ok, hn, kk⟩ := h
    rfl
  obtain ⟨p, q, ns, z, v, pl, n, rfl, B, ⟨a, b, rfl, ha, hb⟩, ok, hn, kk⟩ := h
  have nd := sc_law_signs.nd
  refine ⟨_, (pss_one (ps_ret (pe_join pe_str (pe_lc (own := [("_law_k", 3)]) rfl nd (pi_range1 (by rfl) g.range (pa_cons (C8.pe_c c_law_take hr (by decide) rfl (pa_cons (pv 0) (pa_cons (pe_op op_add (pv 2) pe_int) pa_nil))) pa_nil)) (blkOk_by (own := [("_law_k", 3)]) (N := N_law_signs) (sc := defScope s_law_signs) (by decide +kernel)) (fun _ _ _ _ _ => (pg_name (i := 3) nd rfl (.inl rfl))) (fun _ _ _ _ _ => pts_nil) (fun _ _ _ _ _ => (pe_ix ix_str pe_str (C8.pe_c c_law_take (by exact hr) (by decide) rfl (pa_cons (pv 0) (pa_cons (pe_ix (r := rIxT K) ix_tup (pv 1) pe_int (fun _ _ => rfl)) pa_nil))) (fun _ _ => rfl))))))), ?_⟩
  have hm1 := ok.m1
  have hm4 := ok.m4
  refine ⟨⟨_, rfl⟩, _, rfl, _, rfl, _, _, rfl, rfl, p, q, ns, z, (n : Int) + 1, rfl, B, by omega, p9 (by omega), fun m ns1 z1 H1 m0 m1 B1 k1 => ?_⟩
  refine ⟨m, rfl, by omega, by omega, fun D hD => ?_⟩
  have hf := B1.fresh hD
  have sD := Same.new hD (.lst [])
  refine lc_range (lo := 0) (fun i H2 => ∃ (l : List Nat) (ns2 : List Int) (z2 : Int), BoxAt H2 p q ns2 z2 ∧ Keep p q H1 H2 ∧ H2 D = some (.lst (l.map fun c => V.str (tx [c]))) ∧ l.length = i ∧ ∀ c ∈ l, c ∈ signs pl.many)
    ⟨[], ns1, z1, B1.mono sD, Keep.of sD, upd_same, rfl, fun x hx => by simp at hx⟩ ?_ ?_
  · rintro i H2 hi ⟨l, ns2, z2, B2, k2, hD2, hl, hs⟩
    refine ⟨rfl, ?_⟩
    refine ⟨_, rfl, _, rfl, a, _, 1, _, rfl, rfl, SqT.of ((k1.trans k2).tup B ha), rfl, p, q, ns2, z2, pl.many, rfl, B2, by omega, p9 (by omega), fun r ns3 z3 H3 r0 r1 B3 k3 => ?_⟩
    obtain ⟨c, hc, hat⟩ := sign_at hm4 r0 r1
    refine ⟨("abcd" : Str), r, c, rfl, rfl, by rw [s_abcd, tx_len]; exact sz (by decide), hat, ?_⟩
    have hD3 := k3 _ _ hD2 hf.1 hf.2
    refine ⟨_, hD3, by rw [List.length_map, hl]; exact szl (by omega), l ++ [c], ns3, z3, ⟨by rw [upd_ne hf.1.symm]; exact B3.b, by rw [upd_ne hf.2.symm]; exact B3.l, B3.ne⟩, fun b o e e1 e2 => ?_, ?_, by simp [hl], fun x hx => ?_⟩
    · rw [upd_ne (ne_of_none e hD)]
      exact k3 _ _ (k2 _ _ e e1 e2) e1 e2
    · rw [upd_same, List.map_append]
      rfl
    · rcases List.mem_append.mp hx with h | h
      · exact hs x h
      · have : x = c := by simpa using h
        subst this
        exact hc
  · rintro H2 ⟨l, ns2, z2, B2, k2, hD2, hl, hs⟩
    have e1 : (l.map fun c => V.str (tx [c])) = (l.map fun c => tx [c]).map V.str := by rw [List.map_map]; rfl
    rw [e1] at hD2
    have e2 := tx1_len l
    refine ⟨("" : Str), D, (l.map fun c => tx [c]), rfl, rfl, .inl (SqL.of hD2), ?_, ?_⟩
    · rw [e2, s_empty, List.length_map]
      show l.length + l.length * 0 ≤ 16777216
      omega
    · have e3 : Txt.join ("" : Str) (l.map fun c => tx [c]) = tx l := by
        have h := join_tx (l.map fun c => [c])
        rw [List.map_map] at h
        rw [flat1] at h
        rw [s_empty]
        exact h
      rw [e3]
      exact kk l ns2 z2 H2 (by omega) hs B2 (k1.trans k2)
theorem no_spLWork : ∀ vs H Q E, ¬ spLWork 0 vs H Q E := fun vs H Q E h => by
  obtain ⟨p, q, ns, z, v, pl, m, tm, _, _, _, _, h1, h2, _⟩ := h
  omega
theorem no_spLTuples : ∀ vs H Q E, ¬ spLTuples 0 vs H Q E := fun vs H Q E h => by
  obtain ⟨u, w, many, _, _, _, h, _⟩ := h
  have := W.dep_pos w
  omega
theorem no_spLCount : ∀ vs H Q E, ¬ spLCount 0 vs H Q E := fun vs H Q E h => by
  obtain ⟨u, w, many, _, _, _, h, _⟩ := h
  have := W.dep_pos w
  omega
theorem no_spLLong : ∀ vs H Q E, ¬ spLLong 0 vs H Q E := fun vs H Q E h => by
  obtain ⟨u, w, many, _, _, _, h, _⟩ := h
  have := W.dep_pos w
  omega
theorem ok_law_work (D : Dn K mg "_law_work" s_law_work P_law_work) (g : Gx mg) (c_law_take : C8.Cal P w K mg base 1 "_law_take" spTake []) : ∀ n, C8.Cal P w K mg base (n + 1) "_law_work" (spLWork n) []
  | 0 => by
    obtain ⟨f, fd, F, hm, b⟩ := D.ex
    exact ⟨f, fd, _, [], (⟨fun vs H Q E h => absurd h (no_spLWork vs H Q E), fun A outer s H args us vs Q E _ _ _ _ h => absurd h (no_spLWork vs H Q E)⟩ : FnOk _ _ _ _ _ _ _ _ _ _ _), hm, F.kp, b, .nil⟩
  | n + 1 => by
    have c_law_work := ok_law_work D g c_law_take n
    refine D.cal sc_law_work (fun vs H Q E h => ?_) (fun f cdv A outer s H vs Q E hr h => ?_)
    · obtain ⟨p, q, ns, z, v, pl, m, tm, rfl, B, hp, ok, m1, mn, htm, kk⟩ := h
      rfl
    obtain ⟨p, q, ns, z, v, pl, m, tm, rfl, B, hp, ok, m1, mn, htm, kk⟩ := h
    have nd := sc_law_work.nd
    refine ⟨_, (pss_cons (ps_set (i := 4) nd rfl (.inl rfl) (C8.pe_c c_law_take hr (by omega) rfl (pa_cons (pv 0) (pa_cons pe_int pa_nil))))
      (pss_cons (ps_if (PW.pt (pw_or (pt_cmpR op_eq (pv 2) pe_int (nomark _)) (pw_or1 (pt_cmpR op_lt (pv 4) pe_int (nomark _))))) (pss_one (ps_ret (pe_ix ix_list (pe_lst (pa_cons (pe_tup (pa_cons pe_str (pa_cons (pe_ix ix_str pe_str (C8.pe_c c_law_take hr (by omega) rfl (pa_cons (pv 0) (pa_cons (pe_ix ix_tup (pv 1) pe_int (fun _ _ => rfl)) pa_nil))) (fun _ _ => rfl)) pa_nil))) (pa_cons (pe_tup (pa_cons pe_str pa_nil)) pa_nil))) (pe_op op_modN (pv 4) pe_int) (fun _ _ => rfl)))) pss_nil)
      (pss_cons (ps_if (pt_cmpR op_lt (pv 4) pe_int (nomark _)) (pss_one (ps_ret (pe_tup (pa_cons pe_str (pa_cons (pe_callTy call_tuple_of rfl g.tuple b_tuple (pa_cons (pe_lc (own := [("_law_k", 5)]) rfl nd (pi_range1 (by rfl) g.range (pa_cons (C8.pe_c c_law_take hr (by omega) rfl (pa_cons (pv 0) (pa_cons pe_int pa_nil))) pa_nil)) (blkOk_by (own := [("_law_k", 5)]) (N := N_law_work) (sc := defScope s_law_work) (by decide +kernel)) (fun _ _ _ _ _ => (pg_name (i := 5) nd rfl (.inl rfl))) (fun _ _ _ _ _ => pts_nil) (fun _ _ _ _ _ => (C8.pe_c c_law_work (by exact hr) (by omega) rfl (pa_cons (pv 0) (pa_cons (pv 1) (pa_cons (pe_op op_sub (pv 2) pe_int) (pa_cons (pv 3) pa_nil))))))) pa_nil)) pa_nil))))) pss_nil)
      (pss_one (ps_ret (pe_tup (pa_cons pe_str (pa_cons (C8.pe_c c_law_take hr (by omega) rfl (pa_cons (pv 0) (pa_cons (pe_op op_add (pv 3) pe_int) pa_nil))) (pa_cons (C8.pe_c c_law_work hr (by omega) rfl (pa_cons (pv 0) (pa_cons (pv 1) (pa_cons (pe_op op_sub (pv 2) pe_int) (pa_cons (pv 3) pa_nil))))) pa_nil))))))))), ?_⟩
    have hm1 := ok.m1
    have hm4 := ok.m4
    obtain ⟨a, b, rfl, ha, hb⟩ := id hp
    refine ⟨_, rfl, p, q, ns, z, 8, rfl, B, by decide, p9 (by decide), fun way ns1 z1 H1 w0 w1 B1 k1 => ?_⟩
    have hp1 := hp.keep B k1
    have ha1 := k1.tup B ha
    -- a push or a pop
    refine (fun base (more : _ → _) => ⟨_, rfl, rfl, _, rfl, ite2 (fun _ => iteT base) (fun c1 => ⟨_, rfl, _, _, rfl, rfl, _, rfl, ite2 (fun _ => base) (fun c2 => more c1)⟩)⟩) ?_ ?_
    · -- [("push", sign), ("pop",)][way % 2]
      refine ⟨_, rfl, _, rfl, a, _, 1, _, rfl, rfl, SqT.of ha1, rfl, p, q, ns1, z1, pl.many, rfl, B1, by omega, p9 (by omega), fun r ns3 z3 H3 r0 r1 B3 k3 => ?_⟩
      obtain ⟨c, hc, hat⟩ := sign_at hm4 r0 r1
      refine ⟨("abcd" : Str), r, c, rfl, rfl, by rw [s_abcd, tx_len]; exact sz (by decide), hat, ?_⟩
      refine ⟨by show 2 ≤ sizeLine; decide, fun T1 hT1 => ⟨by show 1 ≤ sizeLine; decide, fun T2 hT2 => ⟨by show 2 ≤ sizeLine; decide, fun D hD => ?_⟩⟩⟩
      have s1 := Same.new hT1 (.tup [.str "push", .str (tx [c])])
      have s2 := Same.new hT2 (.tup [.str "pop"])
      have s3 := Same.new hD (.lst [.ref T1, .ref T2])
      have s13 := s1.trans (s2.trans s3)
      have k13 := k1.trans (k3.trans (Keep.of s13))
      refine ⟨_, rfl, _, _, rfl, rfl, by show ((2 : Int) ≠ 0); decide, ?_⟩
      obtain ⟨f1, f2⟩ := fmod_in (x := way) (n := 2) (by decide)
      have hr : way.fmod 2 = 0 ∨ way.fmod 2 = 1 := by omega
      rcases hr with hr | hr
      · refine ⟨D, _, way.fmod 2, .ref T1, rfl, rfl, SqL.of upd_same, by rw [hr]; rfl, ?_⟩
        exact kk (.push c) _ ns3 z3 _ hc m1 trivial ⟨T1, rfl, s3 _ _ (s2 _ _ upd_same)⟩ (B3.mono s13) k13
      · refine ⟨D, _, way.fmod 2, .ref T2, rfl, rfl, SqL.of upd_same, by rw [hr]; rfl, ?_⟩
        exact kk .pop _ ns3 z3 _ trivial m1 trivial ⟨T2, rfl, s3 _ _ upd_same⟩ (B3.mono s13) k13
    · intro c1
      have m2 : m ≠ 1 := fun z => by
        subst z
        exact c1 (decide_eq_true rfl)
      have em : (m : Int) - 1 = ((m - 1 : Nat) : Int) := by omega
      refine ⟨_, rfl, _, _, rfl, rfl, _, rfl, ite2 (fun _ => ?_) (fun _ => ?_)⟩
      · -- a row
        refine ⟨_, rfl, p, q, ns1, z1, 4, rfl, B1, by decide, p9 (by decide), fun cnt ns2 z2 H2 c0 c4 B2 k2 => ?_⟩
        refine ⟨cnt, rfl, by omega, by omega, fun D hD => ?_⟩
        have hf := B2.fresh hD
        have sD := Same.new hD (.lst [])
        refine lc_range (lo := 0) (fun i H4 => ∃ (l : List W) (us : List V) (ns4 : List Int) (z4 : Int), BoxAt H4 p q ns4 z4 ∧ Keep p q H2 H4 ∧ H4 D = some (.lst us) ∧ W2 H4 l us ∧ l.length = i ∧ ∀ w ∈ l, w.Can pl.many ∧ w.dep ≤ m - 1 ∧ w.Tm tm)
          ⟨[], [], ns2, z2, B2.mono sD, Keep.of sD, upd_same, rfl, rfl, fun x hx => by simp at hx⟩ ?_ ?_
        · rintro i H4 hi ⟨l, us, ns4, z4, B4, k4, hD4, hw4, hl, hall⟩
          refine ⟨rfl, ?_⟩
          have hp4 := (hp1.keep B1 k2).keep B2 k4
          refine ⟨_, rfl, _, rfl, _, rfl, _, _, rfl, rfl, _, rfl, p, q, ns4, z4, .ref a, pl, m - 1, tm, (by show [V.ref p, V.ref a, V.int ((m : Int) - 1), V.int (tm : Int)] = _; rw [em]), B4, hp4, ok, by omega, by omega, htm, fun wk u ns5 z5 H5 can dep ctm hu B5 k5 => ?_⟩
          have hD5 := k5 _ _ hD4 hf.1 hf.2
          have tD : Tups H5 (upd H5 D (.lst (us ++ [u]))) := Tups.lst hD5
          refine ⟨_, hD5, by rw [hw4.len, hl]; exact szl (by omega), l ++ [wk], us ++ [u], ns5, z5, ⟨by rw [upd_ne hf.1.symm]; exact B5.b, by rw [upd_ne hf.2.symm]; exact B5.l, B5.ne⟩, fun b o e e1 e2 => ?_, upd_same, (hw4.tups ((k5.tups B4).trans tD)).snoc (hu.tups tD), by simp [hl], fun x hx => ?_⟩
          · rw [upd_ne (ne_of_none e hD)]
            exact k5 _ _ (k4 _ _ e e1 e2) e1 e2
          · rcases List.mem_append.mp hx with h | h
            · exact hall x h
            · have : x = wk := by simpa using h
              subst this
              exact ⟨can, dep, ctm⟩
        · rintro H4 ⟨l, us, ns4, z4, B4, k4, hD4, hw4, hl, hall⟩
          refine ⟨D, us, rfl, .inl ⟨SqL.of hD4, fun T hT => ⟨by show 2 ≤ sizeLine; decide, fun U hU => ?_⟩⟩⟩
          have sT := Same.new hT (.tup us)
          have sU := Same.new hU (.tup [.str "row", .ref T])
          have sTU := sT.trans sU
          have hdep := ofL_dep (n := m - 1) l fun x hx => (hall x hx).2.1
          refine kk (.row (ofL l)) _ ns4 z4 _ ⟨by rw [ofL_len]; omega, ofL_can l fun x hx => (hall x hx).1⟩ (by show 1 + (ofL l).dep ≤ m; omega) ⟨by rw [ofL_len]; omega, ofL_tm l fun x hx => (hall x hx).2.2⟩ ⟨U, T, us, rfl, upd_same, sU _ _ upd_same, (hw4.tups (Tups.of sTU)).ws⟩ (B4.mono sTU) (k1.trans (k2.trans (k4.trans (Keep.of sTU))))
      · -- often
        refine ⟨_, rfl, _, rfl, _, _, rfl, rfl, p, q, ns1, z1, (tm : Int) + 1, rfl, B1, by omega, p9 (by omega), fun t ns2 z2 H2 t0 t1 B2 k2 => ?_⟩
        obtain ⟨t', rfl⟩ : ∃ t' : Nat, t = (t' : Int) := ⟨t.toNat, by omega⟩
        have hp2 := hp1.keep B1 k2
        refine ⟨_, rfl, _, rfl, _, rfl, _, _, rfl, rfl, _, rfl, p, q, ns2, z2, .ref a, pl, m - 1, tm, (by show [V.ref p, V.ref a, V.int ((m : Int) - 1), V.int (tm : Int)] = _; rw [em]), B2, hp2, ok, by omega, by omega, htm, fun wk u ns5 z5 H5 can dep ctm hu B5 k5 => ?_⟩
        refine ⟨by show 3 ≤ sizeLine; decide, fun U hU => ?_⟩
        have sU := Same.new hU (.tup [.str "times", .int (t' : Int), u])
        exact kk (.times t' wk) _ ns5 z5 _ ⟨by omega, can⟩ (by show 1 + wk.dep ≤ m; omega) ⟨by omega, ctm⟩ ⟨U, u, rfl, upd_same, hu.tups (Tups.of sU)⟩ (B5.mono sU) (k1.trans (k2.trans (k5.trans (Keep.of sU))))
theorem txs_len : ∀ ls : List (List Nat), ((ls.map tx).map (·.length)).sum = ls.flatten.length
  | [] => rfl
  | l :: r => by
    rw [List.map_cons, List.map_cons, List.sum_cons, txs_len r, List.flatten_cons, List.length_append, tx_len]
theorem sumI : ∀ (f : W → Nat) (l : List W), (l.map fun x => ((f x : Nat) : Int)).sum = (((l.map f).sum : Nat) : Int)
  | _, [] => rfl
  | f, x :: r => by
    rw [List.map_cons, List.sum_cons, List.map_cons, List.sum_cons, sumI f r]
    omega
theorem ok_law_tuples (D : Dn K mg "_law_tuples" s_law_tuples P_law_tuples) (g : Gx mg) : ∀ n, C8.Cal P w K mg base (n + 0) "_law_tuples" (spLTuples n) []
  | 0 => by
    obtain ⟨f, fd, F, hm, b⟩ := D.ex
    exact ⟨f, fd, _, [], (⟨fun vs H Q E h => absurd h (no_spLTuples vs H Q E), fun A outer s H args us vs Q E _ _ _ _ h => absurd h (no_spLTuples vs H Q E)⟩ : FnOk _ _ _ _ _ _ _ _ _ _ _), hm, F.kp, b, .nil⟩
  | n + 1 => by
    have c_law_tuples := ok_law_tuples D g n
    refine D.cal sc_law_tuples (fun vs H Q E h => ?_) (fun f cdv A outer s H vs Q E hr h => ?_)
    · obtain ⟨u, wk, many, rfl, hw, can, hd, q⟩ := h
      rfl
    obtain ⟨u, wk, many, rfl, hw, can, hd, q⟩ := h
    have nd := sc_law_tuples.nd
    refine ⟨_, (pss_cons (ps_if (pt_cmpR op_eq (pe_ix ix_tup (pv 0) pe_int (fun _ _ => rfl)) pe_str (nomark _)) (pss_one (ps_ret (pe_op op_add pe_int (C8.pe_c c_law_tuples hr (by omega) rfl (pa_cons (pe_ix ix_tup (pv 0) pe_int (fun _ _ => rfl)) pa_nil))))) pss_nil)
      (pss_one (ps_ret (pe_ifExp (pt_cmpR op_eq (pe_ix ix_tup (pv 0) pe_int (fun _ _ => rfl)) pe_str (nomark _)) (pe_op op_add pe_int (pe_callB (cr_sum rfl) rfl g.sum b_sum (pa_cons (pe_lc (own := [("_law_part", 1)]) rfl nd (pi_tup (pe_ix ix_tup (pv 0) pe_int (fun _ _ => rfl))) (blkOk_by (own := [("_law_part", 1)]) (N := N_law_tuples) (sc := defScope s_law_tuples) (by decide +kernel)) (fun _ _ _ _ _ => (pg_name (i := 1) nd rfl (.inl rfl))) (fun _ _ _ _ _ => pts_nil) (fun _ _ _ _ _ => (C8.pe_c c_law_tuples (by exact hr) (by omega) rfl (pa_cons (pv 1) pa_nil)))) pa_nil))) pe_int)))), ?_⟩
    cases wk with
    | push c =>
      obtain ⟨a, rfl, ha⟩ := hw
      refine ⟨_, rfl, a, _, 0, _, rfl, rfl, SqT.of ha, rfl, rfl, _, rfl, iteDF (vne s_pu_ti) ?_⟩
      exact ⟨_, rfl, a, _, 0, _, rfl, rfl, SqT.of ha, rfl, rfl, _, rfl, iteDF (vne s_pu_ro) (q H (Same.refl H))⟩
    | pop =>
      obtain ⟨a, rfl, ha⟩ := hw
      refine ⟨_, rfl, a, _, 0, _, rfl, rfl, SqT.of ha, rfl, rfl, _, rfl, iteDF (vne s_po_ti) ?_⟩
      exact ⟨_, rfl, a, _, 0, _, rfl, rfl, SqT.of ha, rfl, rfl, _, rfl, iteDF (vne s_po_ro) (q H (Same.refl H))⟩
    | times m wk =>
      obtain ⟨a, u, rfl, ha, hu⟩ := hw
      obtain ⟨hm, can⟩ := can
      have hd' : wk.dep ≤ n := by
        have : 1 + wk.dep ≤ n + 1 := hd
        omega
      refine ⟨_, rfl, a, _, 0, _, rfl, rfl, SqT.of ha, rfl, rfl, _, rfl, iteD rfl ?_⟩
      refine ⟨_, rfl, a, _, 2, _, rfl, rfl, SqT.of ha, rfl, u, wk, many, rfl, hu, can, hd', fun H1 s1 => ⟨_, _, rfl, rfl, ?_⟩⟩
      have e : ((W.times m wk).siz : Int) = 1 + (wk.siz : Int) := by
        show ((1 + wk.siz : Nat) : Int) = _
        omega
      have q1 := q H1 s1
      rw [e] at q1
      exact q1
    | row ws =>
      obtain ⟨a, b, xs, rfl, ha, hb, hs⟩ := hw
      obtain ⟨hlen, can⟩ := can
      have hd' : ws.dep ≤ n := by
        have : 1 + ws.dep ≤ n + 1 := hd
        omega
      have hl := hs.len
      refine ⟨_, rfl, a, _, 0, _, rfl, rfl, SqT.of ha, rfl, rfl, _, rfl, iteDF (vne s_ro_ti) ?_⟩
      refine ⟨_, rfl, a, _, 0, _, rfl, rfl, SqT.of ha, rfl, rfl, _, rfl, iteD rfl ?_⟩
      refine ⟨_, rfl, a, _, 1, _, rfl, rfl, SqT.of ha, rfl, b, rfl, ⟨_, SqT.of hb⟩, fun D hD => ?_⟩
      refine lc_it (walk_tup (K := K) (a := b) (xs := xs)) (fun i H2 => Same H H2 ∧ H2 D = some (.lst (((ws.list.take i).map fun x => ((x.siz : Nat) : Int)).map V.int))) ⟨Same.new hD _, upd_same⟩ (fun i H2 _ h2 => SqT.of (h2.1 _ _ hb)) ?_ ?_
      · rintro i x H2 H3 hi ⟨s2, h2⟩ ⟨rfl, hx⟩
        obtain ⟨wk, hwk, hwa⟩ := hs.get hx
        have hmem := List.mem_of_getElem? hwk
        have hsz : i < sizeLine := szl (by rw [hl, Ws.len_list] at hi; omega)
        refine ⟨rfl, ?_⟩
        refine ⟨_, rfl, x, wk, many, rfl, hwa.tups (Tups.of s2), Ws.can_mem can hmem, Nat.le_trans (Ws.dep_mem hmem) hd', fun H4 s4 => ⟨_, s4 _ _ h2, ?_, fun b o e => ?_, ?_⟩⟩
        · rw [List.length_map, List.length_map, List.length_take]
          exact Nat.lt_of_le_of_lt (Nat.min_le_left ..) hsz
        · rw [upd_ne (ne_of_none e hD)]
          exact s4 _ _ (s2 b o e)
        · rw [upd_same, List.take_add_one, hwk, List.map_append, List.map_append]
          rfl
      · rintro H2 ⟨s2, h2⟩
        rw [hl, List.take_of_length_le (Nat.le_refl _)] at h2
        refine ⟨D, _, rfl, SqL.of h2, _, _, rfl, rfl, ?_⟩
        rw [sumI W.siz ws.list, ← Ws.siz_list]
        have e : ((W.row ws).siz : Int) = 1 + (ws.siz : Int) := by
          show ((1 + ws.siz : Nat) : Int) = _
          omega
        have q1 := q H2 s2
        rw [e] at q1
        exact q1
theorem ok_law_some (D : Dn K mg "_law_some" s_law_some P_law_some) (g : Gx mg) (c_law_work : C8.Cal P w K mg base 9 "_law_work" (spLWork 8) []) (c_law_tuples : C8.Cal P w K mg base 8 "_law_tuples" (spLTuples 8) []) : C8.Cal P w K mg base 10 "_law_some" (spLSome 8) [] := by
  refine D.cal sc_law_some (fun vs H Q E h => ?_) (fun f cdv A outer s H vs Q E hr h => ?_)
  · obtain ⟨p, q, ns, z, v, pl, m, tm, lim, rfl, B, hp, ok, m1, m8, m2, tm2, htm, hlim, kk⟩ := h
    rfl
  obtain ⟨p, q, ns, z, v, pl, m, tm, lim, rfl, B, hp, ok, m1, m8, m2, tm2, htm, hlim, kk⟩ := h
  have nd := sc_law_some.nd
  refine ⟨_, (pss_cons (ps_set (i := 5) nd rfl (.inl rfl) (C8.pe_c c_law_work hr (by decide) rfl (pa_cons (pv 0) (pa_cons (pv 1) (pa_cons (pv 2) (pa_cons (pv 3) pa_nil))))))
    (pss_one (ps_ret (pe_ifExp (pt_cmpR op_le (C8.pe_c c_law_tuples hr (by decide) rfl (pa_cons (pv 5) pa_nil)) (pv 4) (nomark _)) (pv 5) (pe_tup (pa_cons pe_str (pa_cons pe_int (pa_cons (pe_tup (pa_cons pe_str pa_nil)) pa_nil)))))))), ?_⟩
  refine ⟨_, rfl, _, rfl, _, rfl, _, rfl, p, q, ns, z, v, pl, m, tm, rfl, B, hp, ok, m1, m8, htm, fun wk u ns1 z1 H1 can dep ctm hu B1 k1 => ?_⟩
  refine ⟨_, rfl, u, wk, pl.many, rfl, hu, can, by omega, fun H2 s2 => ?_⟩
  have k2 := k1.trans (Keep.of s2)
  refine ⟨_, rfl, _, _, rfl, rfl, _, rfl, ite2 (fun c => ?_) (fun c => ?_)⟩
  · have c' := of_decide_eq_true c
    exact ⟨_, rfl, kk wk u ns1 z1 H2 can dep (by omega) ctm (hu.tups (Tups.of s2)) (B1.mono s2) k2⟩
  · refine ⟨by show 1 ≤ sizeLine; decide, fun T hT => ⟨by show 3 ≤ sizeLine; decide, fun U hU => ?_⟩⟩
    have sT := Same.new hT (.tup [.str "pop"])
    have sU := Same.new hU (.tup [.str "times", .int 2, .ref T])
    exact kk (.times 2 .pop) _ ns1 z1 _ ⟨by decide, trivial⟩ m2 hlim ⟨tm2, trivial⟩ ⟨U, .ref T, rfl, upd_same, T, rfl, sU _ _ upd_same⟩ (B1.mono (s2.trans (sT.trans sU))) (k2.trans (Keep.of (sT.trans sU)))
theorem ok_alike (D : Dn K mg "alike" s_alike P_alike) (g : Gx mg) (c_check_plan : C8.Cal P w K mg base 3 "check_plan" spChPlan []) (c_check_work : C8.Cal P w K mg base 3 "check_work" spChWork []) (c_triple_of_work : C8.Cal P w K mg base 11 "triple_of_work" (spTri 8) []) : C8.Cal P w K mg base 12 "alike" spAlikeW [] := by
  refine D.cal sc_alike (fun vs H Q E h => ?_) (fun f cdv A outer s H vs Q E hr h => ?_)
  · obtain ⟨v, p, a, b, t, u, rfl, hp, ok, ha, ta, hb, tb, q⟩ := h
    rfl
  obtain ⟨v, p, a, b, t, u, rfl, hp, ok, ha, ta, hb, tb, q⟩ := h
  have nd := sc_alike.nd
  refine ⟨_, (pss_cons (ps_expr (C8.pe_c c_check_plan hr (by decide) rfl (pa_cons (pv 0) pa_nil)))
    (pss_cons (ps_expr (C8.pe_c c_check_work hr (by decide) rfl (pa_cons (pv 0) (pa_cons (pv 1) pa_nil))))
    (pss_cons (ps_expr (C8.pe_c c_check_work hr (by decide) rfl (pa_cons (pv 0) (pa_cons (pv 2) pa_nil))))
    (pss_one (ps_ret (pe_cmpR (op_eqD hr.units) (C8.pe_c c_triple_of_work hr (by decide) rfl (pa_cons (pv 0) (pa_cons (pv 1) pa_nil))) (C8.pe_c c_triple_of_work hr (by decide) rfl (pa_cons (pv 0) (pa_cons (pv 2) pa_nil))) (nomark _))))))), ?_⟩
  refine ⟨_, rfl, v, p, rfl, hp, ok, fun H1 s1 => ?_⟩
  refine ⟨_, rfl, _, rfl, v, p, a, t, rfl, hp.mono s1, ok, ha.tups (Tups.of s1), ta, fun H2 s2 => ?_⟩
  have s12 := s1.trans s2
  refine ⟨_, rfl, _, rfl, v, p, b, u, rfl, hp.mono s12, ok, hb.tups (Tups.of s12), tb, fun H3 s3 => ?_⟩
  have s13 := s12.trans s3
  refine ⟨_, rfl, _, rfl, v, p, a, t, rfl, hp.mono s13, ok, ha.tups (Tups.of s13), ta.can, ta.dep, fun H4 v4 s4 h4 => ?_⟩
  have s14 := s13.trans s4
  refine ⟨_, rfl, _, rfl, v, p, b, u, rfl, hp.mono s14, ok, hb.tups (Tups.of s14), tb.can, tb.dep, fun H5 v5 s5 h5 => ?_⟩
  exact eq_trip (W.tri_ok (room := p.room) ok.r1 t ta.can) (W.tri_ok (room := p.room) ok.r1 u tb.can) (h4.mono s5) h5 fun k hk => q k H5 (s14.trans s5) hk
theorem ok_parting (D : Dn K mg "parting" s_parting P_parting) (g : Gx mg) (c_check_plan : C8.Cal P w K mg base 3 "check_plan" spChPlan []) (c_check_work : C8.Cal P w K mg base 3 "check_work" spChWork []) (c_triple_of_work : C8.Cal P w K mg base 11 "triple_of_work" (spTri 8) []) (c_stack_behind : C8.Cal P w K mg base 2 "stack_behind" spBehind []) : C8.Cal P w K mg base 12 "parting" spParting [] := by
  refine D.cal sc_parting (fun vs H Q E h => ?_) (fun f cdv A outer s H vs Q E hr h => ?_)
  · obtain ⟨v, p, a, b, t, u, rfl, hp, ok, ha, ta, hb, tb, q1, q2⟩ := h
    rfl
  obtain ⟨v, p, a, b, t, u, rfl, hp, ok, ha, ta, hb, tb, q1, q2⟩ := h
  have nd := sc_parting.nd
  refine ⟨_, (pss_cons (ps_expr (C8.pe_c c_check_plan hr (by decide) rfl (pa_cons (pv 0) pa_nil)))
    (pss_cons (ps_expr (C8.pe_c c_check_work hr (by decide) rfl (pa_cons (pv 0) (pa_cons (pv 1) pa_nil))))
    (pss_cons (ps_expr (C8.pe_c c_check_work hr (by decide) rfl (pa_cons (pv 0) (pa_cons (pv 2) pa_nil))))
    (pss_cons (ps_set (i := 3) nd rfl (.inl rfl) (C8.pe_c c_triple_of_work hr (by decide) rfl (pa_cons (pv 0) (pa_cons (pv 1) pa_nil))))
    (pss_cons (ps_set (i := 4) nd rfl (.inl rfl) (C8.pe_c c_triple_of_work hr (by decide) rfl (pa_cons (pv 0) (pa_cons (pv 2) pa_nil))))
    (pss_cons (ps_for PassesOwn.never rfl (pi_range1 (by rfl) g.range (pa_cons (pe_op op_add (pe_ix ix_tup (pv 0) pe_int (fun _ _ => rfl)) pe_int) pa_nil)) (pg_name (i := 5) nd rfl (.inl rfl)) (pss_cons (ps_set (i := 6) nd rfl (.inl rfl) (pe_op op_mulS (pe_ix ix_str (C8.pe_gc rfl g.SIGNS) pe_int (fun _ _ => rfl)) (pv 5)))
    (pss_one (ps_if (pt_cmpR op_ne (C8.pe_c c_stack_behind hr (by decide) rfl (pa_cons (pv 3) (pa_cons (pv 6) pa_nil))) (C8.pe_c c_stack_behind hr (by decide) rfl (pa_cons (pv 4) (pa_cons (pv 6) pa_nil))) (nomark _)) (pss_one (ps_ret (pv 6))) pss_nil))))
    (pss_one (ps_ret pe_non)))))))), ?_⟩
  have h9 := ok.r9
  obtain ⟨pa, pb, rfl, hpa, hpb⟩ := id hp
  refine ⟨_, rfl, _, p, rfl, hp, ok, fun H1 s1 => ?_⟩
  refine ⟨_, rfl, _, rfl, _, p, a, t, rfl, hp.mono s1, ok, ha.tups (Tups.of s1), ta, fun H2 s2 => ?_⟩
  have s12 := s1.trans s2
  refine ⟨_, rfl, _, rfl, _, p, b, u, rfl, hp.mono s12, ok, hb.tups (Tups.of s12), tb, fun H3 s3 => ?_⟩
  have s13 := s12.trans s3
  refine ⟨_, rfl, _, rfl, _, p, a, t, rfl, hp.mono s13, ok, ha.tups (Tups.of s13), ta.can, ta.dep, fun H4 v4 s4 h4 => ?_⟩
  have s14 := s13.trans s4
  refine ⟨_, rfl, _, rfl, _, p, b, u, rfl, hp.mono s14, ok, hb.tups (Tups.of s14), tb.can, tb.dep, fun H5 v5 s5 h5 => ?_⟩
  have s15 := s14.trans s5
  have o1 := W.tri_ok (room := p.room) ok.r1 t ta.can
  have o2 := W.tri_ok (room := p.room) ok.r1 u tb.can
  have k1 := o1.kl
  have k2 := o2.kl
  have h4' := h4.mono s5
  refine ⟨_, rfl, pa, _, 0, _, rfl, rfl, SqT.of (s15 _ _ hpa), rfl, _, _, rfl, rfl, _, rfl, by omega, by omega, ?_⟩
  refine for_range (lo := 0) (fun i σ H6 => ∃ (o5 o6 : Option V), σ = [some (.ref pa), some a, some b, some v4, some v5, o5, o6] ∧ Same H5 H6 ∧ ∀ s', s' < i → tby (t.tri p.room) (List.replicate s' 97) = tby (u.tri p.room) (List.replicate s' 97))
    ⟨none, none, rfl, Same.refl _, fun s' h => absurd h (Nat.not_lt_zero _)⟩ ?_ ?_
  · rintro i σ H6 hi ⟨o5, o6, rfl, s6, hlt⟩
    have hi' : i ≤ p.room := by omega
    have erep : (List.replicate i [97]).flatten = List.replicate i 97 := by
      clear hlt hi hi'
      induction i with
      | zero => rfl
      | succ i ih => rw [List.replicate_succ, List.flatten_cons, ih, List.replicate_succ]; rfl
    have hlen : (List.replicate i 97).length = i := List.length_replicate
    refine ⟨("abcd" : Str) |> fun _ => tx [97, 98, 99, 100], 0, 97, rfl, rfl, by rw [tx_len]; exact sz (by decide), rfl, _, rfl, [97], i, rfl, (by show V.int (0 + (i : Int)) = _; rw [Int.zero_add]), by show 1 * i ≤ _; omega, by omega, ?_⟩
    rw [erep]
    refine ⟨_, rfl, _, rfl, v4, t.tri p.room, List.replicate i 97, rfl, h4'.mono s6, by omega, by omega, fun H7 s7 => ?_⟩
    refine ⟨_, rfl, _, rfl, v5, u.tri p.room, List.replicate i 97, rfl, h5.mono (s6.trans s7), by omega, by omega, fun H8 s8 => ?_⟩
    have s58 := s6.trans (s7.trans s8)
    refine ⟨rfl, _, rfl, ?_⟩
    by_cases e : tby (t.tri p.room) (List.replicate i 97) = tby (u.tri p.room) (List.replicate i 97)
    · rw [e]
      refine iteNS rfl ?_
      refine ⟨_, _, rfl, s58, fun s' h => ?_⟩
      by_cases e2 : s' = i
      · subst e2
        exact e
      · exact hlt s' (by omega)
    · have e3 : decide (V.str (tx (tby (t.tri p.room) (List.replicate i 97))) = V.str (tx (tby (u.tri p.room) (List.replicate i 97)))) = false := decide_eq_false fun z => by
        injection z with z
        exact e (str_inj.mp z)
      rw [e3]
      refine iteT ?_
      exact ⟨_, rfl, q1 i H8 (s15.trans s58) hi' e hlt⟩
  · rintro σ H6 ⟨o5, o6, rfl, s6, hlt⟩
    exact q2 H6 (s15.trans s6) fun s hs => hlt s (by omega)
theorem ok_law_told {CS : Addr} {ns : Nine} {is : Nat → Prop} (Dt : Dn K mg "_law_told" s_law_told P_law_told) (g : Gx mg) (n : NineG mg ns CS) (T : ∀ i, is i → TOne9 K ns CS i) (k : Nat) : C8.Cal P w K mg base (k + 1) "_law_told" (spToldL P w K mg base k is ns) [] := by
  refine Dt.cal sc_law_told (fun vs H Q E h => ?_) (fun f0 cdv A outer s H vs Q E hr h => ?_)
  · obtain ⟨f, F, tl, rfl, _⟩ := h
    rfl
  obtain ⟨f, F, tl, rfl, hF, hT, h⟩ := h
  have nd := sc_law_told.nd
  refine ⟨_, pss_one (ps_try_as (i := 1) (c := .ref CS)
      (tb := fun W D σ H => ∃ Ech : XK, (∀ cls d σ' H', Ech cls d H' → W cls d σ' H') ∧ σ[0]? = some (some (.ref f)) ∧ H f = some (LamO f F) ∧ LamT P w K mg base k H f tl ∧ tl Ech H D.rt)
      (ts := fun a cls d Dd σ H => ∃ (i : Nat) (w : Str) (v : Int), is i ∧ i < 9 ∧ nineN[i]? = some w ∧ cls = .ref (nAt ns i) ∧ Fld i d v H ∧ H a = none ∧ (∃ σ0 : L2.St, σ = σ0.set 1 (some (.ref a))) ∧ (∀ (H2 : Hp) (p : Addr), Same H H2 → H2 p = some (.tup [.str w, .int v]) → Dd.rt (.ref p) H2))
      rfl rfl nd rfl rfl ⟨rfl, by decide, .inl n.sink⟩ LamX.takes0 (fun W pn xe tk _ => ?_) (fun a oe cls d pn hz hf => ?_)), ?_⟩
  · refine ⟨fun pins s' σ H' D I h' => ?_⟩
    obtain ⟨Ech, hW, h1, h2, h3, h4⟩ := h'
    exact (pss_one (ps_ret (pe_callL (i := 0) (k := k) (E := Ech) hr (passes_call tk hW) rfl (.inl rfl)))).run pins s' σ H' D I ⟨f, F, tl, h1, h2, h3, h4⟩
  · refine ⟨fun pins s' σ H' Dd I h' => ?_⟩
    obtain ⟨i, wd, v, hi0, hi, hw, rfl, hF, ha, ⟨σ0, rfl⟩, hr⟩ := h'
    have TI := T i hi0
    obtain ⟨o0, o2, o3, o4, hσ⟩ : ∃ o0 o2 o3 o4 : Option V, σ0.set 1 (some (.ref a)) = [o0, some (.ref a), o2, o3, o4] := by
      have hl : (σ0.set 1 (some (.ref a))).length = 5 := I.len
      rw [List.length_set] at hl
      match σ0, hl with
      | [x0, x1, x2, x3, x4], _ => exact ⟨x0, x2, x3, x4, rfl⟩
    have hd : ∃ T : TS, PSs ((cxOf C8.CX0 P w K mg base N_law_told "_law_told" (defScope s_law_told) f0 cdv A outer s H E).nox.suite a ((a, oe) :: pn)) (suiteOf (defBody s_law_told)) T ∧ T Dd (σ0.set 1 (some (.ref a))) H' := by
      refine ⟨_, (pss_cons (ps_set (i := 2) nd rfl (.inl rfl) (pe_lst (pa_cons (pe_callB (r := rIsE2 K (nAt ns i) a d) (call_isE2 TI.one.ex hz hf) rfl g.isi b_isi (pa_cons (pv 1) (pa_cons (C8.pe_gc rfl n.BadCount) pa_nil))) (pa_cons (pe_callB (r := rIsE2 K (nAt ns i) a d) (call_isE2 TI.one.ex hz hf) rfl g.isi b_isi (pa_cons (pv 1) (pa_cons (C8.pe_gc rfl n.BadPair) pa_nil))) (pa_cons (pe_callB (r := rIsE2 K (nAt ns i) a d) (call_isE2 TI.one.ex hz hf) rfl g.isi b_isi (pa_cons (pv 1) (pa_cons (C8.pe_gc rfl n.BadPlan) pa_nil))) (pa_cons (pe_callB (r := rIsE2 K (nAt ns i) a d) (call_isE2 TI.one.ex hz hf) rfl g.isi b_isi (pa_cons (pv 1) (pa_cons (C8.pe_gc rfl n.BadSign) pa_nil))) pa_nil))))))
    (pss_cons (ps_set (i := 2) nd rfl (.inl rfl) (pe_op op_cat (pv 2) (pe_lst (pa_cons (pe_callB (r := rIsE2 K (nAt ns i) a d) (call_isE2 TI.one.ex hz hf) rfl g.isi b_isi (pa_cons (pv 1) (pa_cons (C8.pe_gc rfl n.BadStack) pa_nil))) (pa_cons (pe_callB (r := rIsE2 K (nAt ns i) a d) (call_isE2 TI.one.ex hz hf) rfl g.isi b_isi (pa_cons (pv 1) (pa_cons (C8.pe_gc rfl n.BadSteps) pa_nil))) (pa_cons (pe_callB (r := rIsE2 K (nAt ns i) a d) (call_isE2 TI.one.ex hz hf) rfl g.isi b_isi (pa_cons (pv 1) (pa_cons (C8.pe_gc rfl n.BadText) pa_nil))) pa_nil))))))
    (pss_cons (ps_set (i := 2) nd rfl (.inl rfl) (pe_op op_cat (pv 2) (pe_lst (pa_cons (pe_callB (r := rIsE2 K (nAt ns i) a d) (call_isE2 TI.one.ex hz hf) rfl g.isi b_isi (pa_cons (pv 1) (pa_cons (C8.pe_gc rfl n.BadTriple) pa_nil))) (pa_cons (pe_callB (r := rIsE2 K (nAt ns i) a d) (call_isE2 TI.one.ex hz hf) rfl g.isi b_isi (pa_cons (pv 1) (pa_cons (C8.pe_gc rfl n.BadWork) pa_nil))) pa_nil)))))
    (pss_cons (ps_if (PW.pt (pw_or (pt_cmpR op_ne (pe_bm PySem.F.plainAttrs_list PySem.F.slot_list_count PySem.F.type_list_count mt_count (pv 2) (pa_cons pe_bl pa_nil)) pe_int (nomark _)) (pw_or1 (pt_not (pt_val (pe_callB (r := rIsE2 K (nAt ns i) a d) (call_isE2 TI.one.ex hz hf) rfl g.isi b_isi (pa_cons (pv 1) (pa_cons (pe_bltn (v := .ty "ValueError") rfl g.ValueError b_VE rfl) pa_nil)))))))) (pss_one (ps_ret (pe_tup (pa_cons pe_str (pa_cons pe_int pa_nil))))) pss_nil)
    (pss_cons (ps_set (i := 3) nd rfl (.inl rfl) (pe_lst (pa_cons pe_str (pa_cons pe_str (pa_cons pe_str (pa_cons pe_str (pa_cons pe_str (pa_cons pe_str (pa_cons pe_str (pa_cons pe_str (pa_cons pe_str pa_nil)))))))))))
    (pss_cons (ps_set (i := 4) nd rfl (.inl rfl) (pe_ix ix_list (pv 3) (pe_bm PySem.F.plainAttrs_list PySem.F.slot_list_index PySem.F.type_list_index mt_index (pv 2) (pa_cons pe_bl pa_nil)) (fun _ _ => rfl)))
    (pss_cons (ps_if (pt_cmpR op_eq (pv 4) pe_str (nomark _)) (pss_one (ps_ret (pe_tup (pa_cons (pv 4) (pa_cons (pe_xf TI.xf TI.part hz hf (pv 1)) pa_nil))))) pss_nil)
    (pss_cons (ps_if (pt_cmpR op_in_seq (pv 4) (pe_tup (pa_cons pe_str (pa_cons pe_str pa_nil))) rfl) (pss_one (ps_ret (pe_tup (pa_cons (pv 4) (pa_cons (pe_xf TI.xf TI.number hz hf (pv 1)) pa_nil))))) pss_nil)
    (pss_one (ps_ret (pe_tup (pa_cons (pv 4) (pa_cons (pe_ifExp (pt_cmpR op_eq (pv 4) pe_str (nomark _)) (pe_xf TI.xf TI.place hz hf (pv 1)) pe_int) pa_nil))))))))))))), ?_⟩
      rw [hσ]
      have s0 : Same H' H' := Same.refl H'
      have kit := kit9 TI.one
      refine ⟨_, rfl, .ref ns.c0, .ref ns.c0, _, rfl, fun u hu => hu, kit 0 (by decide), (hF.same s0).xd, ?_⟩
      refine ⟨_, rfl, .ref ns.c1, .ref ns.c1, _, rfl, fun u hu => hu, kit 1 (by decide), (hF.same s0).xd, ?_⟩
      refine ⟨_, rfl, .ref ns.c2, .ref ns.c2, _, rfl, fun u hu => hu, kit 2 (by decide), (hF.same s0).xd, ?_⟩
      refine ⟨_, rfl, .ref ns.c3, .ref ns.c3, _, rfl, fun u hu => hu, kit 3 (by decide), (hF.same s0).xd, ?_⟩
      refine ⟨by (first | (show _ ≤ sizeLine; decide) | (simp only [List.length_cons, List.length_nil]; decide)), fun l1 hNewl1 => ?_⟩
      generalize hGenl1 : upd _ l1 _ = H1
      obtain ⟨s1, h1⟩ := Same.ofG hNewl1 hGenl1
      replace s0 := s0.trans s1
      refine ⟨_, rfl, ?_⟩
      refine ⟨_, rfl, .ref ns.c4, .ref ns.c4, _, rfl, fun u hu => hu, kit 4 (by decide), (hF.same s0).xd, ?_⟩
      refine ⟨_, rfl, .ref ns.c5, .ref ns.c5, _, rfl, fun u hu => hu, kit 5 (by decide), (hF.same s0).xd, ?_⟩
      refine ⟨_, rfl, .ref ns.c6, .ref ns.c6, _, rfl, fun u hu => hu, kit 6 (by decide), (hF.same s0).xd, ?_⟩
      refine ⟨by (first | (show _ ≤ sizeLine; decide) | (simp only [List.length_cons, List.length_nil]; decide)), fun l2 hNewl2 => ?_⟩
      generalize hGenl2 : upd _ l2 _ = H2
      obtain ⟨s2, h2⟩ := Same.ofG hNewl2 hGenl2
      replace s0 := s0.trans s2
      replace h1 := s2 _ _ h1
      refine ⟨l1, l2, _, _, rfl, rfl, h1, h2, by show 7 ≤ sizeLine; decide, fun l3 hl3 => ?_⟩
      generalize hG3 : upd H2 l3 _ = H3
      obtain ⟨s3, h3⟩ := Same.ofG hl3 hG3
      replace s0 := s0.trans s3
      replace h1 := s3 _ _ h1
      replace h2 := s3 _ _ h2
      refine ⟨_, rfl, ?_⟩
      refine ⟨_, rfl, .ref ns.c7, .ref ns.c7, _, rfl, fun u hu => hu, kit 7 (by decide), (hF.same s0).xd, ?_⟩
      refine ⟨_, rfl, .ref ns.c8, .ref ns.c8, _, rfl, fun u hu => hu, kit 8 (by decide), (hF.same s0).xd, ?_⟩
      refine ⟨by (first | (show _ ≤ sizeLine; decide) | (simp only [List.length_cons, List.length_nil]; decide)), fun l4 hNewl4 => ?_⟩
      generalize hGenl4 : upd _ l4 _ = H4
      obtain ⟨s4, h4⟩ := Same.ofG hNewl4 hGenl4
      replace s0 := s0.trans s4
      replace h3 := s4 _ _ h3
      refine ⟨l3, l4, _, _, rfl, rfl, h3, h4, by show 9 ≤ sizeLine; decide, fun l5 hl5 => ?_⟩
      generalize hG5 : upd H4 l5 _ = H5
      obtain ⟨s5, h5⟩ := Same.ofG hl5 hG5
      replace s0 := s0.trans s5
      replace h3 := s5 _ _ h3
      replace h4 := s5 _ _ h4
      have h5 : H5 l5 = some (.lst ((nineB i).map V.bl)) := h5
      have nf : ((nineB i).map V.bl).all flatV = true := rfl
      refine ⟨_, rfl, .inl ⟨rfl, _, SqL.of h5⟩, l5, _, .bl true, rfl, rfl, SqL.of h5, rfl, nf, ?_⟩
      rw [nine_count i hi]
      refine ⟨rfl, _, rfl, iteNS rfl ?_⟩
      refine ⟨_, rfl, .ty "ValueError", .type "ValueError", _, rfl, fun u hu => hu, TI.one.ve, (hF.same s0).xd, ?_⟩
      refine ⟨_, rfl, iteF ?_⟩
      -- the word
      refine ⟨by (first | (show _ ≤ sizeLine; decide) | (simp only [List.length_cons, List.length_nil]; decide)), fun lw hNewlw => ?_⟩
      generalize hGenlw : upd _ lw _ = H6
      obtain ⟨s6, h6⟩ := Same.ofG hNewlw hGenlw
      replace s0 := s0.trans s6
      replace h5 := s6 _ _ h5
      have h6 : H6 lw = some (.lst (nineN.map V.str)) := h6
      refine ⟨_, rfl, _, rfl, .inl ⟨rfl, _, SqL.of h5⟩, l5, _, .bl true, i, .bl true, rfl, rfl, SqL.of h5, rfl, nf, by rw [List.getElem?_map, nine_at i hi]; rfl, rfl, fun m z' hm hz' => ?_, ?_⟩
      · rw [List.getElem?_map, nine_no i hi m hm] at hz'
        cases hz'
        rfl
      refine ⟨lw, _, ((i : Nat) : Int), .str wd, rfl, rfl, SqL.of h6, atI_nat (by rw [List.getElem?_map, hw]; rfl), ?_⟩
      have vn : ∀ z : Str, wd ≠ z → ¬ (V.str wd = V.str z) := fun z h e => h (by injection e)
      have hF6 := hF.same s0
      refine ⟨_, rfl, rfl, _, rfl, ?_⟩
      by_cases n1 : wd = "BadPlan"
      · have i2 := nine_plan i hi (n1 ▸ hw)
        subst i2
        obtain ⟨dd, rfl, hdd⟩ : ∃ dd, d = some dd ∧ H6 dd = some (.xd [("part", .int v)]) := hF6
        refine iteD (congrArg V.str n1) ?_
        refine ⟨_, rfl, _, rfl, rfl, rfl, dd, _, _, rfl, hdd, rfl, ?_⟩
        refine ⟨by (first | (show _ ≤ sizeLine; decide) | (simp only [List.length_cons, List.length_nil]; decide)), fun lr hNewlr => ?_⟩
        generalize hGenlr : upd _ lr _ = H8
        obtain ⟨s8, h8⟩ := Same.ofG hNewlr hGenlr
        replace s0 := s0.trans s8
        exact hr H8 lr s0 h8
      refine iteDF (vn _ n1) ?_
      refine ⟨_, rfl, ?_⟩
      have hin : ∀ b : Bool, b = L2.inV (V.str wd) [.str "BadPair", .str "BadWork"] → b = (("BadPair" : Str) == wd || ("BadWork" : Str) == wd) := fun b e => by
        rw [e]
        show ((("BadPair" : Str) == wd) || ((("BadWork" : Str) == wd) || false)) = _
        rw [Bool.or_false]
      refine ⟨by (first | (show _ ≤ sizeLine; decide) | (simp only [List.length_cons, List.length_nil]; decide)), fun lt hNewlt => ?_⟩
      generalize hGenlt : upd _ lt _ = H7
      obtain ⟨s7, h7⟩ := Same.ofG hNewlt hGenlt
      replace s0 := s0.trans s7
      have hF7 := hF.same s0
      refine ⟨lt, _, rfl, .inr (SqT.of h7), rfl, rfl, ?_⟩
      by_cases n2 : wd = "BadPair" ∨ wd = "BadWork"
      · have e0 : (if false = true then !L2.inV (V.str wd) [.str "BadPair", .str "BadWork"] else L2.inV (V.str wd) [.str "BadPair", .str "BadWork"]) = true := by
          show L2.inV (V.str wd) [.str "BadPair", .str "BadWork"] = true
          rcases n2 with rfl | rfl <;> decide +kernel
        rw [e0]
        have hdd : ∃ dd, d = some dd ∧ H7 dd = some (.xd [("number", .int v)]) := by
          rcases n2 with e | e
          · have i2 := nine_pair i hi (e ▸ hw)
            subst i2
            exact hF7
          · have i2 := nine_work i hi (e ▸ hw)
            subst i2
            exact hF7
        obtain ⟨dd, rfl, hdd⟩ := hdd
        refine ⟨_, rfl, iteT ?_⟩
        refine ⟨_, rfl, _, rfl, rfl, rfl, dd, _, _, rfl, hdd, rfl, ?_⟩
        refine ⟨by (first | (show _ ≤ sizeLine; decide) | (simp only [List.length_cons, List.length_nil]; decide)), fun lr hNewlr => ?_⟩
        generalize hGenlr : upd _ lr _ = H8
        obtain ⟨s8, h8⟩ := Same.ofG hNewlr hGenlr
        replace s0 := s0.trans s8
        exact hr H8 lr s0 h8
      have e0 : (if false = true then !L2.inV (V.str wd) [.str "BadPair", .str "BadWork"] else L2.inV (V.str wd) [.str "BadPair", .str "BadWork"]) = false := by
        have a1 : (("BadPair" : Str) == wd) = false := beq_eq_false_iff_ne.mpr fun z => n2 (.inl z.symm)
        have a2 : (("BadWork" : Str) == wd) = false := beq_eq_false_iff_ne.mpr fun z => n2 (.inr z.symm)
        show ((("BadPair" : Str) == wd) || ((("BadWork" : Str) == wd) || false)) = false
        rw [a1, a2]
        rfl
      rw [e0]
      refine ⟨_, rfl, iteF ?_⟩
      refine ⟨_, rfl, _, rfl, rfl, _, rfl, ?_⟩
      by_cases n4 : wd = "BadText"
      · have i2 := nine_text i hi (n4 ▸ hw)
        subst i2
        obtain ⟨dd, rfl, hdd⟩ : ∃ dd, d = some dd ∧ H7 dd = some (.xd [("place", .int v)]) := hF7
        refine iteD (congrArg V.str n4) ?_
        refine ⟨_, rfl, rfl, rfl, dd, _, _, rfl, hdd, rfl, ?_⟩
        refine ⟨by (first | (show _ ≤ sizeLine; decide) | (simp only [List.length_cons, List.length_nil]; decide)), fun lr hNewlr => ?_⟩
        generalize hGenlr : upd _ lr _ = H8
        obtain ⟨s8, h8⟩ := Same.ofG hNewlr hGenlr
        replace s0 := s0.trans s8
        exact hr H8 lr s0 h8
      refine iteDF (vn _ n4) ?_
      have hp : parOf i = none := by
        have at9 : ∀ i < 9, nineN[i]? = some wd → (i = 2 → wd = "BadPlan") ∧ (i = 1 → wd = "BadPair") ∧ (i = 8 → wd = "BadWork") ∧ (i = 6 → wd = "BadText") := fun i _ hw => by
          refine ⟨?_, ?_, ?_, ?_⟩ <;> rintro rfl <;> exact (Option.some.inj hw).symm
        obtain ⟨q1, q2, q3, q4⟩ := at9 i hi hw
        exact nine_plain i hi (fun z => n1 (q1 z)) (fun z => n2 (.inl (q2 z))) (fun z => n2 (.inr (q3 z))) (fun z => n4 (q4 z))
      have hv : v = 0 := by
        unfold Fld at hF7
        rw [hp] at hF7
        exact hF7.2
      subst hv
      refine ⟨by (first | (show _ ≤ sizeLine; decide) | (simp only [List.length_cons, List.length_nil]; decide)), fun lr hNewlr => ?_⟩
      generalize hGenlr : upd _ lr _ = H8
      obtain ⟨s8, h8⟩ := Same.ofG hNewlr hGenlr
      replace s0 := s0.trans s8
      exact hr H8 lr s0 h8
    obtain ⟨T1, h1, h2⟩ := hd
    exact h1.run pins s' _ H' Dd I h2
  · refine ⟨fun cls d H' => ∃ (i : Nat) (w : Str) (v : Int), is i ∧ i < 9 ∧ nineN[i]? = some w ∧ cls = .ref (nAt ns i) ∧ Fld i d v H' ∧ ∀ (H2 : Hp) (p : Addr), Same H' H2 → H2 p = some (.tup [.str w, .int v]) → Q (.ref p) H2, fun cls d σ' H' ⟨i, w, v, hi0, hi, hw, e1, hFl, e3⟩ => ?_, rfl, hF, hT, h⟩
    subst e1
    exact ⟨true, (T i hi0).one.sink, fun _ a ha => ⟨i, w, v, hi0, hi, hw, rfl, hFl, ha, ⟨_, rfl⟩, e3⟩, fun z => by cases z⟩
variable {C : Addr}
theorem upx {x pa C dx : Addr} {H' : Hp} {fs : List (Str × V)} (hne : x ≠ pa) (h : H' x = some (.ins C dx fs)) (fs' : List (Str × V)) : Keep x pa H' (upd H' x (.ins C dx fs')) ∧ Tups H' (upd H' x (.ins C dx fs')) ∧ upd H' x (.ins C dx fs') x = some (.ins C dx fs') ∧ (∀ ys, H' pa = some (.lst ys) → upd H' x (.ins C dx fs') pa = some (.lst ys)) := by
  refine ⟨fun b o e1 e2 e3 => by rw [upd_ne e2]; exact e1, ⟨fun b ys e1 => ?_, fun b o ys e1 => ?_⟩, upd_same, fun ys e1 => ?_⟩
  · rw [upd_ne (ne_of e1 h (by intro z; cases z))]
    exact e1
  · rw [upd_ne (ne_of e1 h (by intro z; cases z))]
    exact e1
  · rw [upd_ne hne.symm]
    exact e1
theorem ok_check_sign (D : Dn K mg "check_sign" s_check_sign P_check_sign) (g : Gx mg) (c_signs_of : C8.Cal P w K mg base 1 "signs_of" spSigns []) : C8.Cal P w K mg base 2 "check_sign" spChSign [] := by
  refine D.cal sc_check_sign (fun vs H Q E h => ?_) (fun f cdv A outer s H vs Q E hr h => ?_)
  · obtain ⟨v, p, c, rfl, hp, ok, hc, q⟩ := h
    rfl
  obtain ⟨v, p, c, rfl, hp, ok, hc, q⟩ := h
  have nd := sc_check_sign.nd
  refine ⟨_, (pss_one (ps_if (pt_cmpR op_notIn_seq (pv 1) (pe_callTy (call_listS rfl) rfl g.list b_list (pa_cons (C8.pe_c c_signs_of hr (by decide) rfl (pa_cons (pv 0) pa_nil)) pa_nil)) rfl) (pss_one ps_never) pss_nil)), ?_⟩
  have h4 := signs_len p.many
  refine ⟨_, rfl, _, rfl, v, p, rfl, hp, ok, fun H1 s1 => ⟨_, rfl, by rw [tx_len]; exact sz (by omega), fun D hD => ?_⟩⟩
  rw [tx_list]
  have sD := Same.new hD (.lst ((signs p.many).map fun c => V.str ⟨#[c]⟩))
  have hDD : upd H1 D (.lst ((signs p.many).map fun c => V.str ⟨#[c]⟩)) D = some (.lst ((signs p.many).map fun c => V.str (tx [c]))) := upd_same
  generalize upd H1 D (.lst ((signs p.many).map fun c => V.str ⟨#[c]⟩)) = H2 at sD hDD
  refine ⟨D, _, rfl, .inl (SqL.of hDD), rfl, flat_signs _, _, rfl, ?_⟩
  rw [if_pos rfl, inV_sign hc]
  exact iteF (q _ (s1.trans sD))
theorem ok_M_deeds (D : Dm K C "deeds" "Machine.deeds" s_M_deeds P_M_deeds) (T : MT K C) (g : Gx mg) : C8.Met P w K mg base 1 C "deeds" (spMDeeds C) [] := by
  refine D.met T.cl sc_M_deeds (fun vs H Q E h => ?_) (fun f cdv A outer s H vs Q E hr h => ?_)
  · obtain ⟨x, pa, m, rfl, M, q⟩ := h
    rfl
  obtain ⟨x, pa, m, rfl, M, q⟩ := h
  have nd := sc_M_deeds.nd
  refine ⟨_, (pss_one (ps_ret (pe_callB call_len_seq rfl g.len PySem.boot_len (pa_cons (pe_fld (pv 0) rfl) pa_nil)))), ?_⟩
  obtain ⟨⟨dx, pv, tv, hx, hpv, htv⟩, xs, hpa, hP⟩ := id M
  have q1 := q H (Same.refl H)
  rw [← hP.len] at q1
  exact ⟨_, rfl, x, C, dx, _, _, rfl, hx, T.cl, T.nPast, mf_past, pa, _, rfl, .inl (SqL.of hpa), q1⟩
theorem ok_M_init (D : Di K mg C "Machine" "Machine.__init__" s_M_init P_M_init) (T : MT K C) (g : Gx mg) (c_check_plan : C8.Cal P w K mg base 3 "check_plan" spChPlan []) (c_check_stack : C8.Cal P w K mg base 3 "check_stack" spChStack []) (c_untouched : C8.Cal P w K mg base 1 "untouched" spUnt []) : C8.Mak P w K mg base 4 "Machine" C (spMInit C) [] := by
  refine D.mak sc_M_init (fun vs H Q E h => ?_) (fun f cdv A outer s H vs Q E hr h => ?_)
  · obtain ⟨x, dx, v, p, l, rfl, hx, hp, ok, hl, hs, q⟩ := h
    rfl
  obtain ⟨x, dx, v, p, l, rfl, hx, hp, ok, hl, hs, q⟩ := h
  have nd := sc_M_init.nd
  refine ⟨_, (pss_cons (ps_expr (C8.pe_c c_check_plan hr (by decide) rfl (pa_cons (pv 1) pa_nil)))
    (pss_cons (ps_expr (C8.pe_c c_check_stack hr (by decide) rfl (pa_cons (pv 1) (pa_cons (pv 2) pa_nil))))
    (pss_cons (ps_fld (pv 0) (pv 1) rfl)
    (pss_cons (ps_fld (pv 0) (pv 2) rfl)
    (pss_cons (ps_fld (pv 0) pe_int rfl)
    (pss_cons (ps_fld (pv 0) (C8.pe_c c_untouched hr (by decide) rfl (pa_cons (pv 1) pa_nil)) rfl)
    (pss_one (ps_fld (pv 0) (pe_lst pa_nil) rfl)))))))), ?_⟩
  refine ⟨_, rfl, v, p, rfl, hp, ok, fun H1 s1 => ?_⟩
  refine ⟨_, rfl, _, rfl, v, p, l, rfl, hp.mono s1, ok, hl, hs, fun H2 s2 => ?_⟩
  have s12 := s1.trans s2
  have hx2 := s12 _ _ hx
  have tx2 : ∀ {H' : Hp} {fs : List (Str × V)}, H' x = some (.ins C dx fs) → ∀ fs', Tups H' (upd H' x (.ins C dx fs')) := fun {H' fs} h fs' =>
    ⟨fun b ys e1 => by rw [upd_ne (ne_of e1 h (by intro z; cases z))]; exact e1, fun b o ys e1 => by rw [upd_ne (ne_of e1 h (by intro z; cases z))]; exact e1⟩
  refine ⟨_, rfl, _, rfl, x, C, dx, _, rfl, hx2, T.cl, T.nPlan, (show 0 < 1000 by decide), ?_⟩
  refine ⟨_, rfl, _, rfl, x, C, dx, _, rfl, upd_same, T.cl, T.nStack, (show 1 < 1000 by decide), ?_⟩
  refine ⟨_, rfl, x, C, dx, _, rfl, upd_same, T.cl, T.nSpent, ?_, ?_⟩
  · simp [putF, sy n_st_pl]
  have k3 : ∀ b o, H b = some o → b ≠ x → upd (upd (upd H2 x (.ins C dx (putF "_plan" v []))) x (.ins C dx (putF "_stack" (.str (tx l)) (putF "_plan" v [])))) x (.ins C dx (putF "_spent" (.int 0) (putF "_stack" (.str (tx l)) (putF "_plan" v [])))) b = some o := fun b o e n => by
    rw [upd_ne n, upd_ne n, upd_ne n]
    exact s12 _ _ e
  have hx3 : upd (upd (upd H2 x (.ins C dx (putF "_plan" v []))) x (.ins C dx (putF "_stack" (.str (tx l)) (putF "_plan" v [])))) x (.ins C dx (putF "_spent" (.int 0) (putF "_stack" (.str (tx l)) (putF "_plan" v [])))) x = some (.ins C dx (putF "_spent" (.int 0) (putF "_stack" (.str (tx l)) (putF "_plan" v [])))) := upd_same
  have t3 : Tups H (upd (upd (upd H2 x (.ins C dx (putF "_plan" v []))) x (.ins C dx (putF "_stack" (.str (tx l)) (putF "_plan" v [])))) x (.ins C dx (putF "_spent" (.int 0) (putF "_stack" (.str (tx l)) (putF "_plan" v []))))) :=
    (Tups.of s12).trans ((tx2 hx2 _).trans ((tx2 upd_same _).trans (tx2 upd_same _)))
  generalize upd (upd (upd H2 x (.ins C dx (putF "_plan" v []))) x (.ins C dx (putF "_stack" (.str (tx l)) (putF "_plan" v [])))) x (.ins C dx (putF "_spent" (.int 0) (putF "_stack" (.str (tx l)) (putF "_plan" v [])))) = H3 at k3 hx3 t3
  refine ⟨_, rfl, v, p, rfl, hp.tups t3, fun H4 v4 s4 h4 => ?_⟩
  have hx4 := s4 _ _ hx3
  refine ⟨_, rfl, x, C, dx, _, rfl, hx4, T.cl, T.nTriple, ?_, ?_⟩
  · simp [putF, sy n_st_pl, sy n_sp_pl, sy n_sp_st]
  have t5 := (tx2 hx4 (putF "_triple" v4 (putF "_spent" (.int 0) (putF "_stack" (.str (tx l)) (putF "_plan" v [])))))
  refine ⟨by show 0 ≤ sizeLine; decide, fun pa hpa => ?_⟩
  have hnx : x ≠ pa := ne_of_none upd_same hpa
  have npa : H pa = none := by
    cases e : H pa with
    | none => rfl
    | some o =>
      rw [upd_ne hnx.symm, s4 _ _ (k3 _ _ e hnx.symm)] at hpa
      cases hpa
  have s6 := Same.new hpa (.lst [])
  refine ⟨_, rfl, x, C, dx, _, rfl, s6 _ _ upd_same, T.cl, T.nPast, ?_, ?_⟩
  · simp [putF, sy n_st_pl, sy n_sp_pl, sy n_sp_st, sy n_tr_pl, sy n_tr_st, sy n_tr_sp]
  rw [mf_new v]
  refine q _ pa (fun b o e n => ?_) npa ⟨⟨dx, v, v4, upd_same, ?_, ?_⟩, [], ?_, rfl⟩
  · rw [upd_ne n]
    refine s6 _ _ ?_
    rw [upd_ne n]
    exact s4 _ _ (k3 _ _ e n)
  · exact hp.tups (t3.trans ((Tups.of s4).trans (t5.trans ((Tups.of s6).trans (tx2 (s6 _ _ upd_same) _)))))
  · exact h4.tups (t5.trans ((Tups.of s6).trans (tx2 (s6 _ _ upd_same) _)))
  · rw [upd_ne hnx.symm]
    exact upd_same
theorem k_non_str : kitB "NoneType" "str" = some false := by decide +kernel
theorem k_int_str : kitB "int" "str" = some false := by decide +kernel
theorem k_bl_str : kitB "bool" "str" = some false := by decide +kernel
theorem k_non_tup : kitB "NoneType" "tuple" = some false := by decide +kernel
theorem k_bl_tup : kitB "bool" "tuple" = some false := by decide +kernel
theorem k_str_tup : kitB "str" "tuple" = some false := by decide +kernel
theorem s_P_pu : ¬ (("Pop" : Str) = "push") := by decide +kernel
theorem s_P_po : ¬ (("Pop" : Str) = "pop") := by decide +kernel
theorem s_P_ro : ¬ (("Pop" : Str) = "row") := by decide +kernel
theorem s_P_ti : ¬ (("Pop" : Str) = "times") := by decide +kernel
theorem inV_odd {y : V} (h : OddS y) (m : Nat) : inV y ((signs m).map fun c => V.str (tx [c])) = false ∧ flatV y = true := by
  refine ⟨?_, by rcases h with rfl | ⟨l, rfl, _⟩ <;> rfl⟩
  unfold inV
  rw [List.any_eq_false]
  intro z hz
  obtain ⟨c, hc, rfl⟩ := List.mem_map.mp hz
  rcases h with rfl | ⟨l, rfl, hl⟩
  · intro e
    cases e
  · intro e
    have e : (tx [c] == tx l) = true := e
    have e := str_inj.mp (eq_of_beq e)
    exact hl c (List.mem_of_mem_take hc) e.symm

theorem okn_is_number (D : Dn K mg "is_number" s_is_number P_is_number) (g : Gx mg) : C8.Cal P w K mg base 1 "is_number" spNumB [] := by
  refine D.cal sc_is_number (fun vs H Q E h => ?_) (fun f cdv A outer s H vs Q E hr h => ?_)
  · obtain ⟨x, lo, hi, b, rfl, _⟩ := h
    rfl
  obtain ⟨x, lo, hi, b, rfl, hx, q⟩ := h
  have nd := sc_is_number.nd
  refine ⟨_, (pss_one (ps_ret (pe_and (pe_callB call_isi rfl g.isi b_isi (pa_cons (pv 0) (pa_cons (pe_bltn (v := .ty "int") rfl g.int b_int rfl) pa_nil))) (pe_and (pe_not (pe_callB call_isi rfl g.isi b_isi (pa_cons (pv 0) (pa_cons (pe_bltn (v := .ty "bool") rfl g.bool b_bool rfl) pa_nil)))) (pe_one (pe_chain op_le op_le (pv 1) (pv 0) (pv 2))))))), ?_⟩
  have k_non_int : kitB "NoneType" "int" = some false := by decide +kernel
  cases x with
  | int i =>
    subst hx
    refine ⟨_, rfl, _, _, _, _, _, rfl, .ty "int", ty_int, kit_ty k_int_int, _, rfl, iteT ?_⟩
    refine ⟨_, rfl, _, _, _, _, _, rfl, .ty "bool", ty_int, kit_ty k_int_bool, _, rfl, _, rfl, iteT ?_⟩
    refine ⟨_, rfl, _, rfl, _, _, rfl, rfl, _, rfl, ite2 (fun c => ?_) (fun c => ?_)⟩
    · have c1 : lo ≤ i := of_decide_eq_true c
      refine ⟨_, rfl, _, _, rfl, rfl, ?_⟩
      have q1 := q H (Same.refl H)
      rw [decide_eq_true c1, Bool.true_and] at q1
      exact q1
    · have c1 : ¬ lo ≤ i := fun z => c (decide_eq_true z)
      have q1 := q H (Same.refl H)
      rw [decide_eq_false c1, Bool.false_and] at q1
      exact q1
  | non =>
    subst hx
    exact ⟨_, rfl, _, _, _, _, _, rfl, .ty "int", ty_non, kit_ty k_non_int, _, rfl, iteF (q H (Same.refl H))⟩
  | bl c =>
    subst hx
    refine ⟨_, rfl, _, _, _, _, _, rfl, .ty "int", ty_bl, kit_ty k_bool_int, _, rfl, iteT ?_⟩
    exact ⟨_, rfl, _, _, _, _, _, rfl, .ty "bool", ty_bl, kit_ty k_bool_bool, _, rfl, _, rfl, iteF (q H (Same.refl H))⟩
  | str z =>
    subst hx
    exact ⟨_, rfl, _, _, _, _, _, rfl, .ty "int", ty_str, kit_ty k_str_int, _, rfl, iteF (q H (Same.refl H))⟩
  | ref a =>
    obtain ⟨rfl, xs, hx | hx⟩ := hx
    · exact ⟨_, rfl, _, _, _, _, _, rfl, .ty "int", ty_tup hx, kit_ty k_tup_int, _, rfl, iteF (q H (Same.refl H))⟩
    · exact ⟨_, rfl, _, _, _, _, _, rfl, .ty "int", ty_lst hx, kit_ty k_lst_int, _, rfl, iteF (q H (Same.refl H))⟩
  | _ => exact hx.elim
theorem okn_is_text_of (D : Dn K mg "is_text_of" s_is_text_of P_is_text_of) (g : Gx mg) : C8.Cal P w K mg base 1 "is_text_of" spTextB [] := by
  refine D.cal sc_is_text_of (fun vs H Q E h => ?_) (fun f cdv A outer s H vs Q E hr h => ?_)
  · obtain ⟨x, sg, b, rfl, _⟩ := h
    rfl
  obtain ⟨x, sg, b, rfl, hx, q⟩ := h
  have nd := sc_is_text_of.nd
  refine ⟨_, (pss_one (ps_ret (pe_and (pe_callB call_isi rfl g.isi b_isi (pa_cons (pv 0) (pa_cons (pe_bltn (v := .ty "str") rfl g.str b_str rfl) pa_nil))) (pe_one (pe_callB (cr_all rfl) rfl g.all b_all (pa_cons (pe_lc (own := [("sign", 2)]) rfl nd (pi_str (pv 0)) (blkOk_by (own := [("sign", 2)]) (N := N_is_text_of) (sc := defScope s_is_text_of) (by decide +kernel)) (fun _ _ _ _ _ => (pg_name (i := 2) nd rfl (.inl rfl))) (fun _ _ _ _ _ => pts_nil) (fun _ _ _ _ _ => (pe_cmpR op_in_sign (pv 2) (pv 1) rfl))) pa_nil)))))), ?_⟩
  cases x with
  | str z =>
    obtain ⟨l, rfl, hl, rfl⟩ := hx
    refine ⟨_, rfl, _, _, _, _, _, rfl, .ty "str", ty_str, kit_ty k_str_str, _, rfl, iteT ?_⟩
    refine ⟨_, rfl, _, rfl, fun D hD => ?_⟩
    have hn : (tx l).cps.size = l.length := tx_len l
    refine lc_it (walk_str (z := tx l)) (fun i H2 => Same H H2 ∧ H2 D = some (.lst ((l.take i).map fun c => V.bl (decide (c ∈ sg))))) ⟨Same.new hD _, upd_same⟩ (fun _ _ _ _ => trivial) ?_ ?_
    · rintro i x H2 H3 hi ⟨s2, h2⟩ ⟨rfl, c, hc, rfl⟩
      have hc' : l[i]? = some c := by
        rw [← hc]
        simp [tx]
      refine ⟨rfl, ?_⟩
      refine ⟨_, rfl, _, rfl, c, tx sg, rfl, rfl, _, h2, ?_, fun b o e => ?_, ?_⟩
      · rw [List.length_map, List.length_take]
        exact szl (by omega)
      · rw [upd_ne (ne_of_none e hD)]
        exact s2 b o e
      · rw [upd_same, List.take_add_one, hc']
        simp [tx_list]
        exact decide_eq_decide.mpr Iff.rfl
    · rintro H2 ⟨s2, h2⟩
      rw [hn, List.take_of_length_le (Nat.le_refl _)] at h2
      refine ⟨D, l.map fun c => decide (c ∈ sg), rfl, SqL.of (by rw [h2, List.map_map]; rfl), ?_⟩
      have e : (l.map fun c => decide (c ∈ sg)).all id = decide (∀ c ∈ l, c ∈ sg) := by
        rw [List.all_map, Bool.eq_iff_iff]
        simp
      rw [e]
      exact q H2 s2
  | non =>
    subst hx
    exact ⟨_, rfl, _, _, _, _, _, rfl, .ty "str", ty_non, kit_ty k_non_str, _, rfl, iteF (q H (Same.refl H))⟩
  | bl c =>
    subst hx
    exact ⟨_, rfl, _, _, _, _, _, rfl, .ty "str", ty_bl, kit_ty k_bl_str, _, rfl, iteF (q H (Same.refl H))⟩
  | int i =>
    subst hx
    exact ⟨_, rfl, _, _, _, _, _, rfl, .ty "str", ty_int, kit_ty k_int_str, _, rfl, iteF (q H (Same.refl H))⟩
  | ref a =>
    obtain ⟨rfl, xs, hx | hx⟩ := hx
    · exact ⟨_, rfl, _, _, _, _, _, rfl, .ty "str", ty_tup hx, kit_ty k_tup_str, _, rfl, iteF (q H (Same.refl H))⟩
    · exact ⟨_, rfl, _, _, _, _, _, rfl, .ty "str", ty_lst hx, kit_ty k_lst_str, _, rfl, iteF (q H (Same.refl H))⟩
  | _ => exact hx.elim
theorem okn_is_stack (D : Dn K mg "is_stack" s_is_stack P_is_stack) (g : Gx mg) (c_signs_of : C8.Cal P w K mg base 1 "signs_of" spSigns []) (c_is_text_of : C8.Cal P w K mg base 1 "is_text_of" spTextB []) : C8.Cal P w K mg base 2 "is_stack" spStackB [] := by
  refine D.cal sc_is_stack (fun vs H Q E h => ?_) (fun f cdv A outer s H vs Q E hr h => ?_)
  · obtain ⟨v, p, x, b, rfl, _⟩ := h
    rfl
  obtain ⟨v, p, x, b, rfl, ⟨a, c, rfl, ha, hb⟩, ok, hx, q⟩ := h
  have nd := sc_is_stack.nd
  refine ⟨_, (pss_one (ps_ret (pe_and (C8.pe_c c_is_text_of hr (by decide) rfl (pa_cons (pv 1) (pa_cons (C8.pe_c c_signs_of hr (by decide) rfl (pa_cons (pv 0) pa_nil)) pa_nil))) (pe_one (pe_cmpR op_le (pe_callB call_len_str rfl g.len PySem.boot_len (pa_cons (pv 1) pa_nil)) (pe_ix ix_tup (pv 0) pe_int (fun _ _ => rfl)) (nomark _)))))), ?_⟩
  have hr9 := ok.r9
  refine ⟨_, rfl, _, rfl, _, p, rfl, ⟨a, c, rfl, ha, hb⟩, ok, fun H1 s1 => ?_⟩
  rcases hx with ⟨hx, rfl⟩ | ⟨l, rfl, hl, hs, rfl⟩
  · exact ⟨x, signs p.many, _, rfl, hx.mono s1, fun H2 s2 => ⟨_, rfl, iteF (q H2 (s1.trans s2))⟩⟩
  refine ⟨_, signs p.many, _, rfl, ⟨l, rfl, hl, rfl⟩, fun H2 s2 => ⟨_, rfl, ?_⟩⟩
  rw [decide_eq_true hs]
  refine iteT ?_
  refine ⟨_, rfl, _, rfl, by rw [tx_len]; exact sz (by omega), _, rfl, a, _, 0, _, rfl, rfl, SqT.of ((s1.trans s2) _ _ ha), rfl, _, _, rfl, rfl, ?_⟩
  show Q (.bl (decide (((tx l).length : Int) ≤ (p.room : Int)))) H2
  have e : decide (((tx l).length : Int) ≤ (p.room : Int)) = decide (l.length ≤ p.room) := by
    rw [tx_len]
    exact decide_eq_decide.mpr (by omega)
  rw [e]
  exact q H2 (s1.trans s2)
theorem okn_is_triple (D : Dn K mg "is_triple" s_is_triple P_is_triple) (g : Gx mg) (c_is_number : C8.Cal P w K mg base 1 "is_number" spNumB []) (c_signs_of : C8.Cal P w K mg base 1 "signs_of" spSigns []) (c_is_text_of : C8.Cal P w K mg base 1 "is_text_of" spTextB []) : C8.Cal P w K mg base 2 "is_triple" spTripleB [] := by
  refine D.cal sc_is_triple (fun vs H Q E h => ?_) (fun f cdv A outer s H vs Q E hr h => ?_)
  · obtain ⟨v, p, u, b, rfl, _⟩ := h
    rfl
  obtain ⟨v, p, u, b, rfl, ⟨a, b0, rfl, ha, hb⟩, ok, hx, q⟩ := h
  have nd := sc_is_triple.nd
  refine ⟨_, (pss_cons (ps_if (PW.pt (pw_or (pt_not (pt_val (pe_callB call_isi rfl g.isi b_isi (pa_cons (pv 1) (pa_cons (pe_bltn (v := .ty "tuple") rfl g.tuple b_tuple rfl) pa_nil))))) (pw_or1 (pt_cmpR op_ne (pe_callB call_len_seq rfl g.len PySem.boot_len (pa_cons (pv 1) pa_nil)) pe_int (nomark _))))) (pss_one (ps_ret pe_bl)) pss_nil)
    (pss_cons (ps_set (i := 2) nd rfl (.inl rfl) (pe_ix ix_tup (pv 0) pe_int (fun _ _ => rfl)))
    (pss_cons (ps_asg (pv 1) (pg_tup (by rfl) (pgs_cons (pg_name (i := 3) nd rfl (.inl rfl)) (pgs_cons (pg_name (i := 4) nd rfl (.inl rfl)) (pgs_cons (pg_name (i := 5) nd rfl (.inl rfl)) pgs_nil)))))
    (pss_cons (ps_if (PW.pt (pw_or (pt_not (pt_val (C8.pe_c c_is_number hr (by decide) rfl (pa_cons (pv 3) (pa_cons pe_int (pa_cons (pv 2) pa_nil)))))) (pw_or1 (pt_not (pt_val (C8.pe_c c_is_number hr (by decide) rfl (pa_cons (pv 4) (pa_cons pe_int (pa_cons (pv 2) pa_nil))))))))) (pss_one (ps_ret pe_bl)) pss_nil)
    (pss_cons (ps_if (pt_not (pt_val (C8.pe_c c_is_text_of hr (by decide) rfl (pa_cons (pv 5) (pa_cons (C8.pe_c c_signs_of hr (by decide) rfl (pa_cons (pv 0) pa_nil)) pa_nil))))) (pss_one (ps_ret pe_bl)) pss_nil)
    (pss_cons (ps_if (PW.pt (pw_and (pt_cmpR op_eq (pv 4) pe_int (nomark _)) (pw_and1 (pt_cmpR op_ne (pv 3) pe_int (nomark _))))) (pss_one (ps_ret pe_bl)) pss_nil)
    (pss_one (ps_ret (pe_and (pe_cmpR op_le (pe_op op_add (pv 3) (pv 4)) (pv 2) (nomark _)) (pe_one (pe_cmpR op_le (pe_op op_add (pe_callB call_len_str rfl g.len PySem.boot_len (pa_cons (pv 5) pa_nil)) (pv 4)) (pv 2) (nomark _)))))))))))), ?_⟩
  have hr9 := ok.r9
  rcases hx with ⟨rfl, rfl⟩ | ⟨c, rfl, ⟨xs, hc, rfl⟩ | ⟨xs, hc, hn, rfl⟩ | ⟨x, y, z, hc, hx⟩⟩
  · exact ⟨_, rfl, _, _, _, _, _, rfl, .ty "tuple", ty_non, kit_ty k_non_tup, _, rfl, iteT (q H (Same.refl H))⟩
  · exact ⟨_, rfl, _, _, _, _, _, rfl, .ty "tuple", ty_lst hc, kit_ty k_lst_tup, _, rfl, iteT (q H (Same.refl H))⟩
  · refine ⟨_, rfl, _, _, _, _, _, rfl, .ty "tuple", ty_tup hc, kit_ty k_tup_tup, _, rfl, iteF ?_⟩
    refine ⟨_, rfl, c, _, rfl, .inr (SqT.of hc), rfl, _, rfl, ?_⟩
    have e : (!decide (V.int (xs.length : Int) = V.int 3)) = true := by
      rw [decide_eq_false fun z => hn (by injection z with z; omega)]
      rfl
    rw [e]
    exact iteT (q H (Same.refl H))
  refine ⟨_, rfl, _, _, _, _, _, rfl, .ty "tuple", ty_tup hc, kit_ty k_tup_tup, _, rfl, iteF ?_⟩
  refine ⟨_, rfl, c, _, rfl, .inr (SqT.of hc), rfl, _, rfl, iteNS rfl ?_⟩
  refine ⟨_, rfl, a, _, 0, _, rfl, rfl, SqT.of ha, rfl, ?_⟩
  refine ⟨_, rfl, c, _, rfl, SqT.of hc, rfl, _, _, rfl, _, _, rfl, _, _, rfl, rfl, ?_⟩
  rcases hx with ⟨h0, rfl⟩ | ⟨h0, h1, rfl⟩ | ⟨g0, k0, rfl, rfl, hg, hk, hx⟩
  · exact ⟨_, rfl, _, rfl, x, 0, p.room, false, rfl, h0, fun H1 s1 => ⟨_, rfl, iteT (q H1 s1)⟩⟩
  · refine ⟨_, rfl, _, rfl, x, 0, p.room, true, rfl, h0, fun H1 s1 => ⟨_, rfl, iteF ?_⟩⟩
    exact ⟨_, rfl, _, rfl, y, 0, p.room, false, rfl, h1.mono s1, fun H2 s2 => ⟨_, rfl, iteT (q H2 (s1.trans s2))⟩⟩
  have hn : ∀ (H' : Hp) (n : Nat), n ≤ p.room → NumB H' (.int (n : Int)) 0 p.room true := fun H' n h => by
    show true = (decide ((0 : Int) ≤ (n : Int)) && decide ((n : Int) ≤ (p.room : Int)))
    rw [decide_eq_true (by omega), decide_eq_true (by omega)]
    rfl
  refine ⟨_, rfl, _, rfl, _, 0, p.room, true, rfl, hn H g0 hg, fun H1 s1 => ⟨_, rfl, iteF ?_⟩⟩
  refine ⟨_, rfl, _, rfl, _, 0, p.room, true, rfl, hn H1 k0 hk, fun H2 s2 => ⟨_, rfl, iteF ?_⟩⟩
  refine ⟨_, rfl, _, rfl, _, p, rfl, ⟨a, b0, rfl, (s1.trans s2) _ _ ha, PrAt.mono hb (s1.trans s2)⟩, ok, fun H3 s3 => ?_⟩
  have s03 := s1.trans (s2.trans s3)
  rcases hx with ⟨h2, rfl⟩ | ⟨l, rfl, hl, hls, rfl⟩
  · exact ⟨z, signs p.many, false, rfl, h2.mono s03, fun H4 s4 => ⟨_, rfl, iteT (q H4 (s03.trans s4))⟩⟩
  refine ⟨.str (tx l), signs p.many, true, rfl, ⟨l, rfl, hl, (decide_eq_true hls).symm⟩, fun H4 s4 => ⟨_, rfl, iteF ?_⟩⟩
  have s04 := s03.trans s4
  refine ⟨_, rfl, rfl, _, rfl, ite2 (fun z => ?_) (fun z => ?_)⟩
  · have z1 : k0 = 0 := by
      have z1 := of_decide_eq_true z
      injection z1 with z2
      omega
    by_cases gz : g0 = 0
    · have hz : k0 = 0 → g0 = 0 := fun _ => gz
      refine ⟨_, rfl, rfl, _, rfl, iteNS (by rw [gz]; rfl) ?_⟩
      refine ⟨_, rfl, _, rfl, _, _, rfl, rfl, _, rfl, _, _, rfl, rfl, _, rfl, ?_⟩
      by_cases c1 : g0 + k0 ≤ p.room
      · rw [decide_eq_true (by omega)]
        refine iteT ⟨_, rfl, _, rfl, by rw [tx_len]; exact sz (by omega), _, rfl, _, _, rfl, rfl, _, rfl, _, _, rfl, rfl, ?_⟩
        show Q (.bl (decide (((tx l).length : Int) + (k0 : Int) ≤ (p.room : Int)))) H4
        have e : decide (((tx l).length : Int) + (k0 : Int) ≤ (p.room : Int)) = decide ((k0 = 0 → g0 = 0) ∧ g0 + k0 ≤ p.room ∧ l.length + k0 ≤ p.room) := by
          rw [tx_len]
          exact decide_eq_decide.mpr ⟨fun h => ⟨hz, c1, by omega⟩, fun h => by have := h.2.2; omega⟩
        rw [e]
        exact q _ s04
      · rw [decide_eq_false (by omega)]
        refine iteF ?_
        have e : decide ((k0 = 0 → g0 = 0) ∧ g0 + k0 ≤ p.room ∧ l.length + k0 ≤ p.room) = false := decide_eq_false fun h => c1 h.2.1
        rw [e] at q
        exact q _ s04
    · refine ⟨_, rfl, rfl, _, rfl, ?_⟩
      have e : (!decide (V.int (g0 : Int) = V.int 0)) = true := by
        rw [decide_eq_false fun z => gz (by injection z with z; omega)]
        rfl
      rw [e]
      refine iteT ?_
      have e : decide ((k0 = 0 → g0 = 0) ∧ g0 + k0 ≤ p.room ∧ l.length + k0 ≤ p.room) = false := decide_eq_false fun h => gz (h.1 z1)
      rw [e] at q
      exact q _ s04
  · have z0 : ¬ k0 = 0 := fun e => z (decide_eq_true (by rw [e]; rfl))
    have hz : k0 = 0 → g0 = 0 := fun e => absurd e z0
    refine iteF ?_
    refine ⟨_, rfl, _, rfl, _, _, rfl, rfl, _, rfl, _, _, rfl, rfl, _, rfl, ?_⟩
    by_cases c1 : g0 + k0 ≤ p.room
    · rw [decide_eq_true (by omega)]
      refine iteT ⟨_, rfl, _, rfl, by rw [tx_len]; exact sz (by omega), _, rfl, _, _, rfl, rfl, _, rfl, _, _, rfl, rfl, ?_⟩
      show Q (.bl (decide (((tx l).length : Int) + (k0 : Int) ≤ (p.room : Int)))) H4
      have e : decide (((tx l).length : Int) + (k0 : Int) ≤ (p.room : Int)) = decide ((k0 = 0 → g0 = 0) ∧ g0 + k0 ≤ p.room ∧ l.length + k0 ≤ p.room) := by
        rw [tx_len]
        exact decide_eq_decide.mpr ⟨fun h => ⟨hz, c1, by omega⟩, fun h => by have := h.2.2; omega⟩
      rw [e]
      exact q _ s04
    · rw [decide_eq_false (by omega)]
      refine iteF ?_
      have e : decide ((k0 = 0 → g0 = 0) ∧ g0 + k0 ≤ p.room ∧ l.length + k0 ≤ p.room) = false := decide_eq_false fun h => c1 h.2.1
      rw [e] at q
      exact q _ s04
theorem okx_check_stack {D0 : Addr} (D : Dn K mg "check_stack" s_check_stack P_check_stack) (g : Gx mg) (e_BadStack : ErrC K mg "BadStack" D0) (c_is_stack : C8.Cal P w K mg base 2 "is_stack" spStackB []) : CalX P w K mg base 3 "check_stack" (spChStackY D0) := by
  refine D.calX sc_check_stack (fun vs H Q E h => ?_) (fun f cdv A outer s H vs Q E hr h => ?_)
  · obtain ⟨v, p, x, b, rfl, _⟩ := h
    rfl
  obtain ⟨v, p, x, b, rfl, hp, ok, hx, q⟩ := h
  have nd := sc_check_stack.nd
  refine ⟨_, (pss_one (ps_if (pt_not (pt_val (C8.pe_c c_is_stack hr (by decide) rfl (pa_cons (pv 0) (pa_cons (pv 1) pa_nil))))) (pss_one (ps_raiseN rfl outX e_BadStack rfl)) pss_nil)), ?_⟩
  refine ⟨_, rfl, _, rfl, v, p, x, b, rfl, hp, ok, hx, fun H1 s1 => ⟨_, rfl, ?_⟩⟩
  cases b with
  | true => exact iteF (q H1 s1)
  | false => exact iteT (q H1 s1)
theorem okx_check_triple {D0 : Addr} (D : Dn K mg "check_triple" s_check_triple P_check_triple) (g : Gx mg) (e_BadTriple : ErrC K mg "BadTriple" D0) (c_is_triple : C8.Cal P w K mg base 2 "is_triple" spTripleB []) : CalX P w K mg base 3 "check_triple" (spChTripleY D0) := by
  refine D.calX sc_check_triple (fun vs H Q E h => ?_) (fun f cdv A outer s H vs Q E hr h => ?_)
  · obtain ⟨v, p, u, b, rfl, _⟩ := h
    rfl
  obtain ⟨v, p, u, b, rfl, hp, ok, hx, q⟩ := h
  have nd := sc_check_triple.nd
  refine ⟨_, (pss_one (ps_if (pt_not (pt_val (C8.pe_c c_is_triple hr (by decide) rfl (pa_cons (pv 0) (pa_cons (pv 1) pa_nil))))) (pss_one (ps_raiseN rfl outX e_BadTriple rfl)) pss_nil)), ?_⟩
  refine ⟨_, rfl, _, rfl, v, p, u, b, rfl, hp, ok, hx, fun H1 s1 => ⟨_, rfl, ?_⟩⟩
  cases b with
  | true => exact iteF (q H1 s1)
  | false => exact iteT (q H1 s1)
theorem okx_check_steps {D0 : Addr} (D : Dn K mg "check_steps" s_check_steps P_check_steps) (g : Gx mg) (e_BadSteps : ErrC K mg "BadSteps" D0) (c_signs_of : C8.Cal P w K mg base 1 "signs_of" spSigns []) (c_is_text_of : C8.Cal P w K mg base 1 "is_text_of" spTextB []) : CalX P w K mg base 2 "check_steps" (spChStepsY D0) := by
  refine D.calX sc_check_steps (fun vs H Q E h => ?_) (fun f cdv A outer s H vs Q E hr h => ?_)
  · obtain ⟨v, p, x, rfl, _⟩ := h
    rfl
  obtain ⟨v, p, x, rfl, ⟨a, b, rfl, ha, hb⟩, ok, hx, q⟩ := h
  have nd := sc_check_steps.nd
  refine ⟨_, (pss_one (ps_if (pt_not (pt_val (C8.pe_c c_is_text_of hr (by decide) rfl (pa_cons (pv 1) (pa_cons (pe_op op_add_str (C8.pe_c c_signs_of hr (by decide) rfl (pa_cons (pv 0) pa_nil)) (C8.pe_gc rfl g.POP_STEP)) pa_nil))))) (pss_one (ps_raiseN rfl outX e_BadSteps rfl)) pss_nil)), ?_⟩
  refine ⟨_, rfl, _, rfl, _, p, rfl, ⟨a, b, rfl, ha, hb⟩, ok, fun H1 s1 => ⟨_, _, rfl, rfl, ?_, ?_⟩⟩
  · rw [tx_len, tx_len]
    have := signs_len p.many
    exact sz (by simp; omega)
  rw [tx_app]
  exact ⟨x, _, false, rfl, TextB.mono hx s1, fun H2 s2 => ⟨_, rfl, iteT (q H2 (s1.trans s2))⟩⟩
theorem okx_check_times {D0 : Addr} (D : Dn K mg "check_times" s_check_times P_check_times) (g : Gx mg) (e_BadCount : ErrC K mg "BadCount" D0) (c_is_number : C8.Cal P w K mg base 1 "is_number" spNumB []) : CalX P w K mg base 2 "check_times" (spTimesY D0) := by
  refine D.calX sc_check_times (fun vs H Q E h => ?_) (fun f cdv A outer s H vs Q E hr h => ?_)
  · obtain ⟨x, rfl, _⟩ := h
    rfl
  obtain ⟨x, rfl, hx, q⟩ := h
  have nd := sc_check_times.nd
  refine ⟨_, (pss_one (ps_if (pt_not (pt_val (C8.pe_c c_is_number hr (by decide) rfl (pa_cons (pv 0) (pa_cons pe_int (pa_cons (C8.pe_gc rfl g.MOST_TIMES) pa_nil)))))) (pss_one (ps_raiseN rfl outX e_BadCount rfl)) pss_nil)), ?_⟩
  exact ⟨_, rfl, x, 0, 1000000000000000000, false, rfl, hx, fun H1 s1 => ⟨_, rfl, iteT (q H1 s1)⟩⟩
theorem okx_cheapest {D0 : Addr} (D : Dn K mg "cheapest" s_cheapest P_cheapest) (g : Gx mg) (c_check_plan : C8.Cal P w K mg base 3 "check_plan" spChPlan []) (x_check_triple : CalX P w K mg base 3 "check_triple" (spChTripleY D0)) : CalX P w K mg base 4 "cheapest" (spT1 0 D0) := by
  refine D.calX sc_cheapest (fun vs H Q E h => ?_) (fun f cdv A outer s H vs Q E hr h => ?_)
  · obtain ⟨v, p, u, rest, rfl, hl, _⟩ := h
    show rest.length + 1 + 1 = 2
    omega
  obtain ⟨v, p, u, rest, rfl, hl, hp, ok, hu, q⟩ := h
  have nd := sc_cheapest.nd
  refine ⟨_, (pss_cons (ps_expr (C8.pe_c c_check_plan hr (by decide) rfl (pa_cons (pv 0) pa_nil)))
    (pss_cons (ps_expr (pe_cX x_check_triple hr (by decide) rfl passX (pa_cons (pv 0) (pa_cons (pv 1) pa_nil)))) psF)), ?_⟩
  obtain rfl : rest = [] := List.eq_nil_of_length_eq_zero hl
  refine ⟨_, rfl, v, p, rfl, hp, ok, fun H1 s1 => ?_⟩
  exact ⟨_, rfl, _, rfl, v, p, u, false, rfl, hp.mono s1, ok, hu.mono s1, q.mono s1⟩
theorem okx_fewest {D0 : Addr} (D : Dn K mg "fewest" s_fewest P_fewest) (g : Gx mg) (c_check_plan : C8.Cal P w K mg base 3 "check_plan" spChPlan []) (x_check_triple : CalX P w K mg base 3 "check_triple" (spChTripleY D0)) : CalX P w K mg base 4 "fewest" (spT1 0 D0) := by
  refine D.calX sc_fewest (fun vs H Q E h => ?_) (fun f cdv A outer s H vs Q E hr h => ?_)
  · obtain ⟨v, p, u, rest, rfl, hl, _⟩ := h
    show rest.length + 1 + 1 = 2
    omega
  obtain ⟨v, p, u, rest, rfl, hl, hp, ok, hu, q⟩ := h
  have nd := sc_fewest.nd
  refine ⟨_, (pss_cons (ps_expr (C8.pe_c c_check_plan hr (by decide) rfl (pa_cons (pv 0) pa_nil)))
    (pss_cons (ps_expr (pe_cX x_check_triple hr (by decide) rfl passX (pa_cons (pv 0) (pa_cons (pv 1) pa_nil)))) psF)), ?_⟩
  obtain rfl : rest = [] := List.eq_nil_of_length_eq_zero hl
  refine ⟨_, rfl, v, p, rfl, hp, ok, fun H1 s1 => ?_⟩
  exact ⟨_, rfl, _, rfl, v, p, u, false, rfl, hp.mono s1, ok, hu.mono s1, q.mono s1⟩
theorem okx_fillers {D0 : Addr} (D : Dn K mg "fillers" s_fillers P_fillers) (g : Gx mg) (c_check_plan : C8.Cal P w K mg base 3 "check_plan" spChPlan []) (x_check_triple : CalX P w K mg base 3 "check_triple" (spChTripleY D0)) : CalX P w K mg base 4 "fillers" (spT1 0 D0) := by
  refine D.calX sc_fillers (fun vs H Q E h => ?_) (fun f cdv A outer s H vs Q E hr h => ?_)
  · obtain ⟨v, p, u, rest, rfl, hl, _⟩ := h
    show rest.length + 1 + 1 = 2
    omega
  obtain ⟨v, p, u, rest, rfl, hl, hp, ok, hu, q⟩ := h
  have nd := sc_fillers.nd
  refine ⟨_, (pss_cons (ps_expr (C8.pe_c c_check_plan hr (by decide) rfl (pa_cons (pv 0) pa_nil)))
    (pss_cons (ps_expr (pe_cX x_check_triple hr (by decide) rfl passX (pa_cons (pv 0) (pa_cons (pv 1) pa_nil)))) psF)), ?_⟩
  obtain rfl : rest = [] := List.eq_nil_of_length_eq_zero hl
  refine ⟨_, rfl, v, p, rfl, hp, ok, fun H1 s1 => ?_⟩
  exact ⟨_, rfl, _, rfl, v, p, u, false, rfl, hp.mono s1, ok, hu.mono s1, q.mono s1⟩
theorem okx_number_of {D0 : Addr} (D : Dn K mg "number_of" s_number_of P_number_of) (g : Gx mg) (c_check_plan : C8.Cal P w K mg base 3 "check_plan" spChPlan []) (x_check_triple : CalX P w K mg base 3 "check_triple" (spChTripleY D0)) : CalX P w K mg base 4 "number_of" (spT1 0 D0) := by
  refine D.calX sc_number_of (fun vs H Q E h => ?_) (fun f cdv A outer s H vs Q E hr h => ?_)
  · obtain ⟨v, p, u, rest, rfl, hl, _⟩ := h
    show rest.length + 1 + 1 = 2
    omega
  obtain ⟨v, p, u, rest, rfl, hl, hp, ok, hu, q⟩ := h
  have nd := sc_number_of.nd
  refine ⟨_, (pss_cons (ps_expr (C8.pe_c c_check_plan hr (by decide) rfl (pa_cons (pv 0) pa_nil)))
    (pss_cons (ps_expr (pe_cX x_check_triple hr (by decide) rfl passX (pa_cons (pv 0) (pa_cons (pv 1) pa_nil)))) psF)), ?_⟩
  obtain rfl : rest = [] := List.eq_nil_of_length_eq_zero hl
  refine ⟨_, rfl, v, p, rfl, hp, ok, fun H1 s1 => ?_⟩
  exact ⟨_, rfl, _, rfl, v, p, u, false, rfl, hp.mono s1, ok, hu.mono s1, q.mono s1⟩
theorem okx_joined {D0 : Addr} (D : Dn K mg "joined" s_joined P_joined) (g : Gx mg) (c_check_plan : C8.Cal P w K mg base 3 "check_plan" spChPlan []) (x_check_triple : CalX P w K mg base 3 "check_triple" (spChTripleY D0)) : CalX P w K mg base 4 "joined" (spT2 (fun H x p => TripleB H x p false) D0 D0) := by
  refine D.calX sc_joined (fun vs H Q E h => ?_) (fun f cdv A outer s H vs Q E hr h => ?_)
  · obtain ⟨v, p, u, x, b, rfl, _⟩ := h
    rfl
  obtain ⟨v, p, u, x, b, rfl, hp, ok, hu, q⟩ := h
  have nd := sc_joined.nd
  refine ⟨_, (pss_cons (ps_expr (C8.pe_c c_check_plan hr (by decide) rfl (pa_cons (pv 0) pa_nil)))
    (pss_cons (ps_expr (pe_cX x_check_triple hr (by decide) rfl passX (pa_cons (pv 0) (pa_cons (pv 1) pa_nil))))
    (pss_cons (ps_expr (pe_cX x_check_triple hr (by decide) rfl passX (pa_cons (pv 0) (pa_cons (pv 2) pa_nil)))) psF))), ?_⟩
  refine ⟨_, rfl, v, p, rfl, hp, ok, fun H1 s1 => ?_⟩
  refine ⟨_, rfl, _, rfl, v, p, u, b, rfl, hp.mono s1, ok, hu.mono s1, ?_⟩
  cases b with
  | false => exact noP.mono q s1
  | true =>
    intro H2 s2
    exact ⟨_, rfl, _, rfl, v, p, x, false, rfl, hp.mono (s1.trans s2), ok, q.1.mono (s1.trans s2), noP.mono q.2 (s1.trans s2)⟩
theorem okx_done {D0 D1 : Addr} (D : Dn K mg "done" s_done P_done) (g : Gx mg) (c_check_plan : C8.Cal P w K mg base 3 "check_plan" spChPlan []) (x_check_triple : CalX P w K mg base 3 "check_triple" (spChTripleY D0)) (x_check_stack : CalX P w K mg base 3 "check_stack" (spChStackY D1)) : CalX P w K mg base 4 "done" (spT2 (fun H x p => StackB H x p false) D0 D1) := by
  refine D.calX sc_done (fun vs H Q E h => ?_) (fun f cdv A outer s H vs Q E hr h => ?_)
  · obtain ⟨v, p, u, x, b, rfl, _⟩ := h
    rfl
  obtain ⟨v, p, u, x, b, rfl, hp, ok, hu, q⟩ := h
  have nd := sc_done.nd
  refine ⟨_, (pss_cons (ps_expr (C8.pe_c c_check_plan hr (by decide) rfl (pa_cons (pv 0) pa_nil)))
    (pss_cons (ps_expr (pe_cX x_check_triple hr (by decide) rfl passX (pa_cons (pv 0) (pa_cons (pv 1) pa_nil))))
    (pss_cons (ps_expr (pe_cX x_check_stack hr (by decide) rfl passX (pa_cons (pv 0) (pa_cons (pv 2) pa_nil)))) psF))), ?_⟩
  refine ⟨_, rfl, v, p, rfl, hp, ok, fun H1 s1 => ?_⟩
  refine ⟨_, rfl, _, rfl, v, p, u, b, rfl, hp.mono s1, ok, hu.mono s1, ?_⟩
  cases b with
  | false => exact noP.mono q s1
  | true =>
    intro H2 s2
    exact ⟨_, rfl, _, rfl, v, p, x, false, rfl, hp.mono (s1.trans s2), ok, q.1.mono (s1.trans s2), noP.mono q.2 (s1.trans s2)⟩
theorem okx_befores {D0 D1 : Addr} (D : Dn K mg "befores" s_befores P_befores) (g : Gx mg) (c_check_plan : C8.Cal P w K mg base 3 "check_plan" spChPlan []) (x_check_triple : CalX P w K mg base 3 "check_triple" (spChTripleY D0)) (x_check_stack : CalX P w K mg base 3 "check_stack" (spChStackY D1)) : CalX P w K mg base 4 "befores" (spT2 (fun H x p => StackB H x p false) D0 D1) := by
  refine D.calX sc_befores (fun vs H Q E h => ?_) (fun f cdv A outer s H vs Q E hr h => ?_)
  · obtain ⟨v, p, u, x, b, rfl, _⟩ := h
    rfl
  obtain ⟨v, p, u, x, b, rfl, hp, ok, hu, q⟩ := h
  have nd := sc_befores.nd
  refine ⟨_, (pss_cons (ps_expr (C8.pe_c c_check_plan hr (by decide) rfl (pa_cons (pv 0) pa_nil)))
    (pss_cons (ps_expr (pe_cX x_check_triple hr (by decide) rfl passX (pa_cons (pv 0) (pa_cons (pv 1) pa_nil))))
    (pss_cons (ps_expr (pe_cX x_check_stack hr (by decide) rfl passX (pa_cons (pv 0) (pa_cons (pv 2) pa_nil)))) psF))), ?_⟩
  refine ⟨_, rfl, v, p, rfl, hp, ok, fun H1 s1 => ?_⟩
  refine ⟨_, rfl, _, rfl, v, p, u, b, rfl, hp.mono s1, ok, hu.mono s1, ?_⟩
  cases b with
  | false => exact noP.mono q s1
  | true =>
    intro H2 s2
    exact ⟨_, rfl, _, rfl, v, p, x, false, rfl, hp.mono (s1.trans s2), ok, q.1.mono (s1.trans s2), noP.mono q.2 (s1.trans s2)⟩
theorem okx_powered {D0 D1 : Addr} (D : Dn K mg "powered" s_powered P_powered) (g : Gx mg) (c_check_plan : C8.Cal P w K mg base 3 "check_plan" spChPlan []) (x_check_triple : CalX P w K mg base 3 "check_triple" (spChTripleY D0)) (x_check_times : CalX P w K mg base 2 "check_times" (spTimesY D1)) : CalX P w K mg base 4 "powered" (spT2 (fun H x p => NumB H x 0 1000000000000000000 false) D0 D1) := by
  refine D.calX sc_powered (fun vs H Q E h => ?_) (fun f cdv A outer s H vs Q E hr h => ?_)
  · obtain ⟨v, p, u, x, b, rfl, _⟩ := h
    rfl
  obtain ⟨v, p, u, x, b, rfl, hp, ok, hu, q⟩ := h
  have nd := sc_powered.nd
  refine ⟨_, (pss_cons (ps_expr (C8.pe_c c_check_plan hr (by decide) rfl (pa_cons (pv 0) pa_nil)))
    (pss_cons (ps_expr (pe_cX x_check_triple hr (by decide) rfl passX (pa_cons (pv 0) (pa_cons (pv 1) pa_nil))))
    (pss_cons (ps_expr (pe_cX x_check_times hr (by decide) rfl passX (pa_cons (pv 2) pa_nil))) psF))), ?_⟩
  refine ⟨_, rfl, v, p, rfl, hp, ok, fun H1 s1 => ?_⟩
  refine ⟨_, rfl, _, rfl, v, p, u, b, rfl, hp.mono s1, ok, hu.mono s1, ?_⟩
  cases b with
  | false => exact noP.mono q s1
  | true =>
    intro H2 s2
    exact ⟨_, rfl, x, rfl, q.1.mono (s1.trans s2), noP.mono q.2 (s1.trans s2)⟩
theorem okx_judged {D0 D1 : Addr} (D : Dn K mg "judged" s_judged P_judged) (g : Gx mg) (c_check_plan : C8.Cal P w K mg base 3 "check_plan" spChPlan []) (x_check_triple : CalX P w K mg base 3 "check_triple" (spChTripleY D0)) (x_check_steps : CalX P w K mg base 2 "check_steps" (spChStepsY D1)) : CalX P w K mg base 4 "judged" (spT2 (fun H x p => StepsB H x p false) D0 D1) := by
  refine D.calX sc_judged (fun vs H Q E h => ?_) (fun f cdv A outer s H vs Q E hr h => ?_)
  · obtain ⟨v, p, u, x, b, rfl, _⟩ := h
    rfl
  obtain ⟨v, p, u, x, b, rfl, hp, ok, hu, q⟩ := h
  have nd := sc_judged.nd
  refine ⟨_, (pss_cons (ps_expr (C8.pe_c c_check_plan hr (by decide) rfl (pa_cons (pv 0) pa_nil)))
    (pss_cons (ps_expr (pe_cX x_check_triple hr (by decide) rfl passX (pa_cons (pv 0) (pa_cons (pv 1) pa_nil))))
    (pss_cons (ps_expr (pe_cX x_check_steps hr (by decide) rfl passX (pa_cons (pv 0) (pa_cons (pv 2) pa_nil)))) psF))), ?_⟩
  refine ⟨_, rfl, v, p, rfl, hp, ok, fun H1 s1 => ?_⟩
  refine ⟨_, rfl, _, rfl, v, p, u, b, rfl, hp.mono s1, ok, hu.mono s1, ?_⟩
  cases b with
  | false => exact noP.mono q s1
  | true =>
    intro H2 s2
    exact ⟨_, rfl, _, rfl, v, p, x, rfl, hp.mono (s1.trans s2), ok, TextB.mono q.1 (s1.trans s2), noP.mono q.2 (s1.trans s2)⟩
theorem okx_told_of_steps {D0 : Addr} (D : Dn K mg "told_of_steps" s_told_of_steps P_told_of_steps) (g : Gx mg) (c_check_plan : C8.Cal P w K mg base 3 "check_plan" spChPlan []) (x_check_steps : CalX P w K mg base 2 "check_steps" (spChStepsY D0)) : CalX P w K mg base 4 "told_of_steps" (spStepsY D0) := by
  refine D.calX sc_told_of_steps (fun vs H Q E h => ?_) (fun f cdv A outer s H vs Q E hr h => ?_)
  · obtain ⟨v, p, x, rfl, _⟩ := h
    rfl
  obtain ⟨v, p, x, rfl, hp, ok, hx, q⟩ := h
  have nd := sc_told_of_steps.nd
  refine ⟨_, (pss_cons (ps_expr (C8.pe_c c_check_plan hr (by decide) rfl (pa_cons (pv 0) pa_nil)))
    (pss_cons (ps_expr (pe_cX x_check_steps hr (by decide) rfl passX (pa_cons (pv 0) (pa_cons (pv 1) pa_nil)))) psF)), ?_⟩
  refine ⟨_, rfl, v, p, rfl, hp, ok, fun H1 s1 => ?_⟩
  exact ⟨_, rfl, _, rfl, v, p, x, rfl, hp.mono s1, ok, TextB.mono hx s1, noP.mono q s1⟩
theorem okx_M___init__ {C D0 : Addr} (D : Di K mg C "Machine" "Machine.__init__" s_M_init P_M_init) (g : Gx mg) (c_check_plan : C8.Cal P w K mg base 3 "check_plan" spChPlan []) (x_check_stack : CalX P w K mg base 3 "check_stack" (spChStackY D0)) : MakX P w K mg base 4 "Machine" C (spMInitY D0) := by
  refine D.makX sc_M_init (fun vs H Q E h => ?_) (fun f cdv A outer s H vs Q E hr h => ?_)
  · obtain ⟨x, v, p, y, rfl, _⟩ := h
    rfl
  obtain ⟨x, v, p, y, rfl, hp, ok, hy, q⟩ := h
  have nd := sc_M_init.nd
  refine ⟨_, (pss_cons (ps_expr (C8.pe_c c_check_plan hr (by decide) rfl (pa_cons (pv 1) pa_nil)))
    (pss_cons (ps_expr (pe_cX x_check_stack hr (by decide) rfl passX (pa_cons (pv 1) (pa_cons (pv 2) pa_nil)))) psF)), ?_⟩
  refine ⟨_, rfl, v, p, rfl, hp, ok, fun H1 s1 => ?_⟩
  exact ⟨_, rfl, _, rfl, v, p, y, false, rfl, hp.mono s1, ok, hy.mono s1, noP.mono q s1⟩
theorem okn_is_work_alone (D : Dn K mg "is_work_alone" s_is_work_alone P_is_work_alone) (g : Gx mg) (c_is_number : C8.Cal P w K mg base 1 "is_number" spNumB []) : C8.Cal P w K mg base 2 "is_work_alone" spAloneX [] := by
  refine D.cal sc_is_work_alone (fun vs H Q E h => ?_) (fun f cdv A outer s H vs Q E hr h => ?_)
  · obtain ⟨wk, v, D0, many, rfl, _⟩ := h
    rfl
  obtain ⟨wk, v, D0, many, rfl, hw, hD, can, q⟩ := h
  have nd := sc_is_work_alone.nd
  refine ⟨_, (pss_cons (ps_if (PW.pt (pw_or (pt_not (pt_val (pe_callB call_isi rfl g.isi b_isi (pa_cons (pv 0) (pa_cons (pe_bltn (v := .ty "tuple") rfl g.tuple b_tuple rfl) pa_nil))))) (pw_or1 (pt_cmpR op_eq (pe_callB call_len_seq rfl g.len PySem.boot_len (pa_cons (pv 0) pa_nil)) pe_int (nomark _))))) (pss_one (ps_ret pe_bl)) pss_nil)
    (pss_cons (ps_if (pt_cmpR op_eq (pe_ix ix_tup (pv 0) pe_int (fun _ _ => rfl)) pe_str (nomark _)) (pss_one (ps_ret (pe_and (pe_cmpR op_eq (pe_callB call_len_seq rfl g.len PySem.boot_len (pa_cons (pv 0) pa_nil)) pe_int (nomark _)) (pe_one (pe_cmpR op_in_seq (pe_ix ix_tup (pv 0) pe_int (fun _ _ => rfl)) (pv 1) rfl))))) pss_nil)
    (pss_cons (ps_if (pt_cmpR op_eq (pe_ix ix_tup (pv 0) pe_int (fun _ _ => rfl)) pe_str (nomark _)) (pss_one (ps_ret (pe_cmpR op_eq (pe_callB call_len_seq rfl g.len PySem.boot_len (pa_cons (pv 0) pa_nil)) pe_int (nomark _)))) pss_nil)
    (pss_cons (ps_if (pt_cmpR op_eq (pe_ix ix_tup (pv 0) pe_int (fun _ _ => rfl)) pe_str (nomark _)) (pss_one (ps_ret (pe_and (pe_cmpR op_eq (pe_callB call_len_seq rfl g.len PySem.boot_len (pa_cons (pv 0) pa_nil)) pe_int (nomark _)) (pe_one (pe_callB call_isi rfl g.isi b_isi (pa_cons (pe_ix ix_tup (pv 0) pe_int (fun _ _ => rfl)) (pa_cons (pe_bltn (v := .ty "tuple") rfl g.tuple b_tuple rfl) pa_nil))))))) pss_nil)
    (pss_cons (ps_if (pt_cmpR op_eq (pe_ix ix_tup (pv 0) pe_int (fun _ _ => rfl)) pe_str (nomark _)) (pss_one (ps_ret (pe_and (pe_cmpR op_eq (pe_callB call_len_seq rfl g.len PySem.boot_len (pa_cons (pv 0) pa_nil)) pe_int (nomark _)) (pe_one (C8.pe_c c_is_number hr (by decide) rfl (pa_cons (pe_ix ix_tup (pv 0) pe_int (fun _ _ => rfl)) (pa_cons pe_int (pa_cons (C8.pe_gc rfl g.MOST_TIMES) pa_nil)))))))) pss_nil)
    (pss_one (ps_ret pe_bl))))))), ?_⟩
  cases wk with
  | push c =>
    rcases hw with ⟨hc, hb⟩ | ⟨hc, a, rfl, ha⟩
    · have eb : (!W.bad (.push c)) = false := by
        show (!decide (1000 ≤ c)) = false
        rw [decide_eq_true hc]
        rfl
      rw [eb] at q
      rcases hb with rfl | ⟨z, rfl⟩ | ⟨a, rfl, ha⟩ | ⟨a, xs, rfl, ha, hb⟩
      · exact ⟨_, rfl, _, _, _, _, _, rfl, .ty "tuple", ty_non, kit_ty k_non_tup, _, rfl, iteT (q H (Same.refl H))⟩
      · exact ⟨_, rfl, _, _, _, _, _, rfl, .ty "tuple", ty_str, kit_ty k_str_tup, _, rfl, iteT (q H (Same.refl H))⟩
      · exact ⟨_, rfl, _, _, _, _, _, rfl, .ty "tuple", ty_lst ha, kit_ty k_lst_tup, _, rfl, iteT (q H (Same.refl H))⟩
      rcases hb with rfl | rfl | ⟨y, rfl, hy⟩ | rfl | ⟨b, rfl, hb⟩ | ⟨i, z, rfl, hi⟩ | ⟨i, z, y, rfl⟩ | rfl
      · refine ⟨_, rfl, _, _, _, _, _, rfl, .ty "tuple", ty_tup ha, kit_ty k_tup_tup, _, rfl, iteF ?_⟩
        exact ⟨_, rfl, a, _, rfl, .inr (SqT.of ha), rfl, _, rfl, iteD rfl (q H (Same.refl H))⟩
      · refine ⟨_, rfl, _, _, _, _, _, rfl, .ty "tuple", ty_tup ha, kit_ty k_tup_tup, _, rfl, iteF ?_⟩
        refine ⟨_, rfl, a, _, rfl, .inr (SqT.of ha), rfl, _, rfl, iteDF (by intro z; cases z) ?_⟩
        refine ⟨_, rfl, a, _, 0, _, rfl, rfl, SqT.of ha, rfl, rfl, _, rfl, iteD rfl ?_⟩
        refine ⟨_, rfl, a, _, rfl, .inr (SqT.of ha), rfl, _, rfl, iteDF (by intro z; cases z) ?_⟩
        exact q H (Same.refl H)
      · refine ⟨_, rfl, _, _, _, _, _, rfl, .ty "tuple", ty_tup ha, kit_ty k_tup_tup, _, rfl, iteF ?_⟩
        refine ⟨_, rfl, a, _, rfl, .inr (SqT.of ha), rfl, _, rfl, iteDF (by intro z; cases z) ?_⟩
        refine ⟨_, rfl, a, _, 0, _, rfl, rfl, SqT.of ha, rfl, rfl, _, rfl, iteD rfl ?_⟩
        refine ⟨_, rfl, a, _, rfl, .inr (SqT.of ha), rfl, _, rfl, iteD rfl ?_⟩
        refine ⟨_, rfl, a, _, 1, _, rfl, rfl, SqT.of ha, rfl, _, rfl, D0, _, rfl, .inl (SqL.of hD), (inV_odd hy many).2, flat_signs _, ?_⟩
        rw [(inV_odd hy many).1]
        exact q H (Same.refl H)
      · refine ⟨_, rfl, _, _, _, _, _, rfl, .ty "tuple", ty_tup ha, kit_ty k_tup_tup, _, rfl, iteF ?_⟩
        refine ⟨_, rfl, a, _, rfl, .inr (SqT.of ha), rfl, _, rfl, iteDF (by intro z; cases z) ?_⟩
        refine ⟨_, rfl, a, _, 0, _, rfl, rfl, SqT.of ha, rfl, rfl, _, rfl, iteDF (vne s_po_pu) ?_⟩
        refine ⟨_, rfl, a, _, 0, _, rfl, rfl, SqT.of ha, rfl, rfl, _, rfl, iteD rfl ?_⟩
        refine ⟨_, rfl, a, _, rfl, .inr (SqT.of ha), rfl, ?_⟩
        exact q H (Same.refl H)
      · refine ⟨_, rfl, _, _, _, _, _, rfl, .ty "tuple", ty_tup ha, kit_ty k_tup_tup, _, rfl, iteF ?_⟩
        refine ⟨_, rfl, a, _, rfl, .inr (SqT.of ha), rfl, _, rfl, iteDF (by intro z; cases z) ?_⟩
        refine ⟨_, rfl, a, _, 0, _, rfl, rfl, SqT.of ha, rfl, rfl, _, rfl, iteDF (vne s_ro_pu) ?_⟩
        refine ⟨_, rfl, a, _, 0, _, rfl, rfl, SqT.of ha, rfl, rfl, _, rfl, iteDF (vne s_ro_po) ?_⟩
        refine ⟨_, rfl, a, _, 0, _, rfl, rfl, SqT.of ha, rfl, rfl, _, rfl, iteD rfl ?_⟩
        refine ⟨_, rfl, a, _, rfl, .inr (SqT.of ha), rfl, _, rfl, iteD rfl ?_⟩
        refine ⟨_, rfl, a, _, 1, _, rfl, rfl, SqT.of ha, rfl, _, _, _, _, _, rfl, .ty "tuple", ty_lst hb, kit_ty k_lst_tup, ?_⟩
        exact q H (Same.refl H)
      · refine ⟨_, rfl, _, _, _, _, _, rfl, .ty "tuple", ty_tup ha, kit_ty k_tup_tup, _, rfl, iteF ?_⟩
        refine ⟨_, rfl, a, _, rfl, .inr (SqT.of ha), rfl, _, rfl, iteDF (by intro z; cases z) ?_⟩
        refine ⟨_, rfl, a, _, 0, _, rfl, rfl, SqT.of ha, rfl, rfl, _, rfl, iteDF (vne s_ti_pu) ?_⟩
        refine ⟨_, rfl, a, _, 0, _, rfl, rfl, SqT.of ha, rfl, rfl, _, rfl, iteDF (vne s_ti_po) ?_⟩
        refine ⟨_, rfl, a, _, 0, _, rfl, rfl, SqT.of ha, rfl, rfl, _, rfl, iteDF (vne s_ti_ro) ?_⟩
        refine ⟨_, rfl, a, _, 0, _, rfl, rfl, SqT.of ha, rfl, rfl, _, rfl, iteD rfl ?_⟩
        refine ⟨_, rfl, a, _, rfl, .inr (SqT.of ha), rfl, _, rfl, iteD rfl ?_⟩
        refine ⟨_, rfl, a, _, 1, _, rfl, rfl, SqT.of ha, rfl, i, 0, 1000000000000000000, false, rfl, ?_, fun H1 s1 => q H1 s1⟩
        rcases hi with rfl | ⟨n, rfl, hn⟩
        · rfl
        · show false = (decide ((0 : Int) ≤ n) && decide (n ≤ 1000000000000000000))
          rcases hn with hn | hn
          · rw [decide_eq_false (by omega)]
            rfl
          · rw [decide_eq_false (p := n ≤ 1000000000000000000) (by omega), Bool.and_false]
      · refine ⟨_, rfl, _, _, _, _, _, rfl, .ty "tuple", ty_tup ha, kit_ty k_tup_tup, _, rfl, iteF ?_⟩
        refine ⟨_, rfl, a, _, rfl, .inr (SqT.of ha), rfl, _, rfl, iteDF (by intro z; cases z) ?_⟩
        refine ⟨_, rfl, a, _, 0, _, rfl, rfl, SqT.of ha, rfl, rfl, _, rfl, iteDF (vne s_ti_pu) ?_⟩
        refine ⟨_, rfl, a, _, 0, _, rfl, rfl, SqT.of ha, rfl, rfl, _, rfl, iteDF (vne s_ti_po) ?_⟩
        refine ⟨_, rfl, a, _, 0, _, rfl, rfl, SqT.of ha, rfl, rfl, _, rfl, iteDF (vne s_ti_ro) ?_⟩
        refine ⟨_, rfl, a, _, 0, _, rfl, rfl, SqT.of ha, rfl, rfl, _, rfl, iteD rfl ?_⟩
        refine ⟨_, rfl, a, _, rfl, .inr (SqT.of ha), rfl, _, rfl, iteDF (by intro z; cases z) ?_⟩
        exact q H (Same.refl H)
      · refine ⟨_, rfl, _, _, _, _, _, rfl, .ty "tuple", ty_tup ha, kit_ty k_tup_tup, _, rfl, iteF ?_⟩
        refine ⟨_, rfl, a, _, rfl, .inr (SqT.of ha), rfl, _, rfl, iteDF (by intro z; cases z) ?_⟩
        refine ⟨_, rfl, a, _, 0, _, rfl, rfl, SqT.of ha, rfl, rfl, _, rfl, iteDF (vne s_P_pu) ?_⟩
        refine ⟨_, rfl, a, _, 0, _, rfl, rfl, SqT.of ha, rfl, rfl, _, rfl, iteDF (vne s_P_po) ?_⟩
        refine ⟨_, rfl, a, _, 0, _, rfl, rfl, SqT.of ha, rfl, rfl, _, rfl, iteDF (vne s_P_ro) ?_⟩
        refine ⟨_, rfl, a, _, 0, _, rfl, rfl, SqT.of ha, rfl, rfl, _, rfl, iteDF (vne s_P_ti) ?_⟩
        exact q H (Same.refl H)
    · have eb : (!W.bad (.push c)) = true := by
        show (!decide (1000 ≤ c)) = true
        rw [decide_eq_false (by omega)]
        rfl
      rw [eb] at q
      have can : c ∈ signs many := can.resolve_left (by omega)
      refine ⟨_, rfl, _, _, _, _, _, rfl, .ty "tuple", ty_tup ha, kit_ty k_tup_tup, _, rfl, iteF ?_⟩
      refine ⟨_, rfl, a, _, rfl, .inr (SqT.of ha), rfl, _, rfl, iteDF (by intro z; cases z) ?_⟩
      refine ⟨_, rfl, a, _, 0, _, rfl, rfl, SqT.of ha, rfl, rfl, _, rfl, iteD rfl ?_⟩
      refine ⟨_, rfl, a, _, rfl, .inr (SqT.of ha), rfl, _, rfl, iteD rfl ?_⟩
      refine ⟨_, rfl, a, _, 1, _, rfl, rfl, SqT.of ha, rfl, _, rfl, D0, _, rfl, .inl (SqL.of hD), rfl, flat_signs _, ?_⟩
      rw [inV_sign can]
      exact q H (Same.refl H)
  | pop =>
    obtain ⟨a, rfl, ha⟩ := hw
    refine ⟨_, rfl, _, _, _, _, _, rfl, .ty "tuple", ty_tup ha, kit_ty k_tup_tup, _, rfl, iteF ?_⟩
    refine ⟨_, rfl, a, _, rfl, .inr (SqT.of ha), rfl, _, rfl, iteDF (by intro z; cases z) ?_⟩
    refine ⟨_, rfl, a, _, 0, _, rfl, rfl, SqT.of ha, rfl, rfl, _, rfl, iteDF (vne s_po_pu) ?_⟩
    refine ⟨_, rfl, a, _, 0, _, rfl, rfl, SqT.of ha, rfl, rfl, _, rfl, iteD rfl ?_⟩
    refine ⟨_, rfl, a, _, rfl, .inr (SqT.of ha), rfl, ?_⟩
    exact givD q
  | row ws =>
    obtain ⟨a, b, xs, rfl, ha, hb, hs⟩ := hw
    refine ⟨_, rfl, _, _, _, _, _, rfl, .ty "tuple", ty_tup ha, kit_ty k_tup_tup, _, rfl, iteF ?_⟩
    refine ⟨_, rfl, a, _, rfl, .inr (SqT.of ha), rfl, _, rfl, iteDF (by intro z; cases z) ?_⟩
    refine ⟨_, rfl, a, _, 0, _, rfl, rfl, SqT.of ha, rfl, rfl, _, rfl, iteDF (vne s_ro_pu) ?_⟩
    refine ⟨_, rfl, a, _, 0, _, rfl, rfl, SqT.of ha, rfl, rfl, _, rfl, iteDF (vne s_ro_po) ?_⟩
    refine ⟨_, rfl, a, _, 0, _, rfl, rfl, SqT.of ha, rfl, rfl, _, rfl, iteD rfl ?_⟩
    refine ⟨_, rfl, a, _, rfl, .inr (SqT.of ha), rfl, _, rfl, iteD rfl ?_⟩
    refine ⟨_, rfl, a, _, 1, _, rfl, rfl, SqT.of ha, rfl, _, _, _, _, _, rfl, .ty "tuple", ty_tup hb, kit_ty k_tup_tup, ?_⟩
    exact q H (Same.refl H)
  | times n w' =>
    obtain ⟨a, u, rfl, ha, hu⟩ := hw
    obtain ⟨hn, _⟩ := can
    refine ⟨_, rfl, _, _, _, _, _, rfl, .ty "tuple", ty_tup ha, kit_ty k_tup_tup, _, rfl, iteF ?_⟩
    refine ⟨_, rfl, a, _, rfl, .inr (SqT.of ha), rfl, _, rfl, iteDF (by intro z; cases z) ?_⟩
    refine ⟨_, rfl, a, _, 0, _, rfl, rfl, SqT.of ha, rfl, rfl, _, rfl, iteDF (vne s_ti_pu) ?_⟩
    refine ⟨_, rfl, a, _, 0, _, rfl, rfl, SqT.of ha, rfl, rfl, _, rfl, iteDF (vne s_ti_po) ?_⟩
    refine ⟨_, rfl, a, _, 0, _, rfl, rfl, SqT.of ha, rfl, rfl, _, rfl, iteDF (vne s_ti_ro) ?_⟩
    refine ⟨_, rfl, a, _, 0, _, rfl, rfl, SqT.of ha, rfl, rfl, _, rfl, iteD rfl ?_⟩
    refine ⟨_, rfl, a, _, rfl, .inr (SqT.of ha), rfl, _, rfl, iteD rfl ?_⟩
    refine ⟨_, rfl, a, _, 1, _, rfl, rfl, SqT.of ha, rfl, .int (n : Int), 0, 1000000000000000000, true, rfl, ?_, fun H1 s1 => q H1 s1⟩
    show true = (decide ((0 : Int) ≤ (n : Int)) && decide ((n : Int) ≤ 1000000000000000000))
    rw [decide_eq_true (by omega), decide_eq_true (by omega)]
    rfl
theorem okn_works_within (D : Dn K mg "works_within" s_works_within P_works_within) (g : Gx mg) : C8.Cal P w K mg base 1 "works_within" spWithinX [] := by
  refine D.cal sc_works_within (fun vs H Q E h => ?_) (fun f cdv A outer s H vs Q E hr h => ?_)
  · obtain ⟨wk, v, rfl, _⟩ := h
    rfl
  obtain ⟨wk, v, rfl, hw, hbad, q⟩ := h
  have nd := sc_works_within.nd
  refine ⟨_, (pss_cons (ps_if (pt_cmpR op_eq (pe_ix ix_tup (pv 0) pe_int (fun _ _ => rfl)) pe_str (nomark _)) (pss_one (ps_ret (pe_ix ix_tup (pv 0) pe_int (fun _ _ => rfl)))) pss_nil)
    (pss_cons (ps_if (pt_cmpR op_eq (pe_ix ix_tup (pv 0) pe_int (fun _ _ => rfl)) pe_str (nomark _)) (pss_one (ps_ret (pe_tup (pa_cons (pe_ix ix_tup (pv 0) pe_int (fun _ _ => rfl)) pa_nil)))) pss_nil)
    (pss_one (ps_ret (pe_tup pa_nil))))), ?_⟩
  cases wk with
  | push c =>
    rcases hw with ⟨hc, _⟩ | ⟨hc, a, rfl, ha⟩
    · have hbad : decide (1000 ≤ c) = false := hbad
      exact absurd hc (of_decide_eq_false hbad)
    refine ⟨_, rfl, a, _, 0, _, rfl, rfl, SqT.of ha, rfl, rfl, _, rfl, iteDF (vne s_pu_ro) ?_⟩
    refine ⟨_, rfl, a, _, 0, _, rfl, rfl, SqT.of ha, rfl, rfl, _, rfl, iteDF (vne s_pu_ti) ?_⟩
    exact ⟨by show 0 ≤ sizeLine; decide, fun u hu => q _ u [] (Same.new hu _) upd_same rfl⟩
  | pop =>
    obtain ⟨a, rfl, ha⟩ := hw
    refine ⟨_, rfl, a, _, 0, _, rfl, rfl, SqT.of ha, rfl, rfl, _, rfl, iteDF (vne s_po_ro) ?_⟩
    refine ⟨_, rfl, a, _, 0, _, rfl, rfl, SqT.of ha, rfl, rfl, _, rfl, iteDF (vne s_po_ti) ?_⟩
    exact ⟨by show 0 ≤ sizeLine; decide, fun u hu => q _ u [] (Same.new hu _) upd_same rfl⟩
  | row ws =>
    obtain ⟨a, b, xs, rfl, ha, hb, hs⟩ := hw
    refine ⟨_, rfl, a, _, 0, _, rfl, rfl, SqT.of ha, rfl, rfl, _, rfl, iteD rfl ?_⟩
    exact ⟨_, rfl, a, _, 1, _, rfl, rfl, SqT.of ha, rfl, q H b xs (Same.refl H) hb hs⟩
  | times n w' =>
    obtain ⟨a, u, rfl, ha, hu⟩ := hw
    refine ⟨_, rfl, a, _, 0, _, rfl, rfl, SqT.of ha, rfl, rfl, _, rfl, iteDF (vne s_ti_ro) ?_⟩
    refine ⟨_, rfl, a, _, 0, _, rfl, rfl, SqT.of ha, rfl, rfl, _, rfl, iteD rfl ?_⟩
    refine ⟨_, rfl, a, _, 2, _, rfl, rfl, SqT.of ha, rfl, by show 1 ≤ sizeLine; decide, fun p hp => ?_⟩
    exact q _ p _ (Same.new hp _) upd_same ⟨u, [], rfl, hu.mono (Same.new hp _), rfl⟩
theorem Nice.lst {H : Hp} {a : Addr} {xs ys : List V} (h : H a = some (.lst xs)) (n : xs ≠ [.str "pop"]) : Nice H (upd H a (.lst ys)) := ⟨Tups.lst h, fun b e => by
  rw [upd_ne (fun z => n (by rw [z, h] at e; injection e with e; injection e))]
  exact e⟩
theorem PxAt.ne {H : Hp} : ∀ {ps : List (W × Nat)} {xs : List V}, PxAt H ps xs → xs.reverse ≠ [.str "pop"]
  | [], xs, h => by
    have h : xs = [] := h
    rw [h]
    intro z
    cases z
  | p :: r, xs, h => by
    obtain ⟨T, u, s, rfl, _⟩ := h
    intro z
    have z := congrArg List.reverse z
    rw [List.reverse_reverse] at z
    cases z
theorem okx_check_work {D0 : Addr} {msg : Str} {j : InPos} {args : Arguments} (D' : Dn K mg "check_work" s_check_work P_check_work) (g : Gx mg) (i_BadWork : InC P K mg "BadWork" D0 "number" msg j args) (c_signs_of : C8.Cal P w K mg base 1 "signs_of" spSigns []) (c_is_work_alone : C8.Cal P w K mg base 2 "is_work_alone" spAloneX []) (c_works_within : C8.Cal P w K mg base 1 "works_within" spWithinX []) : CalX P w K mg base 3 "check_work" (spChWorkY D0) := by
  refine D'.calX sc_check_work (fun vs H Q E h => ?_) (fun f cdv A outer s H vs Q E hr h => ?_)
  · obtain ⟨v, p, u, wk, rfl, _⟩ := h
    rfl
  obtain ⟨v, p, u, wk, rfl, hp, ok, hw, hcan, q⟩ := h
  have nd := sc_check_work.nd
  refine ⟨_, (pss_cons (ps_set (i := 2) nd rfl (.inl rfl) (pe_callTy (call_listS rfl) rfl g.list b_list (pa_cons (C8.pe_c c_signs_of hr (by decide) rfl (pa_cons (pv 0) pa_nil)) pa_nil)))
    (pss_cons (ps_set (i := 3) nd rfl (.inl rfl) (pe_lst (pa_cons (pe_tup (pa_cons (pv 1) (pa_cons pe_int pa_nil))) pa_nil)))
    (pss_cons (ps_set (i := 4) nd rfl (.inl rfl) pe_int)
    (pss_one (ps_while ownX (pt_truth (pv 3) (by intro _; rfl)) (pss_cons (ps_asg (pe_bm0 PySem.F.plainAttrs_list PySem.F.slot_list_pop PySem.F.type_list_pop mt_pop (pv 3)) (pg_tup (by rfl) (pgs_cons (pg_name (i := 5) nd rfl (.inl rfl)) (pgs_cons (pg_name (i := 6) nd rfl (.inl rfl)) pgs_nil))))
    (pss_cons (ps_if (PW.pt (pw_or (pt_cmpR op_eq (pv 4) (C8.pe_gc rfl g.MOST_WORKS) (nomark _)) (pw_or (pt_cmpR op_gt (pv 6) (C8.pe_gc rfl g.MOST_DEEP) (nomark _)) (pw_or1 (pt_not (pt_val (C8.pe_c c_is_work_alone hr (by decide) rfl (pa_cons (pv 5) (pa_cons (pv 2) pa_nil))))))))) (pss_one (ps_raiseI rfl outX i_BadWork (.inr (.inl rfl)) hr (by decide) rfl (pa_cons (pv 4) pa_nil))) pss_nil)
    (pss_cons (ps_aug (i := 4) nd rfl (.inl rfl) pe_int ip_add)
    (pss_one (ps_for ownX rfl (RT.pi_revA rfl g.reversed (C8.pe_c c_works_within hr (by decide) rfl (pa_cons (pv 5) pa_nil))) (pg_name (i := 7) nd rfl (.inl rfl)) (pss_one (ps_expr (pe_bm PySem.F.plainAttrs_list PySem.F.slot_list_append PySem.F.type_list_append mt_append (pv 3) (pa_cons (pe_tup (pa_cons (pv 7) (pa_cons (pe_op op_add (pv 6) pe_int) pa_nil))) pa_nil)))))))))))))), ?_⟩
  have h4 := signs_len p.many
  refine ⟨_, rfl, v, p, rfl, hp, ok, fun H1 s1 => ⟨_, rfl, by rw [tx_len]; exact sz (by omega), fun D hD => ?_⟩⟩
  rw [tx_list]
  have sD := Same.new hD (.lst ((signs p.many).map fun c => V.str ⟨#[c]⟩))
  have hDD : upd H1 D (.lst ((signs p.many).map fun c => V.str ⟨#[c]⟩)) D = some (.lst ((signs p.many).map fun c => V.str (tx [c]))) := upd_same
  generalize upd H1 D (.lst ((signs p.many).map fun c => V.str ⟨#[c]⟩)) = H2 at sD hDD
  refine ⟨_, rfl, by show 2 ≤ sizeLine; decide, fun T0 hT0 => ⟨by show 1 ≤ sizeLine; decide, fun Wl hWl => ?_⟩⟩
  have sT := Same.new hT0 (.tup [u, .int 1])
  have sW := Same.new hWl (.lst [.ref T0])
  have s2 := s1.trans (sD.trans (sT.trans sW))
  have nW : H Wl = none := (s1.trans (sD.trans sT)).free hWl
  have neD : D ≠ Wl := ne_of_none (sT _ _ hDD) hWl
  refine gn ?_
  dsimp only
  refine asg_c ?_
  refine while_by (fun σ H3 => ∃ (num : Nat) (o5 o6 o7 : Option V) (ps : List (W × Nat)) (ys : List V), σ = [some v, some u, some (.ref D), some (.ref Wl), some (.int (num : Int)), o5, o6, o7] ∧ Same H H3 ∧ H3 D = some (.lst ((signs p.many).map fun c => V.str (tx [c]))) ∧ H3 Wl = some (.lst ys.reverse) ∧ PxAt H3 ps ys ∧
      num ≤ 60 ∧ fxL ps num = (wk.fx 1 0).1 ∧ ps.length ≤ 1 + num * 1000 ∧ ∀ x ∈ ps, x.1.XCan p.many)
    (fun σ _ => match σ with | [_, _, _, _, some (.int m), _, _, _] => 61 - m.toNat | _ => 0)
    ⟨0, none, none, none, [(wk, 1)], [.ref T0], rfl, s2, sW _ _ (sT _ _ hDD), upd_same, ⟨T0, u, [], rfl, sW _ _ upd_same, hw.mono s2, rfl⟩, Nat.zero_le _, fxL_one wk, Nat.le_refl _, fun x hx => by
      rw [List.mem_singleton.mp hx]
      exact hcan⟩ ?_ ?_
  · rintro σ H3 ⟨num, o5, o6, o7, ps, ys, rfl, s3, hD3, hW3, hpa, hnum, hcw, hpl, hall⟩
    refine ⟨_, rfl, _, .inl ⟨_, SqL.of hW3, rfl⟩, ?_⟩
    cases ps with
    | nil =>
      have e : ys = [] := hpa
      subst e
      have e2 : (wk.fx 1 0).1 = none := by
        rw [← hcw]
        rfl
      unfold noW at q
      rw [e2] at q
      exact iteF (q H3 s3)
    | cons x r =>
      obtain ⟨T, fu, ys, rfl, hT, hfu, hpr⟩ := hpa
      have can := hall x (List.mem_cons_self ..)
      rw [List.length_cons] at hpl
      have erev : (V.ref T :: ys).reverse = ys.reverse ++ [.ref T] := List.reverse_cons
      rw [erev] at hW3 ⊢
      have ene : (!(ys.reverse ++ [V.ref T]).isEmpty) = true := by simp
      rw [ene]
      refine iteT ?_
      -- found, deep = waiting.pop()
      refine ⟨_, rfl, .inl ⟨rfl, _, SqL.of hW3⟩, Wl, _, .ref T, rfl, rfl, hW3, by simp, ?_⟩
      rw [List.dropLast_concat]
      have tW : Nice H3 (upd H3 Wl (.lst ys.reverse)) := Nice.lst hW3 fun z => by
        have := congrArg List.getLast? z
        simp at this
      have s4 : Same H (upd H3 Wl (.lst ys.reverse)) := fun b o e => by
        rw [upd_ne (ne_of_none e nW)]
        exact s3 _ _ e
      have hD4 : upd H3 Wl (.lst ys.reverse) D = some (.lst ((signs p.many).map fun c => V.str (tx [c]))) := by
        rw [upd_ne neD]
        exact hD3
      have hW4 : upd H3 Wl (.lst ys.reverse) Wl = some (.lst ys.reverse) := upd_same
      have hT4 := tW.t _ _ hT
      have hfu4 := hfu.nice tW
      have hpr4 := hpr.nice tW
      generalize upd H3 Wl (.lst ys.reverse) = H4 at s4 hD4 hW4 hT4 hfu4 hpr4 tW
      refine ⟨T, _, rfl, SqT.of hT4, rfl, _, _, rfl, _, _, rfl, rfl, ?_⟩
      -- the test
      have hraise : (wk.fx 1 0).1 = some num → ∀ d H5, Same H4 H5 → H5 d = some (.xd [("number", .int (num : Int))]) → E (.ref D0) (some d) H5 := fun e => by
        unfold noW at q
        rw [e] at q
        exact fun d H5 s5 h5 => q d H5 (s4.trans s5) h5
      have hlog : ((num : Nat) : Int).natAbs.log2 < 1000 := Nat.lt_of_le_of_lt (Nat.log2_le_self _) (by show num < 1000; omega)
      refine ⟨_, rfl, rfl, _, rfl, ?_⟩
      by_cases h60 : num = 60
      · subst h60
        rw [fxL_no (.inr (.inr (Nat.le_refl _)))] at hcw
        refine iteD rfl ?_
        exact ⟨_, rfl, mkI hlog (hraise hcw.symm)⟩
      refine iteDF (fun z => h60 (by injection z with z; omega)) ?_
      refine ⟨_, rfl, _, _, rfl, rfl, _, rfl, ite2 (fun c8 => ?_) (fun c8 => ?_)⟩
      · have h8 : 8 < x.2 := by
          have := of_decide_eq_true c8
          omega
        rw [fxL_no (.inr (.inl h8))] at hcw
        exact ⟨_, rfl, mkI hlog (hraise hcw.symm)⟩
      have h8 : ¬ 8 < x.2 := fun z => c8 (decide_eq_true (by omega))
      refine ⟨_, rfl, _, rfl, x.1, fu, D, p.many, rfl, hfu4, hD4, can, fun H5 s5 => ⟨_, rfl, ?_⟩⟩
      cases hbad : x.1.bad with
      | true =>
        rw [fxL_no (.inl hbad)] at hcw
        exact iteT ⟨_, rfl, mkI hlog fun d H6 s6 h6 => hraise hcw.symm d H6 (s5.trans s6) h6⟩
      | false =>
      refine iteF ?_
      rw [fxL_yes (fun z => z.elim (fun z => by rw [hbad] at z; cases z) fun z => z.elim h8 fun z => by omega)] at hcw
      -- number += 1
      refine ⟨_, rfl, _, _, rfl, rfl, ?_⟩
      -- for inner in reversed(..)
      refine ⟨_, rfl, x.1, fu, rfl, hfu4.mono s5, hbad, fun H6 uu zs s6 huu hzs => ⟨uu, zs, rfl, .inr ⟨SqT.of huu, ?_⟩⟩⟩
      have hl := hzs.len
      have cw := within_xcan can
      have s46 := s5.trans s6
      have wl := within_len can
      have hlr : r.length ≤ num * 1000 := by omega
      refine for_it (walk_rt (K := K) (a := uu) (xs := zs)) (fun i σ H7 => ∃ (o7 : Option V) (ws : List V), σ = [some v, some u, some (.ref D), some (.ref Wl), some (.int ((num : Int) + 1)), some fu, some (.int (x.2 : Int)), o7] ∧ Same H H7 ∧ Nice H6 H7 ∧ H7 D = some (.lst ((signs p.many).map fun c => V.str (tx [c]))) ∧ H7 Wl = some (.lst ws.reverse) ∧
          PxAt H7 (((x.1.within.list.drop (zs.length - i)).map fun w' => (w', x.2 + 1)) ++ r) ws)
        ⟨o7, ys, rfl, s4.trans s46, Nice.refl _, s46 _ _ hD4, s46 _ _ hW4, by
          rw [Nat.sub_zero, hl, List.drop_length]
          exact hpr4.nice (Nice.of s46)⟩ (fun i σ H7 _ ⟨_, _, _, _, t7, _⟩ => SqT.of (t7.t _ _ huu)) ?_ ?_
      · rintro i y σ H7 H8 hi ⟨o7, ws, rfl, s7, t7, hD7, hW7, hp7⟩ ⟨rfl, hy⟩
        obtain ⟨w', hw', hwa⟩ := hzs.get hy
        have hlen := hp7.len
        have hle : (((x.1.within.list.drop (zs.length - i)).map fun w' => (w', x.2 + 1)) ++ r).length ≤ 70000 := by
          rw [List.length_append, List.length_map, List.length_drop]
          omega
        refine ⟨_, rfl, .inl ⟨rfl, _, SqL.of hW7⟩, _, rfl, _, rfl, _, _, rfl, rfl, by show 2 ≤ sizeLine; decide, fun T' hT' => ?_⟩
        have sT' := Same.new hT' (.tup [y, .int ((x.2 : Int) + 1)])
        refine ⟨Wl, _, _, rfl, rfl, sT' _ _ hW7, by rw [List.length_reverse, hlen]; exact szl (by omega), ?_⟩
        have hneW : T' ≠ Wl := (ne_of_none hW7 hT').symm
        have tl : Nice (upd H8 T' (.tup [y, .int ((x.2 : Int) + 1)])) (upd (upd H8 T' (.tup [y, .int ((x.2 : Int) + 1)])) Wl (.lst (ws.reverse ++ [.ref T']))) := Nice.lst (sT' _ _ hW7) hp7.ne
        have tall : Nice H8 (upd (upd H8 T' (.tup [y, .int ((x.2 : Int) + 1)])) Wl (.lst (ws.reverse ++ [.ref T']))) := (Nice.of sT').trans tl
        refine ⟨some y, .ref T' :: ws, rfl, fun b o e => ?_, t7.trans tall, ?_, by rw [upd_same, List.reverse_cons], ?_⟩
        · rw [upd_ne (ne_of_none e nW)]
          exact sT' _ _ (s7 _ _ e)
        · rw [upd_ne neD]
          exact sT' _ _ hD7
        · have hdrop : x.1.within.list.drop (zs.length - (i + 1)) = w' :: x.1.within.list.drop (zs.length - i) := by
            have e3 : zs.length - (i + 1) = zs.length - 1 - i := by omega
            have e4 : zs.length - i = zs.length - 1 - i + 1 := by omega
            rw [e3, e4]
            obtain ⟨hlt, he⟩ := List.getElem?_eq_some_iff.mp hw'
            rw [← he]
            exact List.drop_eq_getElem_cons hlt
          rw [hdrop]
          refine ⟨T', y, ws, rfl, tl.t _ _ upd_same, hwa.nice (t7.trans tall), hp7.nice tall⟩
      · rintro σ H7 ⟨o7, ws, rfl, s7, t7, hD7, hW7, hp7⟩
        have e0 : zs.length - zs.length = 0 := Nat.sub_self _
        rw [e0, List.drop_zero] at hp7
        refine ⟨⟨num + 1, some fu, some (.int (x.2 : Int)), o7, _, ws, rfl, s7, hD7, hW7, hp7, by omega, hcw, by rw [List.length_append, List.length_map]; omega, fun y hy => ?_⟩, ?_⟩
        · rcases List.mem_append.mp hy with h | h
          · obtain ⟨w', hw', rfl⟩ := List.mem_map.mp h
            exact Ws.xcan_mem cw hw'
          · exact hall y (List.mem_cons_of_mem _ h)
        · show 61 - ((num : Int) + 1).toNat < 61 - ((num : Int)).toNat
          omega
  · rintro σ H3 Q1 Q2 hq ⟨x, e1, k, t, h⟩
    exact ⟨x, e1, k, t, hq _ _ h⟩
theorem okx_told {D0 : Addr} (D : Dn K mg "told" s_told P_told) (g : Gx mg) (c_check_plan : C8.Cal P w K mg base 3 "check_plan" spChPlan []) (x_check_work : CalX P w K mg base 3 "check_work" (spChWorkY D0)) (c_triple_of_work : C8.Cal P w K mg base 11 "triple_of_work" (spTri 8) []) : CalX P w K mg base 12 "told" (spToldY D0) := by
  refine D.calX sc_told (fun vs H Q E h => ?_) (fun f cdv A outer s H vs Q E hr h => ?_)
  · obtain ⟨v, p, u, wk, rfl, _⟩ := h
    rfl
  obtain ⟨v, p, u, wk, rfl, hp, ok, hw, hcan, q⟩ := h
  have nd := sc_told.nd
  refine ⟨_, (pss_cons (ps_expr (C8.pe_c c_check_plan hr (by decide) rfl (pa_cons (pv 0) pa_nil)))
    (pss_cons (ps_expr (pe_cX x_check_work hr (by decide) rfl passX (pa_cons (pv 0) (pa_cons (pv 1) pa_nil))))
    (pss_one (ps_ret (C8.pe_c c_triple_of_work hr (by decide) rfl (pa_cons (pv 0) (pa_cons (pv 1) pa_nil))))))), ?_⟩
  refine ⟨_, rfl, v, p, rfl, hp, ok, fun H1 s1 => ?_⟩
  refine ⟨_, rfl, _, rfl, v, p, u, wk, rfl, hp.mono s1, ok, hw.mono s1, hcan, ?_⟩
  unfold noW at q ⊢
  cases hb : (wk.fx 1 0).1 with
  | some b =>
    rw [hb] at q
    exact badNo.mono q s1
  | none =>
    rw [hb] at q
    obtain ⟨hw, wok⟩ := W.fx_ok hw hcan hb
    intro H2 s2
    exact ⟨_, rfl, _, rfl, v, p, u, wk, rfl, hp.mono (s1.trans s2), ok, hw.tups (Tups.of (s1.trans s2)), wok.can, wok.dep, fun H3 v3 s3 h3 => q H3 v3 (s1.trans (s2.trans s3)) h3⟩
theorem okx_cost {D0 : Addr} (D : Dn K mg "cost" s_cost P_cost) (g : Gx mg) (c_check_plan : C8.Cal P w K mg base 3 "check_plan" spChPlan []) (x_check_work : CalX P w K mg base 3 "check_work" (spChWorkY D0)) : CalX P w K mg base 4 "cost" (spCostY D0) := by
  refine D.calX sc_cost (fun vs H Q E h => ?_) (fun f cdv A outer s H vs Q E hr h => ?_)
  · obtain ⟨v, p, u, wk, rfl, _⟩ := h
    rfl
  obtain ⟨v, p, u, wk, rfl, hp, ok, hw, hcan, q⟩ := h
  have nd := sc_cost.nd
  refine ⟨_, (pss_cons (ps_expr (C8.pe_c c_check_plan hr (by decide) rfl (pa_cons (pv 0) pa_nil)))
    (pss_cons (ps_expr (pe_cX x_check_work hr (by decide) rfl passX (pa_cons (pv 0) (pa_cons (pv 1) pa_nil)))) psF)), ?_⟩
  refine ⟨_, rfl, v, p, rfl, hp, ok, fun H1 s1 => ?_⟩
  refine ⟨_, rfl, _, rfl, v, p, u, wk, rfl, hp.mono s1, ok, hw.mono s1, hcan, ?_⟩
  unfold noW at q ⊢
  cases hb : (wk.fx 1 0).1 with
  | some b =>
    rw [hb] at q
    exact badNo.mono q s1
  | none =>
    rw [hb] at q
    exact q.elim
theorem okx_written {D0 : Addr} (D : Dn K mg "written" s_written P_written) (g : Gx mg) (c_check_plan : C8.Cal P w K mg base 3 "check_plan" spChPlan []) (x_check_work : CalX P w K mg base 3 "check_work" (spChWorkY D0)) : CalX P w K mg base 4 "written" (spCostY D0) := by
  refine D.calX sc_written (fun vs H Q E h => ?_) (fun f cdv A outer s H vs Q E hr h => ?_)
  · obtain ⟨v, p, u, wk, rfl, _⟩ := h
    rfl
  obtain ⟨v, p, u, wk, rfl, hp, ok, hw, hcan, q⟩ := h
  have nd := sc_written.nd
  refine ⟨_, (pss_cons (ps_expr (C8.pe_c c_check_plan hr (by decide) rfl (pa_cons (pv 0) pa_nil)))
    (pss_cons (ps_expr (pe_cX x_check_work hr (by decide) rfl passX (pa_cons (pv 0) (pa_cons (pv 1) pa_nil)))) psF)), ?_⟩
  refine ⟨_, rfl, v, p, rfl, hp, ok, fun H1 s1 => ?_⟩
  refine ⟨_, rfl, _, rfl, v, p, u, wk, rfl, hp.mono s1, ok, hw.mono s1, hcan, ?_⟩
  unfold noW at q ⊢
  cases hb : (wk.fx 1 0).1 with
  | some b =>
    rw [hb] at q
    exact badNo.mono q s1
  | none =>
    rw [hb] at q
    exact q.elim
theorem okx_run {D0 D1 : Addr} (D : Dn K mg "run" s_run P_run) (g : Gx mg) (c_check_plan : C8.Cal P w K mg base 3 "check_plan" spChPlan []) (x_check_work : CalX P w K mg base 3 "check_work" (spChWorkY D0)) (x_check_stack : CalX P w K mg base 3 "check_stack" (spChStackY D1)) : CalX P w K mg base 4 "run" (spRunY D0 D1) := by
  refine D.calX sc_run (fun vs H Q E h => ?_) (fun f cdv A outer s H vs Q E hr h => ?_)
  · obtain ⟨v, p, u, wk, x, rfl, _⟩ := h
    rfl
  obtain ⟨v, p, u, wk, x, rfl, hp, ok, hw, hcan, q⟩ := h
  have nd := sc_run.nd
  refine ⟨_, (pss_cons (ps_expr (C8.pe_c c_check_plan hr (by decide) rfl (pa_cons (pv 0) pa_nil)))
    (pss_cons (ps_expr (pe_cX x_check_work hr (by decide) rfl passX (pa_cons (pv 0) (pa_cons (pv 1) pa_nil))))
    (pss_cons (ps_expr (pe_cX x_check_stack hr (by decide) rfl passX (pa_cons (pv 0) (pa_cons (pv 2) pa_nil)))) psF))), ?_⟩
  refine ⟨_, rfl, v, p, rfl, hp, ok, fun H1 s1 => ?_⟩
  refine ⟨_, rfl, _, rfl, v, p, u, wk, rfl, hp.mono s1, ok, hw.mono s1, hcan, ?_⟩
  unfold noW at q ⊢
  cases hb : (wk.fx 1 0).1 with
  | some b =>
    rw [hb] at q
    exact badNo.mono q s1
  | none =>
    rw [hb] at q
    intro H2 s2
    have s12 := s1.trans s2
    exact ⟨_, rfl, _, rfl, v, p, x, false, rfl, hp.mono s12, ok, q.1.mono s12, noP.mono q.2 s12⟩
theorem okx_alike {D0 : Addr} (D : Dn K mg "alike" s_alike P_alike) (g : Gx mg) (c_check_plan : C8.Cal P w K mg base 3 "check_plan" spChPlan []) (x_check_work : CalX P w K mg base 3 "check_work" (spChWorkY D0)) : CalX P w K mg base 4 "alike" (spTwoY D0) := by
  refine D.calX sc_alike (fun vs H Q E h => ?_) (fun f cdv A outer s H vs Q E hr h => ?_)
  · obtain ⟨v, p, u, wk, x, rfl, _⟩ := h
    rfl
  obtain ⟨v, p, u, wk, x, rfl, hp, ok, hw, hcan, q⟩ := h
  have nd := sc_alike.nd
  refine ⟨_, (pss_cons (ps_expr (C8.pe_c c_check_plan hr (by decide) rfl (pa_cons (pv 0) pa_nil)))
    (pss_cons (ps_expr (pe_cX x_check_work hr (by decide) rfl passX (pa_cons (pv 0) (pa_cons (pv 1) pa_nil))))
    (pss_cons (ps_expr (pe_cX x_check_work hr (by decide) rfl passX (pa_cons (pv 0) (pa_cons (pv 2) pa_nil)))) psF))), ?_⟩
  refine ⟨_, rfl, v, p, rfl, hp, ok, fun H1 s1 => ?_⟩
  refine ⟨_, rfl, _, rfl, v, p, u, wk, rfl, hp.mono s1, ok, hw.mono s1, hcan, ?_⟩
  unfold noW at q ⊢
  cases hb : (wk.fx 1 0).1 with
  | some b =>
    rw [hb] at q
    exact badNo.mono q s1
  | none =>
    rw [hb] at q
    intro H2 s2
    have s12 := s1.trans s2
    obtain ⟨w2, hw2, hcan2, q⟩ := q
    refine ⟨_, rfl, _, rfl, v, p, x, w2, rfl, hp.mono s12, ok, hw2.mono s12, hcan2, ?_⟩
    unfold noW
    cases hb2 : (w2.fx 1 0).1 with
    | some b =>
      rw [hb2] at q
      exact badNo.mono q s12
    | none =>
      rw [hb2] at q
      exact q.elim
theorem okx_parting {D0 : Addr} (D : Dn K mg "parting" s_parting P_parting) (g : Gx mg) (c_check_plan : C8.Cal P w K mg base 3 "check_plan" spChPlan []) (x_check_work : CalX P w K mg base 3 "check_work" (spChWorkY D0)) : CalX P w K mg base 4 "parting" (spTwoY D0) := by
  refine D.calX sc_parting (fun vs H Q E h => ?_) (fun f cdv A outer s H vs Q E hr h => ?_)
  · obtain ⟨v, p, u, wk, x, rfl, _⟩ := h
    rfl
  obtain ⟨v, p, u, wk, x, rfl, hp, ok, hw, hcan, q⟩ := h
  have nd := sc_parting.nd
  refine ⟨_, (pss_cons (ps_expr (C8.pe_c c_check_plan hr (by decide) rfl (pa_cons (pv 0) pa_nil)))
    (pss_cons (ps_expr (pe_cX x_check_work hr (by decide) rfl passX (pa_cons (pv 0) (pa_cons (pv 1) pa_nil))))
    (pss_cons (ps_expr (pe_cX x_check_work hr (by decide) rfl passX (pa_cons (pv 0) (pa_cons (pv 2) pa_nil)))) psF))), ?_⟩
  refine ⟨_, rfl, v, p, rfl, hp, ok, fun H1 s1 => ?_⟩
  refine ⟨_, rfl, _, rfl, v, p, u, wk, rfl, hp.mono s1, ok, hw.mono s1, hcan, ?_⟩
  unfold noW at q ⊢
  cases hb : (wk.fx 1 0).1 with
  | some b =>
    rw [hb] at q
    exact badNo.mono q s1
  | none =>
    rw [hb] at q
    intro H2 s2
    have s12 := s1.trans s2
    obtain ⟨w2, hw2, hcan2, q⟩ := q
    refine ⟨_, rfl, _, rfl, v, p, x, w2, rfl, hp.mono s12, ok, hw2.mono s12, hcan2, ?_⟩
    unfold noW
    cases hb2 : (w2.fx 1 0).1 with
    | some b =>
      rw [hb2] at q
      exact badNo.mono q s12
    | none =>
      rw [hb2] at q
      exact q.elim
theorem okx_M_do {D0 : Addr} (D : Dm K C "do" "Machine.do" s_M_do P_M_do) (T : MT K C) (g : Gx mg) (x_check_work : CalX P w K mg base 3 "check_work" (spChWorkY D0)) : MetX P w K mg base 4 C "do" (spMDoY C D0) := by
  refine D.metX T.cl sc_M_do (fun vs H Q E h => ?_) (fun f cdv A outer s H vs Q E hr h => ?_)
  · obtain ⟨x, pa, m, u, wk, rfl, _⟩ := h
    rfl
  obtain ⟨x, pa, m, u, wk, rfl, M, ok, hw, hcan, q⟩ := h
  have nd := sc_M_do.nd
  refine ⟨_, (pss_cons (ps_expr (pe_cX x_check_work hr (by decide) rfl passX (pa_cons (pe_fld (pv 0) rfl) (pa_cons (pv 1) pa_nil)))) psF), ?_⟩
  obtain ⟨⟨dx, pv, tv, hx, hpv, htv⟩, xs, hpa, hP⟩ := id M
  refine ⟨_, rfl, x, C, dx, _, _, rfl, hx, T.cl, T.nPlan, mf_plan, _, rfl, pv, m.p, u, wk, rfl, hpv, ok, hw, hcan, ?_⟩
  unfold noW at q ⊢
  cases hb : (wk.fx 1 0).1 with
  | some b =>
    rw [hb] at q
    exact q
  | none =>
    rw [hb] at q
    exact q.elim
theorem s_4_pu : (if false = true then !L2.inV (V.str "push") [.str "push", .str "pop", .str "row", .str "times"] else L2.inV (V.str "push") [.str "push", .str "pop", .str "row", .str "times"]) = true := by decide +kernel
theorem s_4_po : (if false = true then !L2.inV (V.str "pop") [.str "push", .str "pop", .str "row", .str "times"] else L2.inV (V.str "pop") [.str "push", .str "pop", .str "row", .str "times"]) = true := by decide +kernel
theorem s_4_ro : (if false = true then !L2.inV (V.str "row") [.str "push", .str "pop", .str "row", .str "times"] else L2.inV (V.str "row") [.str "push", .str "pop", .str "row", .str "times"]) = true := by decide +kernel
theorem s_4_ti : (if false = true then !L2.inV (V.str "times") [.str "push", .str "pop", .str "row", .str "times"] else L2.inV (V.str "times") [.str "push", .str "pop", .str "row", .str "times"]) = true := by decide +kernel
theorem s_4_P : (if false = true then !L2.inV (V.str "Pop") [.str "push", .str "pop", .str "row", .str "times"] else L2.inV (V.str "Pop") [.str "push", .str "pop", .str "row", .str "times"]) = false := by decide +kernel
theorem in45 : (10 : Int) ^ (18 : Int).toNat = 1000000000000000000 := by decide
theorem in45p : (0 : Int) ≤ 18 ∧ (18 : Int) ≤ 1000000 ∧ (10 : Int).natAbs < 2 ^ 64 := by decide
theorem ofL_list : ∀ ws : Ws, ofL ws.list = ws
  | .nil => rfl
  | .cons w r => by
    show Ws.cons w (ofL r.list) = _
    rw [ofL_list r]
theorem ok_law_first (D : Dn K mg "_law_first" s_law_first P_law_first) (g : Gx mg) : ∀ n, C8.Cal P w K mg base (n + 0) "_law_first" (spFirst n) []
  | 0 => by
    obtain ⟨f, fd, F, hm, b⟩ := D.ex
    exact ⟨f, fd, _, [], (⟨fun vs H Q E h => absurd h (no_spFirst vs H Q E), fun A outer s H args us vs Q E _ _ _ _ h => absurd h (no_spFirst vs H Q E)⟩ : FnOk _ _ _ _ _ _ _ _ _ _ _), hm, F.kp, b, .nil⟩
  | n + 1 => by
    have c_law_first := ok_law_first D g n
    refine D.cal sc_law_first (fun vs H Q E h => ?_) (fun f cdv A outer s H vs Q E hr h => ?_)
    · obtain ⟨v, p, u, wk, d, a, rfl, hp, ok, hw, hcan, h1, h2, h3, h4, q⟩ := h
      rfl
    obtain ⟨v, p, u, wk, d, a, rfl, hp, ok, hw, hcan, h1, h2, h3, h4, q⟩ := h
    have nd := sc_law_first.nd
    refine ⟨_, (pss_cons (ps_par (i := 4) (j := 5) (by rfl) nd rfl rfl (by omega) rfl rfl (pa_cons (pe_and (pe_callB call_isi rfl g.isi b_isi (pa_cons (pv 1) (pa_cons (pe_bltn (v := .ty "tuple") rfl g.tuple b_tuple rfl) pa_nil))) (pe_and (pe_cmpR (op_neT0 hr.units) (pv 1) (pe_tup pa_nil) (nomark _)) (pe_one (pe_cmpR op_in_seq (pe_ix ix_tup (pv 1) pe_int (fun _ _ => rfl)) (pe_tup (pa_cons pe_str (pa_cons pe_str (pa_cons pe_str (pa_cons pe_str pa_nil))))) rfl)))) (pa_cons (pe_tup pa_nil) pa_nil)) (by rfl))
      (pss_cons (ps_if (PW.pt (pw_and (pt_val (pv 4)) (pw_and1 (pt_cmpR op_eq (pe_ix ix_tup (pv 1) pe_int (fun _ _ => rfl)) pe_str (nomark _))))) (pss_one (ps_set (i := 4) nd rfl (.inl rfl) (pe_and (pe_cmpR op_eq (pe_callB call_len_seq rfl g.len PySem.boot_len (pa_cons (pv 1) pa_nil)) pe_int (nomark _)) (pe_one (pe_cmpR op_in_seq (pe_ix ix_tup (pv 1) pe_int (fun _ _ => rfl)) (pe_callTy (call_listS rfl) rfl g.list b_list (pa_cons (pe_slice sl_str pe_str po_none (po_some (pe_ix ix_tup (pv 0) pe_int (fun _ _ => rfl)))) pa_nil)) rfl))))) (pss_one (ps_if (PW.pt (pw_and (pt_val (pv 4)) (pw_and1 (pt_cmpR op_eq (pe_ix ix_tup (pv 1) pe_int (fun _ _ => rfl)) pe_str (nomark _))))) (pss_one (ps_set (i := 4) nd rfl (.inl rfl) (pe_cmpR op_eq (pe_callB call_len_seq rfl g.len PySem.boot_len (pa_cons (pv 1) pa_nil)) pe_int (nomark _)))) (pss_one (ps_if (PW.pt (pw_and (pt_val (pv 4)) (pw_and1 (pt_cmpR op_eq (pe_ix ix_tup (pv 1) pe_int (fun _ _ => rfl)) pe_str (nomark _))))) (pss_cons (ps_set (i := 4) nd rfl (.inl rfl) (pe_and (pe_cmpR op_eq (pe_callB call_len_seq rfl g.len PySem.boot_len (pa_cons (pv 1) pa_nil)) pe_int (nomark _)) (pe_one (pe_callB call_isi rfl g.isi b_isi (pa_cons (pe_ix ix_tup (pv 1) pe_int (fun _ _ => rfl)) (pa_cons (pe_bltn (v := .ty "tuple") rfl g.tuple b_tuple rfl) pa_nil))))))
      (pss_one (ps_set (i := 5) nd rfl (.inl rfl) (pe_ifExp (pt_val (pv 4)) (pe_ix ix_tup (pv 1) pe_int (fun _ _ => rfl)) (pe_tup pa_nil))))) (pss_one (ps_if (pt_val (pv 4)) (pss_cons (ps_set (i := 4) nd rfl (.inl rfl) (pe_and (pe_cmpR op_eq (pe_callB call_len_seq rfl g.len PySem.boot_len (pa_cons (pv 1) pa_nil)) pe_int (nomark _)) (pe_and (pe_callB call_isi rfl g.isi b_isi (pa_cons (pe_ix ix_tup (pv 1) pe_int (fun _ _ => rfl)) (pa_cons (pe_bltn (v := .ty "int") rfl g.int b_int rfl) pa_nil))) (pe_one (pe_not (pe_callB call_isi rfl g.isi b_isi (pa_cons (pe_ix ix_tup (pv 1) pe_int (fun _ _ => rfl)) (pa_cons (pe_bltn (v := .ty "bool") rfl g.bool b_bool rfl) pa_nil))))))))
      (pss_cons (ps_set (i := 4) nd rfl (.inl rfl) (pe_and (pv 4) (pe_one (pe_chain op_le op_le pe_int (pe_ix ix_tup (pv 1) pe_int (fun _ _ => rfl)) (pe_op op_pow pe_int pe_int)))))
      (pss_one (ps_set (i := 5) nd rfl (.inl rfl) (pe_ifExp (pt_val (pv 4)) (pe_tup (pa_cons (pe_ix ix_tup (pv 1) pe_int (fun _ _ => rfl)) pa_nil)) (pe_tup pa_nil)))))) pss_nil)))))))
      (pss_cons (ps_if (PW.pt (pw_or (pt_not (pt_val (pv 4))) (pw_or (pt_cmpR op_gt (pv 2) pe_int (nomark _)) (pw_or1 (pt_cmpR op_ge (pv 3) pe_int (nomark _)))))) (pss_one (ps_ret (pe_tup (pa_cons (pv 3) (pa_cons (pv 3) pa_nil))))) pss_nil)
      (pss_cons (ps_set (i := 3) nd rfl (.inl rfl) (pe_op op_add (pv 3) pe_int))
      (pss_cons (ps_for PassesOwn.never rfl (pi_tup (pv 5)) (pg_name (i := 6) nd rfl (.inl rfl)) (pss_cons (ps_asg (C8.pe_c c_law_first hr (by omega) rfl (pa_cons (pv 0) (pa_cons (pv 6) (pa_cons (pe_op op_add (pv 2) pe_int) (pa_cons (pv 3) pa_nil))))) (pg_tup (by rfl) (pgs_cons (pg_name (i := 7) nd rfl (.inl rfl)) (pgs_cons (pg_name (i := 3) nd rfl (.inl rfl)) pgs_nil))))
      (pss_one (ps_if (pt_cmpR op_notN (pv 7) pe_non (nomark _)) (pss_one (ps_ret (pe_tup (pa_cons (pv 7) (pa_cons (pv 3) pa_nil))))) pss_nil))))
      (pss_one (ps_ret (pe_tup (pa_cons pe_non (pa_cons (pv 3) pa_nil)))))))))), ?_⟩
    obtain ⟨a0, b0, rfl, ha0, hb0⟩ := id hp
    refine seq_by2 (fun σ' H' => ∃ (b : Bool) (I : Addr) (xs : List V), σ' = [some (.ref a0), some u, some (.int (d : Int)), some (.int (a : Int)), some (.bl b), some (.ref I), none, none] ∧ Same H H' ∧ H' I = some (.tup xs) ∧ b = !wk.bad ∧ (b = true → XsAt H' wk.within xs)) (fun R hR => ?_) (fun σ' H' hG => ?_)
    · cases wk with
      | push c =>
        rcases hw with ⟨hc, hb⟩ | ⟨hc, A, rfl, ha⟩
        · have eb : W.bad (.push c) = true := decide_eq_true hc
          rcases hb with rfl | ⟨z, rfl⟩ | ⟨A, rfl, ha⟩ | ⟨A, xs, rfl, ha, hb⟩
          · refine ⟨_, rfl, _, _, _, _, _, rfl, .ty "tuple", ty_non, kit_ty k_non_tup, _, rfl, iteF ?_⟩
            have sB := Same.refl H
            refine ⟨by show 0 ≤ sizeLine; decide, fun I hI => ⟨_, _, rfl, ?_⟩⟩
            have sI := sB.trans (Same.new hI (.tup []))
            have hI0 : upd H I (.tup []) I = some (.tup []) := upd_same
            generalize upd H I (.tup []) = H3 at sI hI0
            refine ⟨_, rfl, _, rfl, iteF ?_⟩
            refine ⟨_, rfl, _, rfl, iteF ?_⟩
            refine ⟨_, rfl, _, rfl, iteF ?_⟩
            refine ⟨_, rfl, _, rfl, iteF ?_⟩
            exact hR _ _ ⟨false, I, [], rfl, sI, hI0, by rw [eb]; rfl, fun z => by cases z⟩
          · refine ⟨_, rfl, _, _, _, _, _, rfl, .ty "tuple", ty_str, kit_ty k_str_tup, _, rfl, iteF ?_⟩
            have sB := Same.refl H
            refine ⟨by show 0 ≤ sizeLine; decide, fun I hI => ⟨_, _, rfl, ?_⟩⟩
            have sI := sB.trans (Same.new hI (.tup []))
            have hI0 : upd H I (.tup []) I = some (.tup []) := upd_same
            generalize upd H I (.tup []) = H3 at sI hI0
            refine ⟨_, rfl, _, rfl, iteF ?_⟩
            refine ⟨_, rfl, _, rfl, iteF ?_⟩
            refine ⟨_, rfl, _, rfl, iteF ?_⟩
            refine ⟨_, rfl, _, rfl, iteF ?_⟩
            exact hR _ _ ⟨false, I, [], rfl, sI, hI0, by rw [eb]; rfl, fun z => by cases z⟩
          · refine ⟨_, rfl, _, _, _, _, _, rfl, .ty "tuple", ty_lst ha, kit_ty k_lst_tup, _, rfl, iteF ?_⟩
            have sB := Same.refl H
            refine ⟨by show 0 ≤ sizeLine; decide, fun I hI => ⟨_, _, rfl, ?_⟩⟩
            have sI := sB.trans (Same.new hI (.tup []))
            have hI0 : upd H I (.tup []) I = some (.tup []) := upd_same
            generalize upd H I (.tup []) = H3 at sI hI0
            refine ⟨_, rfl, _, rfl, iteF ?_⟩
            refine ⟨_, rfl, _, rfl, iteF ?_⟩
            refine ⟨_, rfl, _, rfl, iteF ?_⟩
            refine ⟨_, rfl, _, rfl, iteF ?_⟩
            exact hR _ _ ⟨false, I, [], rfl, sI, hI0, by rw [eb]; rfl, fun z => by cases z⟩
          rcases hb with rfl | rfl | ⟨y, rfl, hy⟩ | rfl | ⟨b, rfl, hb⟩ | ⟨i, z, rfl, hi⟩ | ⟨i, z, y, rfl⟩ | rfl
          · refine ⟨_, rfl, _, _, _, _, _, rfl, .ty "tuple", ty_tup ha, kit_ty k_tup_tup, _, rfl, iteT ?_⟩
            refine ⟨_, rfl, by show 0 ≤ sizeLine; decide, fun E0 hE0 => ?_⟩
            have sE := Same.new hE0 (.tup [])
            refine ⟨A, E0, _, rfl, rfl, SqT.of (sE _ _ ha), SqT.of upd_same, _, rfl, iteF ?_⟩
            generalize upd H E0 (.tup []) = H1 at sE
            refine ⟨by show 0 ≤ sizeLine; decide, fun I hI => ⟨_, _, rfl, ?_⟩⟩
            have sI := sE.trans (Same.new hI (.tup []))
            have hI0 : upd H1 I (.tup []) I = some (.tup []) := upd_same
            generalize upd H1 I (.tup []) = H3 at sI hI0
            refine ⟨_, rfl, _, rfl, iteF ?_⟩
            refine ⟨_, rfl, _, rfl, iteF ?_⟩
            refine ⟨_, rfl, _, rfl, iteF ?_⟩
            refine ⟨_, rfl, _, rfl, iteF ?_⟩
            exact hR _ _ ⟨false, I, [], rfl, sI, hI0, by rw [eb]; rfl, fun z => by cases z⟩
          · refine ⟨_, rfl, _, _, _, _, _, rfl, .ty "tuple", ty_tup ha, kit_ty k_tup_tup, _, rfl, iteT ?_⟩
            refine ⟨_, rfl, by show 0 ≤ sizeLine; decide, fun E0 hE0 => ?_⟩
            have sE := Same.new hE0 (.tup [])
            refine ⟨A, E0, _, rfl, rfl, SqT.of (sE _ _ ha), SqT.of upd_same, _, rfl, iteT ?_⟩
            generalize upd H E0 (.tup []) = H1 at sE
            refine ⟨_, rfl, A, _, 0, _, rfl, rfl, SqT.of (sE _ _ ha), rfl, by show 4 ≤ sizeLine; decide, fun W4 hW4 => ⟨W4, _, rfl, .inr (SqT.of upd_same), rfl, rfl, ?_⟩⟩
            rw [s_4_pu]
            have s4 := sE.trans (Same.new hW4 (.tup [.str "push", .str "pop", .str "row", .str "times"]))
            generalize upd H1 W4 _ = H2 at s4
            refine ⟨by show 0 ≤ sizeLine; decide, fun I hI => ⟨_, _, rfl, ?_⟩⟩
            have sI := s4.trans (Same.new hI (.tup []))
            have hI0 : upd H2 I (.tup []) I = some (.tup []) := upd_same
            generalize upd H2 I (.tup []) = H3 at sI hI0
            have ha := sI _ _ ha
            refine ⟨_, rfl, _, rfl, iteT ?_⟩
            refine ⟨_, rfl, A, _, 0, _, rfl, rfl, SqT.of ha, rfl, rfl, _, rfl, iteD rfl ?_⟩
            refine ⟨_, rfl, A, _, rfl, .inr (SqT.of ha), rfl, _, rfl, iteDF (by intro z; cases z) ?_⟩
            exact hR _ _ ⟨false, I, [], rfl, sI, hI0, by rw [eb]; rfl, fun z => by cases z⟩
          · refine ⟨_, rfl, _, _, _, _, _, rfl, .ty "tuple", ty_tup ha, kit_ty k_tup_tup, _, rfl, iteT ?_⟩
            refine ⟨_, rfl, by show 0 ≤ sizeLine; decide, fun E0 hE0 => ?_⟩
            have sE := Same.new hE0 (.tup [])
            refine ⟨A, E0, _, rfl, rfl, SqT.of (sE _ _ ha), SqT.of upd_same, _, rfl, iteT ?_⟩
            generalize upd H E0 (.tup []) = H1 at sE
            refine ⟨_, rfl, A, _, 0, _, rfl, rfl, SqT.of (sE _ _ ha), rfl, by show 4 ≤ sizeLine; decide, fun W4 hW4 => ⟨W4, _, rfl, .inr (SqT.of upd_same), rfl, rfl, ?_⟩⟩
            rw [s_4_pu]
            have s4 := sE.trans (Same.new hW4 (.tup [.str "push", .str "pop", .str "row", .str "times"]))
            generalize upd H1 W4 _ = H2 at s4
            refine ⟨by show 0 ≤ sizeLine; decide, fun I hI => ⟨_, _, rfl, ?_⟩⟩
            have sI := s4.trans (Same.new hI (.tup []))
            have hI0 : upd H2 I (.tup []) I = some (.tup []) := upd_same
            generalize upd H2 I (.tup []) = H3 at sI hI0
            have ha := sI _ _ ha
            refine ⟨_, rfl, _, rfl, iteT ?_⟩
            refine ⟨_, rfl, A, _, 0, _, rfl, rfl, SqT.of ha, rfl, rfl, _, rfl, iteD rfl ?_⟩
            refine ⟨_, rfl, A, _, rfl, .inr (SqT.of ha), rfl, _, rfl, iteD rfl ?_⟩
            refine ⟨_, rfl, A, _, 1, _, rfl, rfl, SqT.of ha, rfl, ?_⟩
            rw [s_abcd]
            refine ⟨_, rfl, a0, _, 1, _, rfl, rfl, SqT.of (sI _ _ ha0), rfl, _, rfl, _, rfl, sz (by decide), ?_⟩
            rw [cut_to (l := [97, 98, 99, 100]) (n := p.many) ok.m4]
            refine ⟨_, rfl, by rw [tx_len]; exact sz (by show (signs p.many).length ≤ _; have := signs_len p.many; omega), fun D0 hD0 => ?_⟩
            rw [tx_list]
            have sD := Same.new hD0 (.lst ((signs p.many).map fun c => V.str ⟨#[c]⟩))
            have hDD : upd H3 D0 (.lst ((signs p.many).map fun c => V.str ⟨#[c]⟩)) D0 = some (.lst ((signs p.many).map fun c => V.str (tx [c]))) := upd_same
            change upd H3 D0 (.lst (([97, 98, 99, 100].take p.many).map fun c => V.str ⟨#[c]⟩)) D0 = _ at hDD
            change Same H3 (upd H3 D0 (.lst (([97, 98, 99, 100].take p.many).map fun c => V.str ⟨#[c]⟩))) at sD
            generalize upd H3 D0 (.lst (([97, 98, 99, 100].take p.many).map fun c => V.str ⟨#[c]⟩)) = H4 at sD hDD ⊢
            refine ⟨D0, _, rfl, .inl (SqL.of hDD), (inV_odd hy p.many).2, flat_signs _, ?_⟩
            rw [(inV_odd hy p.many).1]
            exact hR _ _ ⟨false, I, [], rfl, sI.trans sD, sD _ _ hI0, by rw [eb]; rfl, fun z => by cases z⟩
          · refine ⟨_, rfl, _, _, _, _, _, rfl, .ty "tuple", ty_tup ha, kit_ty k_tup_tup, _, rfl, iteT ?_⟩
            refine ⟨_, rfl, by show 0 ≤ sizeLine; decide, fun E0 hE0 => ?_⟩
            have sE := Same.new hE0 (.tup [])
            refine ⟨A, E0, _, rfl, rfl, SqT.of (sE _ _ ha), SqT.of upd_same, _, rfl, iteT ?_⟩
            generalize upd H E0 (.tup []) = H1 at sE
            refine ⟨_, rfl, A, _, 0, _, rfl, rfl, SqT.of (sE _ _ ha), rfl, by show 4 ≤ sizeLine; decide, fun W4 hW4 => ⟨W4, _, rfl, .inr (SqT.of upd_same), rfl, rfl, ?_⟩⟩
            rw [s_4_po]
            have s4 := sE.trans (Same.new hW4 (.tup [.str "push", .str "pop", .str "row", .str "times"]))
            generalize upd H1 W4 _ = H2 at s4
            refine ⟨by show 0 ≤ sizeLine; decide, fun I hI => ⟨_, _, rfl, ?_⟩⟩
            have sI := s4.trans (Same.new hI (.tup []))
            have hI0 : upd H2 I (.tup []) I = some (.tup []) := upd_same
            generalize upd H2 I (.tup []) = H3 at sI hI0
            have ha := sI _ _ ha
            refine ⟨_, rfl, _, rfl, iteT ?_⟩
            refine ⟨_, rfl, A, _, 0, _, rfl, rfl, SqT.of ha, rfl, rfl, _, rfl, iteDF (vne s_po_pu) ?_⟩
            refine ⟨_, rfl, _, rfl, iteT ?_⟩
            refine ⟨_, rfl, A, _, 0, _, rfl, rfl, SqT.of ha, rfl, rfl, _, rfl, iteD rfl ?_⟩
            refine ⟨_, rfl, A, _, rfl, .inr (SqT.of ha), rfl, ?_⟩
            exact hR _ _ ⟨false, I, [], rfl, sI, hI0, by rw [eb]; rfl, fun z => by cases z⟩
          · refine ⟨_, rfl, _, _, _, _, _, rfl, .ty "tuple", ty_tup ha, kit_ty k_tup_tup, _, rfl, iteT ?_⟩
            refine ⟨_, rfl, by show 0 ≤ sizeLine; decide, fun E0 hE0 => ?_⟩
            have sE := Same.new hE0 (.tup [])
            refine ⟨A, E0, _, rfl, rfl, SqT.of (sE _ _ ha), SqT.of upd_same, _, rfl, iteT ?_⟩
            generalize upd H E0 (.tup []) = H1 at sE
            refine ⟨_, rfl, A, _, 0, _, rfl, rfl, SqT.of (sE _ _ ha), rfl, by show 4 ≤ sizeLine; decide, fun W4 hW4 => ⟨W4, _, rfl, .inr (SqT.of upd_same), rfl, rfl, ?_⟩⟩
            rw [s_4_ro]
            have s4 := sE.trans (Same.new hW4 (.tup [.str "push", .str "pop", .str "row", .str "times"]))
            generalize upd H1 W4 _ = H2 at s4
            refine ⟨by show 0 ≤ sizeLine; decide, fun I hI => ⟨_, _, rfl, ?_⟩⟩
            have sI := s4.trans (Same.new hI (.tup []))
            have hI0 : upd H2 I (.tup []) I = some (.tup []) := upd_same
            generalize upd H2 I (.tup []) = H3 at sI hI0
            have ha := sI _ _ ha
            refine ⟨_, rfl, _, rfl, iteT ?_⟩
            refine ⟨_, rfl, A, _, 0, _, rfl, rfl, SqT.of ha, rfl, rfl, _, rfl, iteDF (vne s_ro_pu) ?_⟩
            refine ⟨_, rfl, _, rfl, iteT ?_⟩
            refine ⟨_, rfl, A, _, 0, _, rfl, rfl, SqT.of ha, rfl, rfl, _, rfl, iteDF (vne s_ro_po) ?_⟩
            refine ⟨_, rfl, _, rfl, iteT ?_⟩
            refine ⟨_, rfl, A, _, 0, _, rfl, rfl, SqT.of ha, rfl, rfl, _, rfl, iteD rfl ?_⟩
            refine ⟨_, rfl, A, _, rfl, .inr (SqT.of ha), rfl, _, rfl, iteD rfl ?_⟩
            refine ⟨_, rfl, A, _, 1, _, rfl, rfl, SqT.of ha, rfl, _, _, _, _, _, rfl, .ty "tuple", ty_lst (sI _ _ hb), kit_ty k_lst_tup, ?_⟩
            refine ⟨_, rfl, _, rfl, iteF ?_⟩
            refine ⟨by show 0 ≤ sizeLine; decide, fun I2 hI2 => ?_⟩
            have sI2 := Same.new hI2 (.tup [])
            exact hR _ _ ⟨false, I2, [], rfl, sI.trans sI2, upd_same, by rw [eb]; rfl, fun z => by cases z⟩
          · refine ⟨_, rfl, _, _, _, _, _, rfl, .ty "tuple", ty_tup ha, kit_ty k_tup_tup, _, rfl, iteT ?_⟩
            refine ⟨_, rfl, by show 0 ≤ sizeLine; decide, fun E0 hE0 => ?_⟩
            have sE := Same.new hE0 (.tup [])
            refine ⟨A, E0, _, rfl, rfl, SqT.of (sE _ _ ha), SqT.of upd_same, _, rfl, iteT ?_⟩
            generalize upd H E0 (.tup []) = H1 at sE
            refine ⟨_, rfl, A, _, 0, _, rfl, rfl, SqT.of (sE _ _ ha), rfl, by show 4 ≤ sizeLine; decide, fun W4 hW4 => ⟨W4, _, rfl, .inr (SqT.of upd_same), rfl, rfl, ?_⟩⟩
            rw [s_4_ti]
            have s4 := sE.trans (Same.new hW4 (.tup [.str "push", .str "pop", .str "row", .str "times"]))
            generalize upd H1 W4 _ = H2 at s4
            refine ⟨by show 0 ≤ sizeLine; decide, fun I hI => ⟨_, _, rfl, ?_⟩⟩
            have sI := s4.trans (Same.new hI (.tup []))
            have hI0 : upd H2 I (.tup []) I = some (.tup []) := upd_same
            generalize upd H2 I (.tup []) = H3 at sI hI0
            have ha := sI _ _ ha
            refine ⟨_, rfl, _, rfl, iteT ?_⟩
            refine ⟨_, rfl, A, _, 0, _, rfl, rfl, SqT.of ha, rfl, rfl, _, rfl, iteDF (vne s_ti_pu) ?_⟩
            refine ⟨_, rfl, _, rfl, iteT ?_⟩
            refine ⟨_, rfl, A, _, 0, _, rfl, rfl, SqT.of ha, rfl, rfl, _, rfl, iteDF (vne s_ti_po) ?_⟩
            refine ⟨_, rfl, _, rfl, iteT ?_⟩
            refine ⟨_, rfl, A, _, 0, _, rfl, rfl, SqT.of ha, rfl, rfl, _, rfl, iteDF (vne s_ti_ro) ?_⟩
            refine ⟨_, rfl, _, rfl, iteT ?_⟩
            refine ⟨_, rfl, A, _, rfl, .inr (SqT.of ha), rfl, _, rfl, iteD rfl ?_⟩
            rcases hi with rfl | ⟨n, rfl, hn⟩
            · refine ⟨_, rfl, A, _, 1, _, rfl, rfl, SqT.of ha, rfl, _, _, _, _, _, rfl, .ty "int", ty_bl, kit_ty k_bool_int, _, rfl, iteT ?_⟩
              refine ⟨_, rfl, A, _, 1, _, rfl, rfl, SqT.of ha, rfl, _, _, _, _, _, rfl, .ty "bool", ty_bl, kit_ty k_bool_bool, _, rfl, ?_⟩
              refine ⟨_, rfl, _, rfl, iteF ?_⟩
              refine ⟨_, rfl, _, rfl, iteF ?_⟩
              refine ⟨by show 0 ≤ sizeLine; decide, fun I2 hI2 => ?_⟩
              have sI2 := Same.new hI2 (.tup [])
              exact hR _ _ ⟨false, I2, [], rfl, sI.trans sI2, upd_same, by rw [eb]; rfl, fun z => by cases z⟩
            · refine ⟨_, rfl, A, _, 1, _, rfl, rfl, SqT.of ha, rfl, _, _, _, _, _, rfl, .ty "int", ty_int, kit_ty k_int_int, _, rfl, iteT ?_⟩
              refine ⟨_, rfl, A, _, 1, _, rfl, rfl, SqT.of ha, rfl, _, _, _, _, _, rfl, .ty "bool", ty_int, kit_ty k_int_bool, _, rfl, ?_⟩
              refine ⟨_, rfl, _, rfl, iteT ?_⟩
              refine ⟨_, rfl, A, _, 1, _, rfl, rfl, SqT.of ha, rfl, _, _, rfl, rfl, _, rfl, ite2 (fun c0 => ?_) (fun c0 => ?_)⟩
              · have n0 : 0 ≤ n := of_decide_eq_true c0
                have n1 : ¬ n ≤ 1000000000000000000 := by omega
                refine ⟨_, _, rfl, rfl, in45p, _, _, rfl, rfl, ?_⟩
                rw [in45]
                dsimp only
                rw [decide_eq_false n1]
                refine ⟨_, rfl, _, rfl, iteF ?_⟩
                refine ⟨by show 0 ≤ sizeLine; decide, fun I2 hI2 => ?_⟩
                have sI2 := Same.new hI2 (.tup [])
                exact hR _ _ ⟨false, I2, [], rfl, sI.trans sI2, upd_same, by rw [eb]; rfl, fun z => by cases z⟩
              · have n0 : ¬ 0 ≤ n := fun z => c0 (decide_eq_true z)
                refine ⟨_, rfl, _, rfl, iteF ?_⟩
                refine ⟨by show 0 ≤ sizeLine; decide, fun I2 hI2 => ?_⟩
                have sI2 := Same.new hI2 (.tup [])
                exact hR _ _ ⟨false, I2, [], rfl, sI.trans sI2, upd_same, by rw [eb]; rfl, fun z => by cases z⟩
          · refine ⟨_, rfl, _, _, _, _, _, rfl, .ty "tuple", ty_tup ha, kit_ty k_tup_tup, _, rfl, iteT ?_⟩
            refine ⟨_, rfl, by show 0 ≤ sizeLine; decide, fun E0 hE0 => ?_⟩
            have sE := Same.new hE0 (.tup [])
            refine ⟨A, E0, _, rfl, rfl, SqT.of (sE _ _ ha), SqT.of upd_same, _, rfl, iteT ?_⟩
            generalize upd H E0 (.tup []) = H1 at sE
            refine ⟨_, rfl, A, _, 0, _, rfl, rfl, SqT.of (sE _ _ ha), rfl, by show 4 ≤ sizeLine; decide, fun W4 hW4 => ⟨W4, _, rfl, .inr (SqT.of upd_same), rfl, rfl, ?_⟩⟩
            rw [s_4_ti]
            have s4 := sE.trans (Same.new hW4 (.tup [.str "push", .str "pop", .str "row", .str "times"]))
            generalize upd H1 W4 _ = H2 at s4
            refine ⟨by show 0 ≤ sizeLine; decide, fun I hI => ⟨_, _, rfl, ?_⟩⟩
            have sI := s4.trans (Same.new hI (.tup []))
            have hI0 : upd H2 I (.tup []) I = some (.tup []) := upd_same
            generalize upd H2 I (.tup []) = H3 at sI hI0
            have ha := sI _ _ ha
            refine ⟨_, rfl, _, rfl, iteT ?_⟩
            refine ⟨_, rfl, A, _, 0, _, rfl, rfl, SqT.of ha, rfl, rfl, _, rfl, iteDF (vne s_ti_pu) ?_⟩
            refine ⟨_, rfl, _, rfl, iteT ?_⟩
            refine ⟨_, rfl, A, _, 0, _, rfl, rfl, SqT.of ha, rfl, rfl, _, rfl, iteDF (vne s_ti_po) ?_⟩
            refine ⟨_, rfl, _, rfl, iteT ?_⟩
            refine ⟨_, rfl, A, _, 0, _, rfl, rfl, SqT.of ha, rfl, rfl, _, rfl, iteDF (vne s_ti_ro) ?_⟩
            refine ⟨_, rfl, _, rfl, iteT ?_⟩
            refine ⟨_, rfl, A, _, rfl, .inr (SqT.of ha), rfl, _, rfl, iteDF (by intro z; cases z) ?_⟩
            refine ⟨_, rfl, _, rfl, iteF ?_⟩
            refine ⟨_, rfl, _, rfl, iteF ?_⟩
            refine ⟨by show 0 ≤ sizeLine; decide, fun I2 hI2 => ?_⟩
            have sI2 := Same.new hI2 (.tup [])
            exact hR _ _ ⟨false, I2, [], rfl, sI.trans sI2, upd_same, by rw [eb]; rfl, fun z => by cases z⟩
          · refine ⟨_, rfl, _, _, _, _, _, rfl, .ty "tuple", ty_tup ha, kit_ty k_tup_tup, _, rfl, iteT ?_⟩
            refine ⟨_, rfl, by show 0 ≤ sizeLine; decide, fun E0 hE0 => ?_⟩
            have sE := Same.new hE0 (.tup [])
            refine ⟨A, E0, _, rfl, rfl, SqT.of (sE _ _ ha), SqT.of upd_same, _, rfl, iteT ?_⟩
            generalize upd H E0 (.tup []) = H1 at sE
            refine ⟨_, rfl, A, _, 0, _, rfl, rfl, SqT.of (sE _ _ ha), rfl, by show 4 ≤ sizeLine; decide, fun W4 hW4 => ⟨W4, _, rfl, .inr (SqT.of upd_same), rfl, rfl, ?_⟩⟩
            rw [s_4_P]
            have s4 := sE.trans (Same.new hW4 (.tup [.str "push", .str "pop", .str "row", .str "times"]))
            generalize upd H1 W4 _ = H2 at s4
            refine ⟨by show 0 ≤ sizeLine; decide, fun I hI => ⟨_, _, rfl, ?_⟩⟩
            have sI := s4.trans (Same.new hI (.tup []))
            have hI0 : upd H2 I (.tup []) I = some (.tup []) := upd_same
            generalize upd H2 I (.tup []) = H3 at sI hI0
            refine ⟨_, rfl, _, rfl, iteF ?_⟩
            refine ⟨_, rfl, _, rfl, iteF ?_⟩
            refine ⟨_, rfl, _, rfl, iteF ?_⟩
            refine ⟨_, rfl, _, rfl, iteF ?_⟩
            exact hR _ _ ⟨false, I, [], rfl, sI, hI0, by rw [eb]; rfl, fun z => by cases z⟩
        · have hcs : c ∈ signs p.many := hcan.resolve_left (by omega)
          have eb : W.bad (.push c) = false := decide_eq_false (by omega)
          refine ⟨_, rfl, _, _, _, _, _, rfl, .ty "tuple", ty_tup ha, kit_ty k_tup_tup, _, rfl, iteT ?_⟩
          refine ⟨_, rfl, by show 0 ≤ sizeLine; decide, fun E0 hE0 => ?_⟩
          have sE := Same.new hE0 (.tup [])
          refine ⟨A, E0, _, rfl, rfl, SqT.of (sE _ _ ha), SqT.of upd_same, _, rfl, iteT ?_⟩
          generalize upd H E0 (.tup []) = H1 at sE
          refine ⟨_, rfl, A, _, 0, _, rfl, rfl, SqT.of (sE _ _ ha), rfl, by show 4 ≤ sizeLine; decide, fun W4 hW4 => ⟨W4, _, rfl, .inr (SqT.of upd_same), rfl, rfl, ?_⟩⟩
          rw [s_4_pu]
          have s4 := sE.trans (Same.new hW4 (.tup [.str "push", .str "pop", .str "row", .str "times"]))
          generalize upd H1 W4 _ = H2 at s4
          refine ⟨by show 0 ≤ sizeLine; decide, fun I hI => ⟨_, _, rfl, ?_⟩⟩
          have sI := s4.trans (Same.new hI (.tup []))
          have hI0 : upd H2 I (.tup []) I = some (.tup []) := upd_same
          generalize upd H2 I (.tup []) = H3 at sI hI0
          have ha := sI _ _ ha
          refine ⟨_, rfl, _, rfl, iteT ?_⟩
          refine ⟨_, rfl, A, _, 0, _, rfl, rfl, SqT.of ha, rfl, rfl, _, rfl, iteD rfl ?_⟩
          refine ⟨_, rfl, A, _, rfl, .inr (SqT.of ha), rfl, _, rfl, iteD rfl ?_⟩
          refine ⟨_, rfl, A, _, 1, _, rfl, rfl, SqT.of ha, rfl, ?_⟩
          rw [s_abcd]
          refine ⟨_, rfl, a0, _, 1, _, rfl, rfl, SqT.of (sI _ _ ha0), rfl, _, rfl, _, rfl, sz (by decide), ?_⟩
          rw [cut_to (l := [97, 98, 99, 100]) (n := p.many) ok.m4]
          refine ⟨_, rfl, by rw [tx_len]; exact sz (by show (signs p.many).length ≤ _; have := signs_len p.many; omega), fun D0 hD0 => ?_⟩
          rw [tx_list]
          have sD := Same.new hD0 (.lst ((signs p.many).map fun c => V.str ⟨#[c]⟩))
          have hDD : upd H3 D0 (.lst ((signs p.many).map fun c => V.str ⟨#[c]⟩)) D0 = some (.lst ((signs p.many).map fun c => V.str (tx [c]))) := upd_same
          change upd H3 D0 (.lst (([97, 98, 99, 100].take p.many).map fun c => V.str ⟨#[c]⟩)) D0 = _ at hDD
          change Same H3 (upd H3 D0 (.lst (([97, 98, 99, 100].take p.many).map fun c => V.str ⟨#[c]⟩))) at sD
          generalize upd H3 D0 (.lst (([97, 98, 99, 100].take p.many).map fun c => V.str ⟨#[c]⟩)) = H4 at sD hDD ⊢
          refine ⟨D0, _, rfl, .inl (SqL.of hDD), rfl, flat_signs _, ?_⟩
          rw [inV_sign hcs]
          exact hR _ _ ⟨true, I, [], rfl, sI.trans sD, sD _ _ hI0, by rw [eb]; rfl, fun _ => rfl⟩
      | pop =>
        obtain ⟨A, rfl, ha⟩ := hw
        refine ⟨_, rfl, _, _, _, _, _, rfl, .ty "tuple", ty_tup ha, kit_ty k_tup_tup, _, rfl, iteT ?_⟩
        refine ⟨_, rfl, by show 0 ≤ sizeLine; decide, fun E0 hE0 => ?_⟩
        have sE := Same.new hE0 (.tup [])
        refine ⟨A, E0, _, rfl, rfl, SqT.of (sE _ _ ha), SqT.of upd_same, _, rfl, iteT ?_⟩
        generalize upd H E0 (.tup []) = H1 at sE
        refine ⟨_, rfl, A, _, 0, _, rfl, rfl, SqT.of (sE _ _ ha), rfl, by show 4 ≤ sizeLine; decide, fun W4 hW4 => ⟨W4, _, rfl, .inr (SqT.of upd_same), rfl, rfl, ?_⟩⟩
        rw [s_4_po]
        have s4 := sE.trans (Same.new hW4 (.tup [.str "push", .str "pop", .str "row", .str "times"]))
        generalize upd H1 W4 _ = H2 at s4
        refine ⟨by show 0 ≤ sizeLine; decide, fun I hI => ⟨_, _, rfl, ?_⟩⟩
        have sI := s4.trans (Same.new hI (.tup []))
        have hI0 : upd H2 I (.tup []) I = some (.tup []) := upd_same
        generalize upd H2 I (.tup []) = H3 at sI hI0
        have ha := sI _ _ ha
        refine ⟨_, rfl, _, rfl, iteT ?_⟩
        refine ⟨_, rfl, A, _, 0, _, rfl, rfl, SqT.of ha, rfl, rfl, _, rfl, iteDF (vne s_po_pu) ?_⟩
        refine ⟨_, rfl, _, rfl, iteT ?_⟩
        refine ⟨_, rfl, A, _, 0, _, rfl, rfl, SqT.of ha, rfl, rfl, _, rfl, iteD rfl ?_⟩
        refine ⟨_, rfl, A, _, rfl, .inr (SqT.of ha), rfl, ?_⟩
        exact hR _ _ ⟨true, I, [], rfl, sI, hI0, rfl, fun _ => rfl⟩
      | row ws =>
        obtain ⟨A, b, vs, rfl, ha, hb, hws⟩ := hw
        refine ⟨_, rfl, _, _, _, _, _, rfl, .ty "tuple", ty_tup ha, kit_ty k_tup_tup, _, rfl, iteT ?_⟩
        refine ⟨_, rfl, by show 0 ≤ sizeLine; decide, fun E0 hE0 => ?_⟩
        have sE := Same.new hE0 (.tup [])
        refine ⟨A, E0, _, rfl, rfl, SqT.of (sE _ _ ha), SqT.of upd_same, _, rfl, iteT ?_⟩
        generalize upd H E0 (.tup []) = H1 at sE
        refine ⟨_, rfl, A, _, 0, _, rfl, rfl, SqT.of (sE _ _ ha), rfl, by show 4 ≤ sizeLine; decide, fun W4 hW4 => ⟨W4, _, rfl, .inr (SqT.of upd_same), rfl, rfl, ?_⟩⟩
        rw [s_4_ro]
        have s4 := sE.trans (Same.new hW4 (.tup [.str "push", .str "pop", .str "row", .str "times"]))
        generalize upd H1 W4 _ = H2 at s4
        refine ⟨by show 0 ≤ sizeLine; decide, fun I hI => ⟨_, _, rfl, ?_⟩⟩
        have sI := s4.trans (Same.new hI (.tup []))
        have hI0 : upd H2 I (.tup []) I = some (.tup []) := upd_same
        generalize upd H2 I (.tup []) = H3 at sI hI0
        have ha := sI _ _ ha
        refine ⟨_, rfl, _, rfl, iteT ?_⟩
        refine ⟨_, rfl, A, _, 0, _, rfl, rfl, SqT.of ha, rfl, rfl, _, rfl, iteDF (vne s_ro_pu) ?_⟩
        refine ⟨_, rfl, _, rfl, iteT ?_⟩
        refine ⟨_, rfl, A, _, 0, _, rfl, rfl, SqT.of ha, rfl, rfl, _, rfl, iteDF (vne s_ro_po) ?_⟩
        refine ⟨_, rfl, _, rfl, iteT ?_⟩
        refine ⟨_, rfl, A, _, 0, _, rfl, rfl, SqT.of ha, rfl, rfl, _, rfl, iteD rfl ?_⟩
        refine ⟨_, rfl, A, _, rfl, .inr (SqT.of ha), rfl, _, rfl, iteD rfl ?_⟩
        refine ⟨_, rfl, A, _, 1, _, rfl, rfl, SqT.of ha, rfl, _, _, _, _, _, rfl, .ty "tuple", ty_tup (sI _ _ hb), kit_ty k_tup_tup, ?_⟩
        refine ⟨_, rfl, _, rfl, iteT ?_⟩
        refine ⟨_, rfl, A, _, 1, _, rfl, rfl, SqT.of ha, rfl, ?_⟩
        exact hR _ _ ⟨true, b, vs, rfl, sI, sI _ _ hb, rfl, fun _ => hws.nice (Nice.of sI)⟩
      | times n w' =>
        obtain ⟨A, u', rfl, ha, hu⟩ := hw
        obtain ⟨hn, _⟩ := hcan
        refine ⟨_, rfl, _, _, _, _, _, rfl, .ty "tuple", ty_tup ha, kit_ty k_tup_tup, _, rfl, iteT ?_⟩
        refine ⟨_, rfl, by show 0 ≤ sizeLine; decide, fun E0 hE0 => ?_⟩
        have sE := Same.new hE0 (.tup [])
        refine ⟨A, E0, _, rfl, rfl, SqT.of (sE _ _ ha), SqT.of upd_same, _, rfl, iteT ?_⟩
        generalize upd H E0 (.tup []) = H1 at sE
        refine ⟨_, rfl, A, _, 0, _, rfl, rfl, SqT.of (sE _ _ ha), rfl, by show 4 ≤ sizeLine; decide, fun W4 hW4 => ⟨W4, _, rfl, .inr (SqT.of upd_same), rfl, rfl, ?_⟩⟩
        rw [s_4_ti]
        have s4 := sE.trans (Same.new hW4 (.tup [.str "push", .str "pop", .str "row", .str "times"]))
        generalize upd H1 W4 _ = H2 at s4
        refine ⟨by show 0 ≤ sizeLine; decide, fun I hI => ⟨_, _, rfl, ?_⟩⟩
        have sI := s4.trans (Same.new hI (.tup []))
        have hI0 : upd H2 I (.tup []) I = some (.tup []) := upd_same
        generalize upd H2 I (.tup []) = H3 at sI hI0
        have ha := sI _ _ ha
        refine ⟨_, rfl, _, rfl, iteT ?_⟩
        refine ⟨_, rfl, A, _, 0, _, rfl, rfl, SqT.of ha, rfl, rfl, _, rfl, iteDF (vne s_ti_pu) ?_⟩
        refine ⟨_, rfl, _, rfl, iteT ?_⟩
        refine ⟨_, rfl, A, _, 0, _, rfl, rfl, SqT.of ha, rfl, rfl, _, rfl, iteDF (vne s_ti_po) ?_⟩
        refine ⟨_, rfl, _, rfl, iteT ?_⟩
        refine ⟨_, rfl, A, _, 0, _, rfl, rfl, SqT.of ha, rfl, rfl, _, rfl, iteDF (vne s_ti_ro) ?_⟩
        refine ⟨_, rfl, _, rfl, iteT ?_⟩
        refine ⟨_, rfl, A, _, rfl, .inr (SqT.of ha), rfl, _, rfl, iteD rfl ?_⟩
        refine ⟨_, rfl, A, _, 1, _, rfl, rfl, SqT.of ha, rfl, _, _, _, _, _, rfl, .ty "int", ty_int, kit_ty k_int_int, _, rfl, iteT ?_⟩
        refine ⟨_, rfl, A, _, 1, _, rfl, rfl, SqT.of ha, rfl, _, _, _, _, _, rfl, .ty "bool", ty_int, kit_ty k_int_bool, _, rfl, ?_⟩
        refine ⟨_, rfl, _, rfl, iteT ?_⟩
        refine ⟨_, rfl, A, _, 1, _, rfl, rfl, SqT.of ha, rfl, _, _, rfl, rfl, _, rfl, iteD (Int.natCast_nonneg _) ?_⟩
        refine ⟨_, _, rfl, rfl, in45p, _, _, rfl, rfl, ?_⟩
        rw [in45]
        dsimp only
        rw [decide_eq_true (show (n : Int) ≤ 1000000000000000000 by omega)]
        refine ⟨_, rfl, _, rfl, iteT ?_⟩
        refine ⟨_, rfl, A, _, 2, _, rfl, rfl, SqT.of ha, rfl, by show 1 ≤ sizeLine; decide, fun I2 hI2 => ?_⟩
        have sI2 := sI.trans (Same.new hI2 (.tup [u']))
        exact hR _ _ ⟨true, I2, [u'], rfl, sI2, upd_same, rfl, fun _ => ⟨u', [], rfl, hu.mono sI2, rfl⟩⟩
    · obtain ⟨b, I, xs, rfl, s1, hI, hb, hx⟩ := hG
      refine ⟨_, rfl, _, rfl, ?_⟩
      cases b with
      | false =>
        refine iteT ?_
        refine ⟨_, rfl, _, rfl, by show 2 ≤ sizeLine; decide, fun T hT => q T _ (s1.trans (Same.new hT _)) ?_⟩
        rw [W.fx_no (.inl (by cases hz : wk.bad with | true => rfl | false => rw [hz] at hb; cases hb))]
        exact upd_same
      | true =>
        have nb : wk.bad = false := by cases hz : wk.bad with | false => rfl | true => rw [hz] at hb; cases hb
        refine iteF ?_
        have ret : ∀ H1, Same H H1 → 8 < d ∨ 60 ≤ a → ∀ T, H1 T = none → upd H1 T (.tup [.int (a : Int), .int (a : Int)]) T = some (.tup [optI (wk.fx d a).1, .int (((wk.fx d a).2 : Nat) : Int)]) := fun H1 s z T hT => by
          rw [W.fx_no (.inr z)]
          exact upd_same
        refine ⟨_, rfl, _, _, rfl, rfl, _, rfl, ite2 (fun c8 => ?_) (fun c8 => ?_)⟩
        · have h8 : 8 < d := by
            have := of_decide_eq_true c8
            omega
          exact ⟨_, rfl, _, rfl, by show 2 ≤ sizeLine; decide, fun T hT => q T _ (s1.trans (Same.new hT _)) (ret _ s1 (.inl h8) T hT)⟩
        have h8 : ¬ 8 < d := fun z => c8 (decide_eq_true (by omega))
        refine ⟨_, rfl, _, _, rfl, rfl, _, rfl, ite2 (fun c6 => ?_) (fun c6 => ?_)⟩
        · have h6 : 60 ≤ a := by
            have := of_decide_eq_true c6
            omega
          exact ⟨_, rfl, _, rfl, by show 2 ≤ sizeLine; decide, fun T hT => q T _ (s1.trans (Same.new hT _)) (ret _ s1 (.inr h6) T hT)⟩
        have h6 : ¬ 60 ≤ a := fun z => c6 (decide_eq_true (by omega))
        have hfx := W.fx_yes (w := wk) (d := d) (a := a) (fun z => z.elim (fun z => by rw [nb] at z; cases z) fun z => z.elim h8 h6)
        refine ⟨_, rfl, _, _, rfl, rfl, ?_⟩
        refine gn ?_
        dsimp only
        refine ⟨_, rfl, I, rfl, ⟨_, SqT.of hI⟩, ?_⟩
        have hx := hx rfl
        have cw := within_xcan hcan
        have hl := hx.len
        refine for_it (walk_tup (K := K) (a := I) (xs := xs)) (fun i σ H2 => ∃ (ai : Nat) (o6 o7 : Option V), σ = [some (.ref a0), some u, some (.int (d : Int)), some (.int (ai : Int)), some (.bl true), some (.ref I), o6, o7] ∧ Same H' H2 ∧ ai ≤ 60 ∧ wk.within.fx (d + 1) (a + 1) = (ofL (wk.within.list.drop i)).fx (d + 1) ai)
          ⟨a + 1, none, none, rfl, Same.refl _, by omega, by rw [List.drop_zero, ofL_list]⟩ (fun i σ H2 _ ⟨_, _, _, _, s2, _⟩ => SqT.of (s2 _ _ hI)) ?_ ?_
        · rintro i x σ H2 H3 hi ⟨ai, o6, o7, rfl, s2, hai, hf⟩ ⟨rfl, hxi⟩
          obtain ⟨w2, hw2, hxa⟩ := hx.get hxi
          have hmem := List.mem_of_getElem? hw2
          obtain ⟨hlt, he⟩ := List.getElem?_eq_some_iff.mp hw2
          rw [List.drop_eq_getElem_cons hlt, he] at hf
          have hf : wk.within.fx (d + 1) (a + 1) = (Ws.cons w2 (ofL (wk.within.list.drop (i + 1)))).fx (d + 1) ai := hf
          rw [Ws.fx_cons] at hf
          have s02 := s1.trans s2
          refine ⟨_, rfl, _, rfl, _, rfl, _, _, rfl, rfl, _, rfl, .ref a0, p, x, w2, d + 1, ai, rfl, hp.mono s02, ok, hxa.mono s2, Ws.xcan_mem cw hmem, by omega, by omega, by omega, hai, fun T2 H4 s4 hT2 => ?_⟩
          refine ⟨T2, _, rfl, SqT.of hT2, rfl, _, _, rfl, _, _, rfl, rfl, ?_⟩
          refine ⟨_, rfl, rfl, _, rfl, ?_⟩
          cases hw : w2.fx (d + 1) ai with
          | mk b a2 =>
            rw [hw] at hf
            cases b with
            | some b =>
              have e : (!decide (optI (some b) = V.non)) = true := rfl
              dsimp only
              rw [e]
              refine iteT ?_
              refine ⟨_, rfl, _, rfl, by show 2 ≤ sizeLine; decide, fun T hT => q T _ (s02.trans (s4.trans (Same.new hT _))) ?_⟩
              rw [hfx, hf]
              exact upd_same
            | none =>
              refine iteF ?_
              exact ⟨a2, _, _, rfl, s2.trans s4, W.fx_le hai hw, hf⟩
        · rintro σ H2 ⟨ai, o6, o7, rfl, s2, hai, hf⟩
          rw [hl, List.drop_length] at hf
          have hf : wk.within.fx (d + 1) (a + 1) = Ws.nil.fx (d + 1) ai := hf
          rw [Ws.fx_nil] at hf
          refine ⟨_, rfl, by show 2 ≤ sizeLine; decide, fun T hT => q T _ (s1.trans (s2.trans (Same.new hT _))) ?_⟩
          rw [hfx, hf]
          exact upd_same
theorem s_2_pu : (if false = true then !L2.inV (V.str "push") [.str "push", .str "pop"] else L2.inV (V.str "push") [.str "push", .str "pop"]) = true := by decide +kernel
theorem s_2_po : (if false = true then !L2.inV (V.str "pop") [.str "push", .str "pop"] else L2.inV (V.str "pop") [.str "push", .str "pop"]) = true := by decide +kernel
theorem s_2_ro : (if false = true then !L2.inV (V.str "row") [.str "push", .str "pop"] else L2.inV (V.str "row") [.str "push", .str "pop"]) = false := by decide +kernel
theorem s_2_ti : (if false = true then !L2.inV (V.str "times") [.str "push", .str "pop"] else L2.inV (V.str "times") [.str "push", .str "pop"]) = false := by decide +kernel
theorem ok_law_spoilt (D : Dn K mg "_law_spoilt" s_law_spoilt P_law_spoilt) (g : Gx mg) (c_law_take : C8.Cal P w K mg base 1 "_law_take" spTake []) : ∀ n, C8.Cal P w K mg base (n + 1) "_law_spoilt" (spSpoilt n) []
  | 0 => by
    obtain ⟨f, fd, F, hm, b⟩ := D.ex
    exact ⟨f, fd, _, [], (⟨fun vs H Q E h => absurd h (no_spSpoilt vs H Q E), fun A outer s H args us vs Q E _ _ _ _ h => absurd h (no_spSpoilt vs H Q E)⟩ : FnOk _ _ _ _ _ _ _ _ _ _ _), hm, F.kp, b, .nil⟩
  | n + 1 => by
    have c_law_spoilt := ok_law_spoilt D g c_law_take n
    refine D.cal sc_law_spoilt (fun vs H Q E h => ?_) (fun f cdv A outer s H vs Q E hr h => ?_)
    · obtain ⟨p, q, ns, z, v, pl, u, wk, o, wo, rfl, B, hp, ok, hw, can, hd, ho, hco, qq⟩ := h
      rfl
    obtain ⟨p, q, ns, z, v, pl, u, wk, o, wo, rfl, B, hp, ok, hw, can, hd, ho, hco, qq⟩ := h
    have nd := sc_law_spoilt.nd
    refine ⟨_, (pss_cons (ps_set (i := 4) nd rfl (.inl rfl) (C8.pe_c c_law_take hr (by omega) rfl (pa_cons (pv 0) (pa_cons pe_int pa_nil))))
      (pss_cons (ps_if (PW.pt (pw_or (pt_cmpR op_eq (pv 4) pe_int (nomark _)) (pw_or (pt_cmpR op_in_seq (pe_ix ix_tup (pv 2) pe_int (fun _ _ => rfl)) (pe_tup (pa_cons pe_str (pa_cons pe_str pa_nil))) rfl) (pw_or1 (PW.pt (pw_and (pt_cmpR op_eq (pe_ix ix_tup (pv 2) pe_int (fun _ _ => rfl)) pe_str (nomark _)) (pw_and1 (pt_cmpR (op_eqT0 hr.units) (pe_ix ix_tup (pv 2) pe_int (fun _ _ => rfl)) (pe_tup pa_nil) (nomark _))))))))) (pss_one (ps_ret (pv 3))) pss_nil)
      (pss_cons (ps_if (pt_cmpR op_eq (pe_ix ix_tup (pv 2) pe_int (fun _ _ => rfl)) pe_str (nomark _)) (pss_one (ps_ret (pe_tup (pa_cons pe_str (pa_cons (pe_ix ix_tup (pv 2) pe_int (fun _ _ => rfl)) (pa_cons (C8.pe_c c_law_spoilt hr (by omega) rfl (pa_cons (pv 0) (pa_cons (pv 1) (pa_cons (pe_ix ix_tup (pv 2) pe_int (fun _ _ => rfl)) (pa_cons (pv 3) pa_nil))))) pa_nil)))))) pss_nil)
      (pss_cons (ps_set (i := 5) nd rfl (.inl rfl) (C8.pe_c c_law_take hr (by omega) rfl (pa_cons (pv 0) (pa_cons (pe_callB call_len rfl g.len PySem.boot_len (pa_cons (pe_ix ix_tup (pv 2) pe_int (fun _ _ => rfl)) pa_nil)) pa_nil))))
      (pss_one (ps_ret (pe_tup (pa_cons pe_str (pa_cons (pe_op op_catA (pe_op op_catA (pe_slice sl_tupA (pe_ix ix_tup (pv 2) pe_int (fun _ _ => rfl)) po_none (po_some (pv 5))) (pe_tup (pa_cons (C8.pe_c c_law_spoilt hr (by omega) rfl (pa_cons (pv 0) (pa_cons (pv 1) (pa_cons (pe_ix ix_seq (pe_ix ix_tup (pv 2) pe_int (fun _ _ => rfl)) (pv 5) (fun _ _ => rfl)) (pa_cons (pv 3) pa_nil))))) pa_nil))) (pe_slice sl_tupA (pe_ix ix_tup (pv 2) pe_int (fun _ _ => rfl)) (po_some (pe_op op_add (pv 5) pe_int)) po_none)) pa_nil))))))))), ?_⟩
    refine ⟨_, rfl, p, q, ns, z, 3, rfl, B, by decide, p9 (by decide), fun f ns1 z1 H1 f0 f1 B1 k1 => ?_⟩
    have n1 := Nice.keep k1 B
    refine gn ?_
    dsimp only
    refine ⟨_, rfl, rfl, _, rfl, ite2 (fun c => ?_) (fun c => ?_)⟩
    · exact ⟨_, rfl, qq wo o ns1 z1 H1 hco (ho.nice n1) B1 k1⟩
    have hw1 := hw.tups n1.t
    have hp1 := hp.tups n1.t
    have ho1 := ho.nice n1
    cases wk with
    | push c =>
      obtain ⟨A, rfl, ha⟩ := hw1
      refine ⟨_, rfl, A, _, 0, _, rfl, rfl, SqT.of ha, rfl, by show 2 ≤ sizeLine; decide, fun W2 hW2 => ⟨W2, _, rfl, .inr (SqT.of upd_same), rfl, rfl, _, rfl, ?_⟩⟩
      rw [s_2_pu]
      have s2 := Same.new hW2 (.tup [.str "push", .str "pop"])
      refine iteT ?_
      exact ⟨_, rfl, qq wo o ns1 z1 _ hco (ho1.mono s2) (B1.mono s2) (k1.trans (Keep.of s2))⟩
    | pop =>
      obtain ⟨A, rfl, ha⟩ := hw1
      refine ⟨_, rfl, A, _, 0, _, rfl, rfl, SqT.of ha, rfl, by show 2 ≤ sizeLine; decide, fun W2 hW2 => ⟨W2, _, rfl, .inr (SqT.of upd_same), rfl, rfl, _, rfl, ?_⟩⟩
      rw [s_2_po]
      have s2 := Same.new hW2 (.tup [.str "push", .str "pop"])
      refine iteT ?_
      exact ⟨_, rfl, qq wo o ns1 z1 _ hco (ho1.mono s2) (B1.mono s2) (k1.trans (Keep.of s2))⟩
    | times m wk =>
      obtain ⟨A, u', rfl, ha, hu⟩ := hw1
      have hd' : wk.dep ≤ n := by
        have : 1 + wk.dep ≤ n + 1 := hd
        omega
      refine ⟨_, rfl, A, _, 0, _, rfl, rfl, SqT.of ha, rfl, by show 2 ≤ sizeLine; decide, fun W2 hW2 => ⟨W2, _, rfl, .inr (SqT.of upd_same), rfl, rfl, _, rfl, ?_⟩⟩
      rw [s_2_ti]
      have s2 := Same.new hW2 (.tup [.str "push", .str "pop"])
      generalize upd H1 W2 _ = H2 at s2
      refine iteF ?_
      have ha := s2 _ _ ha
      refine ⟨_, rfl, A, _, 0, _, rfl, rfl, SqT.of ha, rfl, rfl, _, rfl, iteDF (vne s_ti_ro) ?_⟩
      refine ⟨_, rfl, A, _, 0, _, rfl, rfl, SqT.of ha, rfl, rfl, _, rfl, iteD rfl ?_⟩
      refine ⟨_, rfl, A, _, 1, _, rfl, rfl, SqT.of ha, rfl, ?_⟩
      refine ⟨_, rfl, _, rfl, _, rfl, A, _, 2, _, rfl, rfl, SqT.of ha, rfl, _, rfl, p, q, ns1, z1, v, pl, u', wk, o, wo, rfl, B1.mono s2, hp1.mono s2, ok, hu.tups (Tups.of s2), can.2, hd', ho1.mono s2, hco, fun wb x ns3 z3 H3 hc3 hx3 B3 k3 => ?_⟩
      refine ⟨by show 3 ≤ sizeLine; decide, fun T hT => ?_⟩
      have sT := Same.new hT (.tup [.str "times", .int (m : Int), x])
      exact qq (.times m wb) (.ref T) ns3 z3 _ ⟨can.1, hc3⟩ ⟨T, x, rfl, upd_same, hx3.mono sT⟩ (B3.mono sT) (k1.trans ((Keep.of s2).trans (k3.trans (Keep.of sT))))
    | row ws =>
      obtain ⟨A, b, vs, rfl, ha, hb, hws⟩ := hw1
      have hd' : ws.dep ≤ n := by
        have : 1 + ws.dep ≤ n + 1 := hd
        omega
      have hl := hws.len
      have hl1 : vs.length ≤ 1000 := by
        rw [hl, Ws.len_list]
        exact can.1
      refine ⟨_, rfl, A, _, 0, _, rfl, rfl, SqT.of ha, rfl, by show 2 ≤ sizeLine; decide, fun W2 hW2 => ⟨W2, _, rfl, .inr (SqT.of upd_same), rfl, rfl, _, rfl, ?_⟩⟩
      rw [s_2_ro]
      have s2 := Same.new hW2 (.tup [.str "push", .str "pop"])
      generalize upd H1 W2 _ = H2 at s2
      refine iteF ?_
      have ha := s2 _ _ ha
      have hb := s2 _ _ hb
      refine ⟨_, rfl, A, _, 0, _, rfl, rfl, SqT.of ha, rfl, rfl, _, rfl, iteD rfl ?_⟩
      refine ⟨_, rfl, A, _, 1, _, rfl, rfl, SqT.of ha, rfl, by show 0 ≤ sizeLine; decide, fun E0 hE0 => ?_⟩
      have s3 := s2.trans (Same.new hE0 (.tup []))
      have ha := Same.new hE0 (.tup []) _ _ ha
      have hb := Same.new hE0 (.tup []) _ _ hb
      refine ⟨b, E0, _, rfl, rfl, SqT.of hb, SqT.of upd_same, _, rfl, ?_⟩
      generalize upd H2 E0 _ = H3 at s3 ha hb
      by_cases hvs : vs = []
      · have e : vs.isEmpty = true := by rw [hvs]; rfl
        rw [e]
        exact iteT ⟨_, rfl, qq wo o ns1 z1 _ hco (ho1.mono s3) (B1.mono s3) (k1.trans (Keep.of s3))⟩
      have hpos : 0 < vs.length := List.length_pos_iff.mpr hvs
      have e : vs.isEmpty = false := by
        cases vs with
        | nil => exact absurd rfl hvs
        | cons a b => rfl
      rw [e]
      refine iteF ?_
      refine ⟨_, rfl, A, _, 0, _, rfl, rfl, SqT.of ha, rfl, rfl, _, rfl, iteDF (vne s_ro_ti) ?_⟩
      refine ⟨_, rfl, _, rfl, A, _, 1, _, rfl, rfl, SqT.of ha, rfl, ?_⟩
      refine ⟨_, vs.length, rfl, .inr ⟨vs, SqT.of hb, rfl⟩, p, q, ns1, z1, _, rfl, B1.mono s3, by omega, p9 (by omega), fun r ns4 z4 H4 r0 r1 B4 k4 => ?_⟩
      have n4 := Nice.keep k4 (B1.mono s3)
      have ha := n4.t _ _ ha
      have hb := n4.t _ _ hb
      obtain ⟨k, rfl⟩ : ∃ k : Nat, r = (k : Int) := ⟨r.toNat, by omega⟩
      have hk : k < vs.length := by omega
      have n04 := (Nice.of s3).trans n4
      refine gn ?_
      refine ⟨_, rfl, A, _, 1, _, rfl, rfl, SqT.of ha, rfl, _, rfl, _, rfl, slA_by hb fun c1 H5 s5 h5 => ?_⟩
      have ha := s5 _ _ ha
      have hb := s5 _ _ hb
      obtain ⟨w2, hw2, hwa⟩ := hws.get (List.getElem?_eq_getElem hk)
      have hmem := List.mem_of_getElem? hw2
      have n05 := n04.trans (Nice.of s5)
      refine ⟨_, rfl, _, rfl, _, rfl, A, _, 1, _, rfl, rfl, SqT.of ha, rfl, _, rfl, .inr (.inl ⟨b, vs, (k : Int), vs[k], rfl, rfl, SqT.of hb, atI_nat (List.getElem?_eq_getElem hk), ?_⟩)⟩
      refine ⟨_, rfl, p, q, ns4, z4, v, pl, vs[k], w2, o, wo, rfl, B4.mono s5, hp1.tups n05.t, ok, hwa.tups n05.t, Ws.can_mem can.2 hmem, Nat.le_trans (Ws.dep_mem hmem) hd', ho1.nice n05, hco, fun wb x ns6 z6 H6 hc6 hx6 B6 k6 => ?_⟩
      have n6 := Nice.keep k6 (B4.mono s5)
      have h5 := n6.t _ _ h5
      have ha := n6.t _ _ ha
      have hb := n6.t _ _ hb
      refine ⟨by show 1 ≤ sizeLine; decide, fun c2 hc2 => ?_⟩
      have s7 := Same.new hc2 (.tup [x])
      have h7 : upd H6 c2 (.tup [x]) c2 = some (.tup [x]) := upd_same
      generalize upd H6 c2 (.tup [x]) = H7 at s7 h7
      rw [cut_pre vs (Nat.le_of_lt hk)] at h5
      refine catA_by (s7 _ _ h5) h7 (by rw [List.length_take]; show _ + 1 ≤ sizeLine; exact Nat.le_of_lt (szl (by omega))) fun c3 H8 s8 h8 => ?_
      have s68 := s7.trans s8
      have ha := s68 _ _ ha
      have hb := s68 _ _ hb
      refine ⟨_, rfl, A, _, 1, _, rfl, rfl, SqT.of ha, rfl, _, rfl, _, _, rfl, rfl, _, rfl, ?_⟩
      dsimp only [tNoPart]
      refine slA_by hb fun c4 H9 s9 h9 => ?_
      have e1 : (k : Int) + 1 = ((k + 1 : Nat) : Int) := rfl
      rw [e1, cut_suf vs hk] at h9
      refine catA_by (s9 _ _ h8) h9 (by rw [List.length_append, List.length_take, List.length_drop]; show _ + 1 + _ ≤ sizeLine; exact Nat.le_of_lt (szl (by omega))) fun c5 HA sA hA => ?_
      have s6A := s68.trans (s9.trans sA)
      refine ⟨by show 2 ≤ sizeLine; decide, fun T hT => ?_⟩
      have sT := Same.new hT (.tup [.str "row", .ref c5])
      have nAll := (n05.trans n6).trans (Nice.of (s6A.trans sT))
      have hxs := (XsAt.of hws can.2)
      obtain ⟨g1, g2, g3⟩ := row_spliced (w := wb) (y := x) (hxs.1.nice nAll) hxs.2 hk (hx6.mono (s6A.trans sT)) hc6
      exact qq (.row (ofL (ws.list.set k wb))) (.ref T) ns6 z6 _ ⟨by rw [g3]; exact can.1, g2⟩ ⟨T, c5, _, rfl, upd_same, sT _ _ hA, g1⟩ (B6.mono (s6A.trans sT)) (k1.trans ((Keep.of s3).trans (k4.trans ((Keep.of s5).trans (k6.trans (Keep.of (s6A.trans sT)))))))
open LamX NdefX
variable {T : List (Addr × Str)} {C : Addr}
theorem ok_check_times (D : Dn K mg "check_times" s_check_times P_check_times) (g : Gx mg) (c_is_number : C8.Cal P w K mg base 1 "is_number" spNum []) : C8.Cal P w K mg base 2 "check_times" spTimes [] := by
  refine D.cal sc_check_times (fun vs H Q E h => ?_) (fun f cdv A outer s H vs Q E hr h => ?_)
  · obtain ⟨n, rfl, hn, q⟩ := h
    rfl
  obtain ⟨n, rfl, hn, q⟩ := h
  have nd := sc_check_times.nd
  refine ⟨_, (pss_one (ps_if (pt_not (pt_val (C8.pe_c c_is_number hr (by decide) rfl (pa_cons (pv 0) (pa_cons pe_int (pa_cons (C8.pe_gc rfl g.MOST_TIMES) pa_nil)))))) (pss_one ps_never) pss_nil)), ?_⟩
  refine ⟨_, rfl, (n : Int), 0, 1000000000000000000, rfl, fun H1 s1 => ⟨_, rfl, ?_⟩⟩
  rw [decide_eq_true (by omega)]
  exact iteF (q H1 s1)
theorem ok_joined (D : Dn K mg "joined" s_joined P_joined) (g : Gx mg) (c_check_plan : C8.Cal P w K mg base 3 "check_plan" spChPlan []) (c_check_triple : C8.Cal P w K mg base 3 "check_triple" spChTriple []) (c_join_triples : C8.Cal P w K mg base 2 "join_triples" spJoin []) : C8.Cal P w K mg base 4 "joined" spJoined [] := by
  refine D.cal sc_joined (fun vs H Q E h => ?_) (fun f cdv A outer s H vs Q E hr h => ?_)
  · obtain ⟨v, p, a, b, t, u, rfl, hp, ok, ha, ta, hb, tb, q⟩ := h
    rfl
  obtain ⟨v, p, a, b, t, u, rfl, hp, ok, ha, ta, hb, tb, q⟩ := h
  have nd := sc_joined.nd
  refine ⟨_, (pss_cons (ps_expr (C8.pe_c c_check_plan hr (by decide) rfl (pa_cons (pv 0) pa_nil)))
    (pss_cons (ps_expr (C8.pe_c c_check_triple hr (by decide) rfl (pa_cons (pv 0) (pa_cons (pv 1) pa_nil))))
    (pss_cons (ps_expr (C8.pe_c c_check_triple hr (by decide) rfl (pa_cons (pv 0) (pa_cons (pv 2) pa_nil))))
    (pss_one (ps_ret (C8.pe_c c_join_triples hr (by decide) rfl (pa_cons (pv 1) (pa_cons (pv 2) pa_nil)))))))), ?_⟩
  have h9 := ok.r9
  have k1 := ta.kl
  have k2 := tb.kl
  refine ⟨_, rfl, v, p, rfl, hp, ok, fun H1 s1 => ?_⟩
  refine ⟨_, rfl, _, rfl, v, p, a, t, rfl, hp.mono s1, ok, ha.mono s1, ta, fun H2 s2 => ?_⟩
  have s12 := s1.trans s2
  refine ⟨_, rfl, _, rfl, v, p, b, u, rfl, hp.mono s12, ok, hb.mono s12, tb, fun H3 s3 => ?_⟩
  have s13 := s12.trans s3
  exact ⟨_, rfl, _, rfl, a, b, t, u, rfl, ha.mono s13, hb.mono s13, by omega, by omega, fun H4 v4 s4 h4 => q H4 v4 (s13.trans s4) h4⟩
theorem ok_powered (D : Dn K mg "powered" s_powered P_powered) (g : Gx mg) (c_check_plan : C8.Cal P w K mg base 3 "check_plan" spChPlan []) (c_check_triple : C8.Cal P w K mg base 3 "check_triple" spChTriple []) (c_check_times : C8.Cal P w K mg base 2 "check_times" spTimes []) (c_power_triple : C8.Cal P w K mg base 3 "power_triple" spPower []) : C8.Cal P w K mg base 4 "powered" spPower [] := by
  refine D.cal sc_powered (fun vs H Q E h => ?_) (fun f cdv A outer s H vs Q E hr h => ?_)
  · obtain ⟨v, p, u, t, n, rfl, hp, ok, ht, tok, hn, q⟩ := h
    rfl
  obtain ⟨v, p, u, t, n, rfl, hp, ok, ht, tok, hn, q⟩ := h
  have nd := sc_powered.nd
  refine ⟨_, (pss_cons (ps_expr (C8.pe_c c_check_plan hr (by decide) rfl (pa_cons (pv 0) pa_nil)))
    (pss_cons (ps_expr (C8.pe_c c_check_triple hr (by decide) rfl (pa_cons (pv 0) (pa_cons (pv 1) pa_nil))))
    (pss_cons (ps_expr (C8.pe_c c_check_times hr (by decide) rfl (pa_cons (pv 2) pa_nil)))
    (pss_one (ps_ret (C8.pe_c c_power_triple hr (by decide) rfl (pa_cons (pv 0) (pa_cons (pv 1) (pa_cons (pv 2) pa_nil))))))))), ?_⟩
  refine ⟨_, rfl, v, p, rfl, hp, ok, fun H1 s1 => ?_⟩
  refine ⟨_, rfl, _, rfl, v, p, u, t, rfl, hp.mono s1, ok, ht.mono s1, tok, fun H2 s2 => ?_⟩
  have s12 := s1.trans s2
  refine ⟨_, rfl, n, rfl, hn, fun H3 s3 => ?_⟩
  have s13 := s12.trans s3
  exact ⟨_, rfl, _, rfl, _, rfl, v, p, u, t, n, rfl, hp.mono s13, ok, ht.mono s13, tok, hn, fun H4 v4 s4 h4 => q H4 v4 (s13.trans s4) h4⟩
theorem ok_law_triple (D : Dn K mg "_law_triple" s_law_triple P_law_triple) (g : Gx mg) (c_law_take : C8.Cal P w K mg base 1 "_law_take" spTake []) (c_law_signs : C8.Cal P w K mg base 2 "_law_signs" spLSigns []) : C8.Cal P w K mg base 3 "_law_triple" spLTriple [] := by
  refine D.cal sc_law_triple (fun vs H Q E h => ?_) (fun f cdv A outer s H vs Q E hr h => ?_)
  · obtain ⟨p, q, ns, z, v, pl, rfl, B, hp, ok, kk⟩ := h
    rfl
  obtain ⟨p, q, ns, z, v, pl, rfl, B, hp, ok, kk⟩ := h
  have nd := sc_law_triple.nd
  refine ⟨_, (pss_cons (ps_set (i := 2) nd rfl (.inl rfl) (C8.pe_c c_law_take hr (by decide) rfl (pa_cons (pv 0) (pa_cons (pe_op op_add (pe_ix ix_tup (pv 1) pe_int (fun _ _ => rfl)) pe_int) pa_nil))))
    (pss_cons (ps_set (i := 3) nd rfl (.inl rfl) (C8.pe_c c_law_signs hr (by decide) rfl (pa_cons (pv 0) (pa_cons (pv 1) (pa_cons (pe_op op_sub (pe_ix ix_tup (pv 1) pe_int (fun _ _ => rfl)) (pv 2)) pa_nil)))))
    (pss_one (ps_ret (pe_tup (pa_cons (pe_ifExp (pt_cmpR op_gt (pv 2) pe_int (nomark _)) (C8.pe_c c_law_take hr (by decide) rfl (pa_cons (pv 0) (pa_cons (pe_op op_add (pe_op op_sub (pe_ix ix_tup (pv 1) pe_int (fun _ _ => rfl)) (pv 2)) pe_int) pa_nil))) pe_int) (pa_cons (pv 2) (pa_cons (pv 3) pa_nil)))))))), ?_⟩
  have h9 := ok.r9
  obtain ⟨a, b, rfl, ha, hb⟩ := id hp
  refine ⟨_, rfl, _, rfl, a, _, 0, _, rfl, rfl, SqT.of ha, rfl, _, _, rfl, rfl, p, q, ns, z, (pl.room : Int) + 1, rfl, B, by omega, p9 (by omega), fun k ns1 z1 H1 k0 k1 B1 g1 => ?_⟩
  obtain ⟨K1, rfl⟩ : ∃ K1 : Nat, k = (K1 : Int) := ⟨k.toNat, by omega⟩
  have ha1 := g1.tup B ha
  have em : (pl.room : Int) - (K1 : Int) = ((pl.room - K1 : Nat) : Int) := by omega
  refine ⟨_, rfl, _, rfl, _, rfl, a, _, 0, _, rfl, rfl, SqT.of ha1, rfl, _, rfl, _, _, rfl, rfl, p, q, ns1, z1, .ref a, pl, pl.room - K1, (by show [V.ref p, V.ref a, V.int ((pl.room : Int) - (K1 : Int))] = _; rw [em]), B1, hp.keep B g1, ok, by omega, fun l ns2 z2 H2 hl hs B2 g2 => ?_⟩
  have ha2 := g2.tup B1 ha1
  refine ⟨_, rfl, _, _, rfl, rfl, _, rfl, ite2 (fun c => ?_) (fun c => ?_)⟩
  · have c' : (0 : Int) < (K1 : Int) := of_decide_eq_true c
    refine ⟨_, rfl, _, rfl, a, _, 0, _, rfl, rfl, SqT.of ha2, rfl, _, rfl, _, _, rfl, rfl, _, _, rfl, rfl, p, q, ns2, z2, (pl.room : Int) - (K1 : Int) + 1, rfl, B2, by omega, p9 (by omega), fun gg ns3 z3 H3 q0 q1 B3 g3 => ?_⟩
    obtain ⟨G, rfl⟩ : ∃ G : Nat, gg = (G : Int) := ⟨gg.toNat, by omega⟩
    refine ⟨_, rfl, _, rfl, by show 3 ≤ sizeLine; decide, fun T hT => ?_⟩
    have sT := Same.new hT (.tup [.int (G : Int), .int (K1 : Int), .str (tx l)])
    exact kk ⟨G, K1, l⟩ _ ns3 z3 _ ⟨by show G + K1 ≤ pl.room; omega, by show K1 + l.length ≤ pl.room; omega, fun e => by have e' : K1 = 0 := e; omega, hs⟩ ⟨T, rfl, upd_same⟩ (B3.mono sT) (g1.trans (g2.trans (g3.trans (Keep.of sT))))
  · have c' : ¬ (0 : Int) < (K1 : Int) := fun z => c (decide_eq_true z)
    have e0 : K1 = 0 := by omega
    subst e0
    refine ⟨_, rfl, _, rfl, by show 3 ≤ sizeLine; decide, fun T hT => ?_⟩
    have sT := Same.new hT (.tup [.int 0, .int ((0 : Nat) : Int), .str (tx l)])
    exact kk ⟨0, 0, l⟩ _ ns2 z2 _ ⟨Nat.zero_le _, by show 0 + l.length ≤ pl.room; omega, fun _ => rfl, hs⟩ ⟨T, rfl, upd_same⟩ (B2.mono sT) (g1.trans (g2.trans (Keep.of sT)))
def IS12 : Nat → Prop := fun i => i = 0 ∨ i = 4 ∨ i = 5 ∨ i = 7 ∨ i = 8
def lamQk12 : Str := (("law" : Str) ++ ".<locals>.") ++ "<lambda>"
def lamQk12_law_refuses : Str := (("_law_refuses" : Str) ++ ".<locals>.") ++ "<lambda>"
theorem huA {PT PT2 : Addr} {q q2 : Str} (h : PT ≠ PT2) {p : Addr × Str} (hp : p ∈ [(PT, q), (PT2, q2)]) (hq : p.1 = PT) : p.2 = q := by
  rcases List.mem_cons.mp hp with e | e
  · rw [e]
  · rw [List.mem_singleton.mp e] at hq
    exact absurd hq.symm h
theorem huB {PT PT2 : Addr} {q q2 : Str} (h : PT ≠ PT2) {p : Addr × Str} (hp : p ∈ [(PT, q), (PT2, q2)]) (hq : p.1 = PT2) : p.2 = q2 := by
  rcases List.mem_cons.mp hp with e | e
  · rw [e] at hq
    exact absurd hq h
  · rw [List.mem_singleton.mp e]
variable {ns : Nine}
theorem alk_si {H : Hp} {n : Nat} {a b : Addr} {w : Str} {i : Int} (ha : H a = some (.tup [.str w, .int i])) (hb : H b = some (.tup [.str w, .int i])) : Alk H (n + 2) (.ref a) (.ref b) := by
  refine .inr ⟨a, b, _, _, rfl, rfl, .inl ⟨ha, hb⟩, rfl, by show 2 ≤ 10000; decide, fun j x y e1 e2 => ?_⟩
  have e : x = y := Option.some.inj (e1.symm.trans e2)
  subst e
  match j, e1 with
  | 0, e1 => cases e1; exact .inl ⟨rfl, trivial⟩
  | 1, e1 => cases e1; exact .inl ⟨rfl, trivial⟩
theorem eq_nil0 {K : PySem.W.Frag} {H : Hp} {Q : VK} {a b : Addr} (ha : H a = some (.lst [])) (hb : H b = some (.lst [])) (q : Q (.bl true) H) : rEqD K (.ref a) (.ref b) H Q :=
  ⟨.list [], .list [], .lst (SqL.of ha) .nil, .lst (SqL.of hb) .nil, rfl, rfl, q⟩
theorem ok_law_all (D : Dn K mg "_law_all" s_law_all P_law_all) (g : Gx mg) (c_law_told : C8.Cal P w K mg base 14 "_law_told" (spToldL P w K mg base 13 IS12 ns) []) (c_law_alike : C8.Cal P w K mg base 20 "_law_alike" (spAlike 20) []) : C8.Cal P w K mg base 21 "_law_all" (spAllL P w K mg base 13 IS12 ns) [] := by
  refine D.cal sc_law_all (fun vs H Q E h => ?_) (fun f cdv A outer s H vs Q E hr h => ?_)
  · obtain ⟨D, fs, T, i, wd, v, rfl, hD, hi0, hi, hw, hT, hf, q⟩ := h
    rfl
  obtain ⟨D, fs, T, i, wd, v, rfl, hD, hi0, hi, hw, hT, hf, q⟩ := h
  have nd := sc_law_all.nd
  refine ⟨_, (pss_one (ps_ret (pe_cmpR (op_eqD hr.units) (pe_lc (own := [("_law_work_here", 2)]) rfl nd (pi_list (pv 0)) (blkOk_by (own := [("_law_work_here", 2)]) (N := N_law_all) (sc := defScope s_law_all) (by decide +kernel)) (fun _ _ _ _ _ => (pg_name (i := 2) nd rfl (.inl rfl))) (fun _ _ _ _ _ => (pts_one (pt_not (pt_val (C8.pe_c c_law_alike (by exact hr) (by decide) rfl (pa_cons (C8.pe_c c_law_told (by exact hr) (by decide) rfl (pa_cons (pv 2) pa_nil)) (pa_cons (pv 1) pa_nil))))))) (fun _ _ _ _ _ => (pv 2))) (pe_lst pa_nil) (nomark _)))), ?_⟩
  refine ⟨_, rfl, D, rfl, ⟨_, SqL.of hD⟩, fun L hL => ?_⟩
  refine lc_list (K := K) (a := D) (xs := fs.map V.ref) (fun j H2 => Same H H2 ∧ H2 L = some (.lst [])) ⟨Same.new hL _, upd_same⟩ (fun j H2 _ h2 => SqL.of (h2.1 _ _ hD)) ?_ ?_
  · rintro j x H2 hx ⟨s2, h2⟩
    rw [List.getElem?_map] at hx
    obtain ⟨f1, hf1, rfl⟩ := Option.map_eq_some_iff.mp hx
    obtain ⟨F, tl, hF, hTl, hr9⟩ := hf f1 (List.mem_of_getElem? hf1)
    refine ⟨rfl, ?_⟩
    refine ⟨_, rfl, f1, F, tl, rfl, s2 _ _ hF, hTl.mono s2, hr9 _ _ _ s2 fun d H3 s3 hFl => ⟨i, wd, v, hi0, hi, hw, rfl, hFl, fun H4 p4 s4 h4 => ?_⟩⟩
    have s24 := s3.trans s4
    refine ⟨_, rfl, .ref p4, .ref T, rfl, alk_si h4 (s24 _ _ (s2 _ _ hT)), fun H5 s5 => ?_⟩
    have s25 := s24.trans s5
    refine ⟨_, rfl, ?_⟩
    exact iteF ⟨s2.trans s25, s25 _ _ h2⟩
  · rintro H2 ⟨s2, h2⟩
    refine ⟨by show 0 ≤ sizeLine; decide, fun L2 hL2 => ?_⟩
    have s3 := Same.new hL2 (.lst [])
    exact eq_nil0 (s3 _ _ h2) upd_same (q _ (s2.trans s3))
def spRefuses (T : List (Addr × Str)) : Sp := fun vs H Q _ => ∃ (p q : Addr) (ns : List Int) (z : Int) (v : V) (pl : Pl) (u : V) (wk : W), vs = [.ref p, v, u] ∧ BoxAt H p q ns z ∧ PlanAt H v pl ∧ pl.Ok ∧ WAt H wk u ∧ WOk pl.many wk ∧ Tabs T H ∧
  ∀ (ns' : List Int) (z' : Int) (H' : Hp), BoxAt H' p q ns' z' → Tabs T H' → Q (.bl true) H'
theorem rep1 (n : Nat) : (List.replicate n [97]).flatten = List.replicate n 97 := by
  induction n with
  | zero => rfl
  | succ n ih => rw [List.replicate_succ, List.flatten_cons, ih, List.replicate_succ]; rfl
theorem fr_law_refuses : ∀ y ∈ (["_law_plan_here", "_law_work_here", "_law_good", "_law_odd"] : List Str), (defScope s_law_refuses).names.lookup y = some .cell := by decide +kernel
theorem ok_law_refuses {cL PT D0 CS : Addr} {ns : Nine} (D : DnL K mg "_law_refuses" s_law_refuses P_law_refuses cL) (TB : LamX.TabB base mg cL PT) {PT1 : Addr} (hPT : PT1 ≠ PT) (g : Gx mg) (c_law_take : C8.Cal P w K mg base 1 "_law_take" spTake []) (c_law_triple : C8.Cal P w K mg base 3 "_law_triple" spLTriple []) (c_law_all : C8.Cal P w K mg base 21 "_law_all" (spAllL P w K mg base 13 IS12 ns) []) (x_told : CalX P w K mg base 12 "told" (spToldY ns.c8)) (x_run : CalX P w K mg base 4 "run" (spRunY ns.c8 ns.c4)) (x_alike : CalX P w K mg base 4 "alike" (spTwoY ns.c8)) (x_parting : CalX P w K mg base 4 "parting" (spTwoY ns.c8)) (x_cost : CalX P w K mg base 4 "cost" (spCostY ns.c8)) (x_written : CalX P w K mg base 4 "written" (spCostY ns.c8)) (x_M_do : MetX P w K mg base 4 C "do" (spMDoY C ns.c8)) (x_Machine : MakX P w K mg base 4 "Machine" C (spMInitY ns.c4)) (x_done : CalX P w K mg base 4 "done" (spT2 (fun H x p => StackB H x p false) ns.c7 ns.c4)) (x_befores : CalX P w K mg base 4 "befores" (spT2 (fun H x p => StackB H x p false) ns.c7 ns.c4)) (x_joined : CalX P w K mg base 4 "joined" (spT2 (fun H x p => TripleB H x p false) ns.c7 ns.c7)) (x_powered : CalX P w K mg base 4 "powered" (spT2 (fun H x p => NumB H x 0 1000000000000000000 false) ns.c7 ns.c0)) (x_judged : CalX P w K mg base 4 "judged" (spT2 (fun H x p => StepsB H x p false) ns.c7 ns.c5)) (x_cheapest : CalX P w K mg base 4 "cheapest" (spT1 0 ns.c7)) (x_fewest : CalX P w K mg base 4 "fewest" (spT1 0 ns.c7)) (x_fillers : CalX P w K mg base 4 "fillers" (spT1 0 ns.c7)) (x_number_of : CalX P w K mg base 4 "number_of" (spT1 0 ns.c7)) (x_told_of_steps : CalX P w K mg base 4 "told_of_steps" (spStepsY ns.c5)) : C8.Cal P w K mg base 22 "_law_refuses" (spRefuses [(PT1, lamQk12), (PT, lamQk12_law_refuses)]) [] := by
  refine D.cal sc_law_refuses (fun vs H Q E h => ?_) (fun f A outer s H vs Q E hr h => ?_)
  · obtain ⟨p, q, ns0, z, v, pl, u, wk, rfl, B, hp, ok, hw, wok, hT, qq⟩ := h
    rfl
  obtain ⟨p, q, ns0, z, v, pl, u, wk, rfl, B, hp, ok, hw, wok, hT, qq⟩ := h
  have nd := sc_law_refuses.nd
  refine ⟨_, (pss_cons (ps_set (i := 6) nd rfl (.inr rfl) (pe_ix ix_list (pe_lst (pa_cons pe_non (pa_cons pe_str (pa_cons pe_int (pa_cons (pe_op op_mulS pe_str (pe_op op_add (pe_ix ix_tup (pv 1) pe_int (fun _ _ => rfl)) pe_int)) (pa_cons (pe_lst (pa_cons pe_str pa_nil)) (pa_cons pe_str pa_nil))))))) (C8.pe_c c_law_take hr (by decide) rfl (pa_cons (pv 0) (pa_cons pe_int pa_nil))) (fun _ _ => rfl)))
    (pss_cons (ps_set (i := 5) nd rfl (.inr rfl) (C8.pe_c c_law_triple hr (by decide) rfl (pa_cons (pv 0) (pa_cons (pv 1) pa_nil))))
    (pss_cons (ps_set (i := 3) nd rfl (.inl rfl) (pe_lst (pa_cons (pe_lam0 (T := [(PT1, lamQk12), (PT, lamQk12_law_refuses)]) (c := cL) (PT := PT) (k := 12) (fr := ["_law_plan_here", "_law_work_here", "_law_good", "_law_odd"]) TB rfl (List.mem_cons.mpr (.inr (List.mem_singleton.mpr rfl))) (fun p hp hq => huB hPT hp hq) (lamS2_by (N := N_law_refuses) (fr := ["_law_plan_here", "_law_work_here", "_law_good", "_law_odd"]) (by decide +kernel)) ⟨fun _ _ => rfl, fr_law_refuses⟩ rfl (fun _ _ _ _ _ _ => rfl) (fun A outer s H E f c' hr2 => (pe_cL x_run hr2 (by decide) rfl (pa_cons (pv 1) (pa_cons (pv 2) (pa_cons (pv 6) pa_nil)))))) (pa_cons (pe_lam1 (pn := "_law_a") (T := [(PT1, lamQk12), (PT, lamQk12_law_refuses)]) (c := cL) (PT := PT) (k := 12) (fr := ["_law_plan_here", "_law_work_here", "_law_good", "_law_odd"]) TB rfl (List.mem_cons.mpr (.inr (List.mem_singleton.mpr rfl))) (fun p hp hq => huB hPT hp hq) (lamS2_by (N := N_law_refuses) (fr := ["_law_plan_here", "_law_work_here", "_law_good", "_law_odd"]) (by decide +kernel)) ⟨fun _ _ => rfl, fr_law_refuses⟩ rfl rfl (by rfl) (fun _ _ _ _ _ _ _ => ⟨_, rfl, fun _ => rfl⟩) (fun A outer s H E f c' hr2 => (pe_cL x_done hr2 (by decide) rfl (pa_cons (pv 1) (pa_cons (pv 5) (pa_cons (pv 6) pa_nil)))))) (pa_cons (pe_lam1 (pn := "_law_b") (T := [(PT1, lamQk12), (PT, lamQk12_law_refuses)]) (c := cL) (PT := PT) (k := 12) (fr := ["_law_plan_here", "_law_work_here", "_law_good", "_law_odd"]) TB rfl (List.mem_cons.mpr (.inr (List.mem_singleton.mpr rfl))) (fun p hp hq => huB hPT hp hq) (lamS2_by (N := N_law_refuses) (fr := ["_law_plan_here", "_law_work_here", "_law_good", "_law_odd"]) (by decide +kernel)) ⟨fun _ _ => rfl, fr_law_refuses⟩ rfl rfl (by rfl) (fun _ _ _ _ _ _ _ => ⟨_, rfl, fun _ => rfl⟩) (fun A outer s H E f c' hr2 => (pe_cL x_befores hr2 (by decide) rfl (pa_cons (pv 1) (pa_cons (pv 5) (pa_cons (pv 6) pa_nil)))))) pa_nil)))))
    (pss_cons (ps_if (pt_not (pt_val (pe_cC c_law_all hr (by decide) rfl ⟨fun _ _ => rfl, fr_law_refuses⟩ (pa_cons (pe_op op_cat (pv 3) (pe_lst (pa_cons (pe_lam1 (pn := "_law_c") (T := [(PT1, lamQk12), (PT, lamQk12_law_refuses)]) (c := cL) (PT := PT) (k := 12) (fr := ["_law_plan_here", "_law_work_here", "_law_good", "_law_odd"]) TB rfl (List.mem_cons.mpr (.inr (List.mem_singleton.mpr rfl))) (fun p hp hq => huB hPT hp hq) (lamS2_by (N := N_law_refuses) (fr := ["_law_plan_here", "_law_work_here", "_law_good", "_law_odd"]) (by decide +kernel)) ⟨fun _ _ => rfl, fr_law_refuses⟩ rfl rfl (by rfl) (fun _ _ _ _ _ _ _ => ⟨_, rfl, fun _ => rfl⟩) (fun A outer s H E f c' hr2 => (pe_mkL x_Machine hr2 (by decide) rfl (pa_cons (pv 1) (pa_cons (pv 6) pa_nil))))) pa_nil))) (pa_cons (pe_tup (pa_cons pe_str (pa_cons pe_int pa_nil))) pa_nil))))) (pss_one (ps_ret pe_bl)) pss_nil)
    (pss_cons (ps_set (i := 4) nd rfl (.inl rfl) (pe_ix ix_tup (pv 1) pe_int (fun _ _ => rfl)))
    (pss_cons (ps_set (i := 6) nd rfl (.inr rfl) (pe_lst (pa_cons pe_non (pa_cons (pe_tup (pa_cons pe_int (pa_cons pe_int pa_nil))) (pa_cons (pe_tup (pa_cons pe_int (pa_cons pe_int (pa_cons pe_str pa_nil)))) (pa_cons (pe_tup (pa_cons pe_int (pa_cons pe_int (pa_cons pe_str pa_nil)))) (pa_cons (pe_tup (pa_cons pe_int (pa_cons (pe_op op_add (pv 4) pe_int) (pa_cons pe_str pa_nil)))) (pa_cons (pe_tup (pa_cons (pv 4) (pa_cons pe_int (pa_cons pe_str pa_nil)))) (pa_cons (pe_tup (pa_cons pe_int (pa_cons (pv 4) (pa_cons pe_str pa_nil)))) (pa_cons (pe_tup (pa_cons (pe_un un_neg pe_int) (pa_cons pe_int (pa_cons pe_str pa_nil)))) pa_nil))))))))))
    (pss_cons (ps_set (i := 6) nd rfl (.inr rfl) (pe_op op_cat (pv 6) (pe_lst (pa_cons (pe_tup (pa_cons pe_int (pa_cons (pe_un un_neg pe_int) (pa_cons pe_str pa_nil)))) (pa_cons (pe_tup (pa_cons pe_bl (pa_cons pe_int (pa_cons pe_str pa_nil)))) (pa_cons (pe_tup (pa_cons pe_int (pa_cons pe_int (pa_cons pe_non pa_nil)))) (pa_cons (pe_tup (pa_cons pe_int (pa_cons pe_int (pa_cons (pe_op op_mulS pe_str (pe_op op_add (pv 4) pe_int)) pa_nil)))) (pa_cons (pe_tup (pa_cons pe_int (pa_cons pe_int (pa_cons pe_str (pa_cons pe_int pa_nil))))) (pa_cons (pe_lst (pa_cons pe_int (pa_cons pe_int (pa_cons pe_str pa_nil)))) pa_nil)))))))))
    (pss_cons (ps_set (i := 6) nd rfl (.inr rfl) (pe_ix ix_list (pv 6) (C8.pe_c c_law_take hr (by decide) rfl (pa_cons (pv 0) (pa_cons pe_int pa_nil))) (fun _ _ => rfl)))
    (pss_cons (ps_set (i := 3) nd rfl (.inl rfl) (pe_lst (pa_cons (pe_lam0 (T := [(PT1, lamQk12), (PT, lamQk12_law_refuses)]) (c := cL) (PT := PT) (k := 12) (fr := ["_law_plan_here", "_law_work_here", "_law_good", "_law_odd"]) TB rfl (List.mem_cons.mpr (.inr (List.mem_singleton.mpr rfl))) (fun p hp hq => huB hPT hp hq) (lamS2_by (N := N_law_refuses) (fr := ["_law_plan_here", "_law_work_here", "_law_good", "_law_odd"]) (by decide +kernel)) ⟨fun _ _ => rfl, fr_law_refuses⟩ rfl (fun _ _ _ _ _ _ => rfl) (fun A outer s H E f c' hr2 => (pe_cL x_joined hr2 (by decide) rfl (pa_cons (pv 1) (pa_cons (pv 6) (pa_cons pe_non pa_nil)))))) (pa_cons (pe_lam1 (pn := "_law_a") (T := [(PT1, lamQk12), (PT, lamQk12_law_refuses)]) (c := cL) (PT := PT) (k := 12) (fr := ["_law_plan_here", "_law_work_here", "_law_good", "_law_odd"]) TB rfl (List.mem_cons.mpr (.inr (List.mem_singleton.mpr rfl))) (fun p hp hq => huB hPT hp hq) (lamS2_by (N := N_law_refuses) (fr := ["_law_plan_here", "_law_work_here", "_law_good", "_law_odd"]) (by decide +kernel)) ⟨fun _ _ => rfl, fr_law_refuses⟩ rfl rfl (by rfl) (fun _ _ _ _ _ _ _ => ⟨_, rfl, fun _ => rfl⟩) (fun A outer s H E f c' hr2 => (pe_cL x_joined hr2 (by decide) rfl (pa_cons (pv 1) (pa_cons (pv 5) (pa_cons (pv 6) pa_nil)))))) (pa_cons (pe_lam1 (pn := "_law_b") (T := [(PT1, lamQk12), (PT, lamQk12_law_refuses)]) (c := cL) (PT := PT) (k := 12) (fr := ["_law_plan_here", "_law_work_here", "_law_good", "_law_odd"]) TB rfl (List.mem_cons.mpr (.inr (List.mem_singleton.mpr rfl))) (fun p hp hq => huB hPT hp hq) (lamS2_by (N := N_law_refuses) (fr := ["_law_plan_here", "_law_work_here", "_law_good", "_law_odd"]) (by decide +kernel)) ⟨fun _ _ => rfl, fr_law_refuses⟩ rfl rfl (by rfl) (fun _ _ _ _ _ _ _ => ⟨_, rfl, fun _ => rfl⟩) (fun A outer s H E f c' hr2 => (pe_cL x_powered hr2 (by decide) rfl (pa_cons (pv 1) (pa_cons (pv 6) (pa_cons (pe_un un_neg pe_int) pa_nil)))))) pa_nil)))))
    (pss_cons (ps_set (i := 3) nd rfl (.inl rfl) (pe_op op_cat (pv 3) (pe_lst (pa_cons (pe_lam1 (pn := "_law_c") (T := [(PT1, lamQk12), (PT, lamQk12_law_refuses)]) (c := cL) (PT := PT) (k := 12) (fr := ["_law_plan_here", "_law_work_here", "_law_good", "_law_odd"]) TB rfl (List.mem_cons.mpr (.inr (List.mem_singleton.mpr rfl))) (fun p hp hq => huB hPT hp hq) (lamS2_by (N := N_law_refuses) (fr := ["_law_plan_here", "_law_work_here", "_law_good", "_law_odd"]) (by decide +kernel)) ⟨fun _ _ => rfl, fr_law_refuses⟩ rfl rfl (by rfl) (fun _ _ _ _ _ _ _ => ⟨_, rfl, fun _ => rfl⟩) (fun A outer s H E f c' hr2 => (pe_cL x_done hr2 (by decide) rfl (pa_cons (pv 1) (pa_cons (pv 6) (pa_cons pe_non pa_nil)))))) (pa_cons (pe_lam1 (pn := "_law_d") (T := [(PT1, lamQk12), (PT, lamQk12_law_refuses)]) (c := cL) (PT := PT) (k := 12) (fr := ["_law_plan_here", "_law_work_here", "_law_good", "_law_odd"]) TB rfl (List.mem_cons.mpr (.inr (List.mem_singleton.mpr rfl))) (fun p hp hq => huB hPT hp hq) (lamS2_by (N := N_law_refuses) (fr := ["_law_plan_here", "_law_work_here", "_law_good", "_law_odd"]) (by decide +kernel)) ⟨fun _ _ => rfl, fr_law_refuses⟩ rfl rfl (by rfl) (fun _ _ _ _ _ _ _ => ⟨_, rfl, fun _ => rfl⟩) (fun A outer s H E f c' hr2 => (pe_cL x_cheapest hr2 (by decide) rfl (pa_cons (pv 1) (pa_cons (pv 6) pa_nil))))) (pa_cons (pe_lam1 (pn := "_law_f") (T := [(PT1, lamQk12), (PT, lamQk12_law_refuses)]) (c := cL) (PT := PT) (k := 12) (fr := ["_law_plan_here", "_law_work_here", "_law_good", "_law_odd"]) TB rfl (List.mem_cons.mpr (.inr (List.mem_singleton.mpr rfl))) (fun p hp hq => huB hPT hp hq) (lamS2_by (N := N_law_refuses) (fr := ["_law_plan_here", "_law_work_here", "_law_good", "_law_odd"]) (by decide +kernel)) ⟨fun _ _ => rfl, fr_law_refuses⟩ rfl rfl (by rfl) (fun _ _ _ _ _ _ _ => ⟨_, rfl, fun _ => rfl⟩) (fun A outer s H E f c' hr2 => (pe_cL x_fewest hr2 (by decide) rfl (pa_cons (pv 1) (pa_cons (pv 6) pa_nil))))) pa_nil))))))
    (pss_cons (ps_set (i := 3) nd rfl (.inl rfl) (pe_op op_cat (pv 3) (pe_lst (pa_cons (pe_lam1 (pn := "_law_g") (T := [(PT1, lamQk12), (PT, lamQk12_law_refuses)]) (c := cL) (PT := PT) (k := 12) (fr := ["_law_plan_here", "_law_work_here", "_law_good", "_law_odd"]) TB rfl (List.mem_cons.mpr (.inr (List.mem_singleton.mpr rfl))) (fun p hp hq => huB hPT hp hq) (lamS2_by (N := N_law_refuses) (fr := ["_law_plan_here", "_law_work_here", "_law_good", "_law_odd"]) (by decide +kernel)) ⟨fun _ _ => rfl, fr_law_refuses⟩ rfl rfl (by rfl) (fun _ _ _ _ _ _ _ => ⟨_, rfl, fun _ => rfl⟩) (fun A outer s H E f c' hr2 => (pe_cL x_judged hr2 (by decide) rfl (pa_cons (pv 1) (pa_cons (pv 6) (pa_cons pe_non pa_nil)))))) (pa_cons (pe_lam1 (pn := "_law_h") (T := [(PT1, lamQk12), (PT, lamQk12_law_refuses)]) (c := cL) (PT := PT) (k := 12) (fr := ["_law_plan_here", "_law_work_here", "_law_good", "_law_odd"]) TB rfl (List.mem_cons.mpr (.inr (List.mem_singleton.mpr rfl))) (fun p hp hq => huB hPT hp hq) (lamS2_by (N := N_law_refuses) (fr := ["_law_plan_here", "_law_work_here", "_law_good", "_law_odd"]) (by decide +kernel)) ⟨fun _ _ => rfl, fr_law_refuses⟩ rfl rfl (by rfl) (fun _ _ _ _ _ _ _ => ⟨_, rfl, fun _ => rfl⟩) (fun A outer s H E f c' hr2 => (pe_cL x_fillers hr2 (by decide) rfl (pa_cons (pv 1) (pa_cons (pv 6) pa_nil))))) pa_nil)))))
    (pss_cons (ps_expr (pe_bm PySem.F.plainAttrs_list PySem.F.slot_list_append PySem.F.type_list_append mt_append (pv 3) (pa_cons (pe_lam1 (pn := "_law_i") (T := [(PT1, lamQk12), (PT, lamQk12_law_refuses)]) (c := cL) (PT := PT) (k := 12) (fr := ["_law_plan_here", "_law_work_here", "_law_good", "_law_odd"]) TB rfl (List.mem_cons.mpr (.inr (List.mem_singleton.mpr rfl))) (fun p hp hq => huB hPT hp hq) (lamS2_by (N := N_law_refuses) (fr := ["_law_plan_here", "_law_work_here", "_law_good", "_law_odd"]) (by decide +kernel)) ⟨fun _ _ => rfl, fr_law_refuses⟩ rfl rfl (by rfl) (fun _ _ _ _ _ _ _ => ⟨_, rfl, fun _ => rfl⟩) (fun A outer s H E f c' hr2 => (pe_cL x_number_of hr2 (by decide) rfl (pa_cons (pv 1) (pa_cons (pv 6) pa_nil))))) pa_nil)))
    (pss_cons (ps_if (pt_not (pt_val (pe_cC c_law_all hr (by decide) rfl ⟨fun _ _ => rfl, fr_law_refuses⟩ (pa_cons (pe_op op_cat (pv 3) (pe_lst (pa_cons (pe_lam1 (pn := "_law_j") (T := [(PT1, lamQk12), (PT, lamQk12_law_refuses)]) (c := cL) (PT := PT) (k := 12) (fr := ["_law_plan_here", "_law_work_here", "_law_good", "_law_odd"]) TB rfl (List.mem_cons.mpr (.inr (List.mem_singleton.mpr rfl))) (fun p hp hq => huB hPT hp hq) (lamS2_by (N := N_law_refuses) (fr := ["_law_plan_here", "_law_work_here", "_law_good", "_law_odd"]) (by decide +kernel)) ⟨fun _ _ => rfl, fr_law_refuses⟩ rfl rfl (by rfl) (fun _ _ _ _ _ _ _ => ⟨_, rfl, fun _ => rfl⟩) (fun A outer s H E f c' hr2 => (pe_cL x_befores hr2 (by decide) rfl (pa_cons (pv 1) (pa_cons (pv 6) (pa_cons pe_non pa_nil)))))) pa_nil))) (pa_cons (pe_tup (pa_cons pe_str (pa_cons pe_int pa_nil))) pa_nil))))) (pss_one (ps_ret pe_bl)) pss_nil)
    (pss_cons (ps_set (i := 6) nd rfl (.inr rfl) (pe_ix ix_list (pe_lst (pa_cons pe_non (pa_cons pe_str (pa_cons pe_str (pa_cons pe_str (pa_cons pe_int (pa_cons (pe_tup (pa_cons pe_str pa_nil)) pa_nil))))))) (C8.pe_c c_law_take hr (by decide) rfl (pa_cons (pv 0) (pa_cons pe_int pa_nil))) (fun _ _ => rfl)))
    (pss_cons (ps_if (pt_not (pt_val (pe_cC c_law_all hr (by decide) rfl ⟨fun _ _ => rfl, fr_law_refuses⟩ (pa_cons (pe_lst (pa_cons (pe_lam0 (T := [(PT1, lamQk12), (PT, lamQk12_law_refuses)]) (c := cL) (PT := PT) (k := 12) (fr := ["_law_plan_here", "_law_work_here", "_law_good", "_law_odd"]) TB rfl (List.mem_cons.mpr (.inr (List.mem_singleton.mpr rfl))) (fun p hp hq => huB hPT hp hq) (lamS2_by (N := N_law_refuses) (fr := ["_law_plan_here", "_law_work_here", "_law_good", "_law_odd"]) (by decide +kernel)) ⟨fun _ _ => rfl, fr_law_refuses⟩ rfl (fun _ _ _ _ _ _ => rfl) (fun A outer s H E f c' hr2 => (pe_cL x_told_of_steps hr2 (by decide) rfl (pa_cons (pv 1) (pa_cons (pv 6) pa_nil))))) (pa_cons (pe_lam1 (pn := "_law_a") (T := [(PT1, lamQk12), (PT, lamQk12_law_refuses)]) (c := cL) (PT := PT) (k := 12) (fr := ["_law_plan_here", "_law_work_here", "_law_good", "_law_odd"]) TB rfl (List.mem_cons.mpr (.inr (List.mem_singleton.mpr rfl))) (fun p hp hq => huB hPT hp hq) (lamS2_by (N := N_law_refuses) (fr := ["_law_plan_here", "_law_work_here", "_law_good", "_law_odd"]) (by decide +kernel)) ⟨fun _ _ => rfl, fr_law_refuses⟩ rfl rfl (by rfl) (fun _ _ _ _ _ _ _ => ⟨_, rfl, fun _ => rfl⟩) (fun A outer s H E f c' hr2 => (pe_cL x_judged hr2 (by decide) rfl (pa_cons (pv 1) (pa_cons (pv 5) (pa_cons (pv 6) pa_nil)))))) pa_nil))) (pa_cons (pe_tup (pa_cons pe_str (pa_cons pe_int pa_nil))) pa_nil))))) (pss_one (ps_ret pe_bl)) pss_nil)
    (pss_cons (ps_set (i := 6) nd rfl (.inr rfl) (pe_ix ix_list (pe_lst (pa_cons (pe_un un_neg pe_int) (pa_cons (pe_op op_add (pe_op op_pow pe_int pe_int) pe_int) (pa_cons pe_non (pa_cons pe_bl (pa_cons pe_str pa_nil)))))) (C8.pe_c c_law_take hr (by decide) rfl (pa_cons (pv 0) (pa_cons pe_int pa_nil))) (fun _ _ => rfl)))
    (pss_one (ps_ret (pe_cC c_law_all hr (by decide) rfl ⟨fun _ _ => rfl, fr_law_refuses⟩ (pa_cons (pe_lst (pa_cons (pe_lam0 (T := [(PT1, lamQk12), (PT, lamQk12_law_refuses)]) (c := cL) (PT := PT) (k := 12) (fr := ["_law_plan_here", "_law_work_here", "_law_good", "_law_odd"]) TB rfl (List.mem_cons.mpr (.inr (List.mem_singleton.mpr rfl))) (fun p hp hq => huB hPT hp hq) (lamS2_by (N := N_law_refuses) (fr := ["_law_plan_here", "_law_work_here", "_law_good", "_law_odd"]) (by decide +kernel)) ⟨fun _ _ => rfl, fr_law_refuses⟩ rfl (fun _ _ _ _ _ _ => rfl) (fun A outer s H E f c' hr2 => (pe_cL x_powered hr2 (by decide) rfl (pa_cons (pv 1) (pa_cons (pv 5) (pa_cons (pv 6) pa_nil)))))) pa_nil)) (pa_cons (pe_tup (pa_cons pe_str (pa_cons pe_int pa_nil))) pa_nil))))))))))))))))))))), ?_⟩
  have r9 := ok.r9
  have m4 := ok.m4
  have m1 := ok.m1
  have hr1 := ok.r1
  obtain ⟨A, PR, rfl, hA, _⟩ := id hp
  have B0 := B
  refine ⟨_, rfl, A, _, 0, _, rfl, rfl, SqT.of hA, rfl, _, _, rfl, rfl, ?_⟩
  have er : ((pl.room : Nat) : Int) + 1 = ((pl.room + 1 : Nat) : Int) := rfl
  dsimp only
  rw [er, s_aa]
  refine ⟨[97], pl.room + 1, rfl, rfl, by show 1 * (pl.room + 1) ≤ 16777216; omega, by omega, ?_⟩
  rw [rep1]
  have fr0 : ∀ {b : Addr} {H' : Hp}, Same H H' → H' b = none → b ≠ p ∧ b ≠ q := fun s e => B0.fresh (s.free e)
  refine ⟨by show 1 ≤ sizeLine; decide, fun LA hNA => ?_⟩
  have fLA := B.fresh hNA
  generalize hGA : upd H LA _ = H1
  obtain ⟨s1, hLA⟩ := Same.ofG hNA hGA
  replace B := B.mono s1
  replace hp := hp.mono s1
  replace hw := hw.tups (Tups.of s1)
  replace hT := Tabs.same hT s1
  replace hA := s1 _ _ hA
  refine ⟨by show 6 ≤ sizeLine; decide, fun LB hNB => ?_⟩
  have fLB := B.fresh hNB
  generalize hGB : upd H1 LB _ = H2
  obtain ⟨s2, hLB⟩ := Same.ofG hNB hGB
  replace B := B.mono s2
  replace hp := hp.mono s2
  replace hw := hw.tups (Tups.of s2)
  replace hT := Tabs.same hT s2
  replace hA := s2 _ _ hA
  replace hLA := s2 _ _ hLA
  refine ⟨_, rfl, p, q, ns0, z, 6, rfl, B, by decide, p9 (by decide), fun r ns3 z3 H3 r0 r1 B3 k3 => ?_⟩
  replace hp := hp.tups (k3.tups B)
  replace hw := hw.tups (k3.tups B)
  replace hT := Tabs.keep hT B k3
  replace hA := (k3.tups B).t _ _ hA
  replace hLA := k3 _ _ hLA fLA.1 fLA.2
  replace hLB := k3 _ _ hLB fLB.1 fLB.2
  obtain ⟨k, rfl⟩ : ∃ k : Nat, r = (k : Int) := ⟨r.toNat, by omega⟩
  obtain ⟨x, hx, hsx⟩ : ∃ x, ([.non, .str "e", .int 1, .str (tx (List.replicate (pl.room + 1) 97)), .ref LA, .str "A"] : List V)[k]? = some x ∧ ∀ H', H' LA = some (.lst [.str (tx [97])]) → StackB H' x pl false := by
    have : k = 0 ∨ k = 1 ∨ k = 2 ∨ k = 3 ∨ k = 4 ∨ k = 5 := by omega
    rcases this with rfl | rfl | rfl | rfl | rfl | rfl
    · exact ⟨_, rfl, fun H' _ => .inl ⟨rfl, rfl⟩⟩
    · exact ⟨_, rfl, fun H' _ => .inl ⟨by rw [s_e]; exact textN (by decide) (List.mem_cons_self ..) (no_sign (by decide)), rfl⟩⟩
    · exact ⟨_, rfl, fun H' _ => .inl ⟨rfl, rfl⟩⟩
    · refine ⟨_, rfl, fun H' _ => .inr ⟨_, rfl, by rw [List.length_replicate]; omega, fun c hc => ?_, (decide_eq_false (by rw [List.length_replicate]; omega)).symm⟩⟩
      rw [(List.mem_replicate.mp hc).2]
      exact a_signs m1
    · exact ⟨_, rfl, fun H' h => .inl ⟨⟨rfl, _, .inr h⟩, rfl⟩⟩
    · exact ⟨_, rfl, fun H' _ => .inl ⟨by rw [s_A]; exact textN (by decide) (List.mem_cons_self ..) (no_sign (by decide)), rfl⟩⟩
  refine ⟨LB, _, (k : Int), x, rfl, rfl, SqL.of hLB, atI_nat hx, ?_⟩
  refine gn ?_
  refine ⟨_, rfl, _, rfl, p, q, ns3, z3, .ref A, pl, rfl, B3, hp, ok, fun t y ns4 z4 H10 tok ht B4 k4 => ?_⟩
  replace hp := hp.tups (k4.tups B3)
  replace hw := hw.tups (k4.tups B3)
  replace hT := Tabs.keep hT B3 k4
  replace hA := (k4.tups B3).t _ _ hA
  replace hLA := k4 _ _ hLA fLA.1 fLA.2
  have B := B4
  refine gn ?_
  dsimp only
  have hxw := XAt.of hw wok.can
  refine ⟨hT, fun f1 H11 e11 hT11 nf1 G1 => ?_⟩
  replace hp := hp.ext e11
  replace hw := hw.tups (Tups.ofN e11)
  replace hA := e11 _ _ hA (by intro ps z; cases z)
  replace hLA := e11 _ _ hLA (by intro ps z; cases z)
  replace B := B.ext e11
  replace ht := ht.ext e11
  replace hT := hT11
  refine ⟨hT, fun f2 H12 e12 hT12 nf2 G2 => ?_⟩
  replace hp := hp.ext e12
  replace hw := hw.tups (Tups.ofN e12)
  replace hA := e12 _ _ hA (by intro ps z; cases z)
  replace hLA := e12 _ _ hLA (by intro ps z; cases z)
  replace B := B.ext e12
  replace ht := ht.ext e12
  replace G1 := G1.ext e12
  replace hT := hT12
  refine ⟨hT, fun f3 H13 e13 hT13 nf3 G3 => ?_⟩
  replace hp := hp.ext e13
  replace hw := hw.tups (Tups.ofN e13)
  replace hA := e13 _ _ hA (by intro ps z; cases z)
  replace hLA := e13 _ _ hLA (by intro ps z; cases z)
  replace B := B.ext e13
  replace ht := ht.ext e13
  replace G1 := G1.ext e13
  replace G2 := G2.ext e13
  replace hT := hT13
  refine ⟨by (first | (show _ ≤ sizeLine; decide) | (simp only [List.length_cons, List.length_nil]; decide)), fun D1 hNewD1 => ?_⟩
  generalize hGenD1 : upd _ D1 _ = H14
  obtain ⟨s14, hD1⟩ := Same.ofG hNewD1 hGenD1
  replace hp := hp.mono s14
  replace hw := hw.tups (Tups.of s14)
  replace hA := s14 _ _ hA
  replace hLA := s14 _ _ hLA
  replace B := B.mono s14
  replace ht := ht.mono s14
  replace G1 := G1.mono s14
  replace G2 := G2.mono s14
  replace hT := Tabs.same hT s14
  replace G3 := G3.mono s14
  refine gn ?_
  refine ⟨_, rfl, ?_⟩
  refine ⟨hT, fun f4 H15 e15 hT15 nf4 G4 => ?_⟩
  replace hp := hp.ext e15
  replace hw := hw.tups (Tups.ofN e15)
  replace hA := e15 _ _ hA (by intro ps z; cases z)
  replace hLA := e15 _ _ hLA (by intro ps z; cases z)
  replace B := B.ext e15
  replace ht := ht.ext e15
  replace G1 := G1.ext e15
  replace G2 := G2.ext e15
  replace G3 := G3.ext e15
  replace hD1 := e15 _ _ hD1 (by intro ps z; cases z)
  replace hT := hT15
  refine ⟨by (first | (show _ ≤ sizeLine; decide) | (simp only [List.length_cons, List.length_nil]; decide)), fun D2 hNewD2 => ?_⟩
  generalize hGenD2 : upd _ D2 _ = H16
  obtain ⟨s16, hD2⟩ := Same.ofG hNewD2 hGenD2
  replace hp := hp.mono s16
  replace hw := hw.tups (Tups.of s16)
  replace hA := s16 _ _ hA
  replace hLA := s16 _ _ hLA
  replace B := B.mono s16
  replace ht := ht.mono s16
  replace G1 := G1.mono s16
  replace G2 := G2.mono s16
  replace G3 := G3.mono s16
  replace hD1 := s16 _ _ hD1
  replace hT := Tabs.same hT s16
  replace G4 := G4.mono s16
  refine ⟨D1, D2, _, _, rfl, rfl, hD1, hD2, by show 4 ≤ sizeLine; decide, fun D3 hND3 => ?_⟩
  have fD3 := B.fresh hND3
  generalize hCD3 : upd H16 D3 _ = H17
  obtain ⟨s17, hD3⟩ := Same.ofG hND3 hCD3
  replace hp := hp.mono s17
  replace hw := hw.tups (Tups.of s17)
  replace hA := s17 _ _ hA
  replace hLA := s17 _ _ hLA
  replace B := B.mono s17
  replace ht := ht.mono s17
  replace G1 := G1.mono s17
  replace G2 := G2.mono s17
  replace G3 := G3.mono s17
  replace hD1 := s17 _ _ hD1
  replace hT := Tabs.same hT s17
  replace G4 := G4.mono s17
  replace hD2 := s17 _ _ hD2
  refine ⟨by (first | (show _ ≤ sizeLine; decide) | (simp only [List.length_cons, List.length_nil]; decide)), fun TT1 hNewTT1 => ?_⟩
  generalize hGenTT1 : upd _ TT1 _ = H18
  obtain ⟨s18, hTT1⟩ := Same.ofG hNewTT1 hGenTT1
  replace hp := hp.mono s18
  replace hw := hw.tups (Tups.of s18)
  replace hA := s18 _ _ hA
  replace hLA := s18 _ _ hLA
  replace B := B.mono s18
  replace ht := ht.mono s18
  replace G1 := G1.mono s18
  replace G2 := G2.mono s18
  replace G3 := G3.mono s18
  replace hT := Tabs.same hT s18
  replace G4 := G4.mono s18
  replace hD3 := s18 _ _ hD3
  refine fun cs okX hl C => ?_
  have sA := Same.toAdd C.off
  have key : ∀ (E : XK) (H' : Hp), Same (addC H18 cs) H' → (∀ d H2, Same H' H2 → Fld 4 d 0 H2 → E (.ref (nAt ns 4)) d H2) → noP ns.c4 (subC H' cs) (fun cls d H2 => Off H2 cs → E cls d (addC H2 cs)) := fun E H' s' he H2 s2 off => he none (addC H2 cs) (Same.back (On.add.same s') off s2) ⟨rfl, rfl⟩
  refine ⟨D3, [f1, f2, f3, f4], TT1, 4, "BadStack", 0, rfl, sA _ _ hD3, .inr (.inl rfl), by decide, rfl, sA _ _ hTT1, fun f hf => ?_, fun H' s' => ⟨On.add.same s', ?_⟩⟩
  · simp only [List.mem_cons, List.not_mem_nil, or_false] at hf
    rcases hf with rfl | rfl | rfl | rfl
    · obtain ⟨F, hL, _⟩ := id G1
      refine ⟨F, _, sA _ _ hL.fn, G1.at okX hl C, fun E H' Q' s' he => ?_⟩
      have ky := key E H' s' he
      have sS := Same.sub C.off s'
      exact ⟨_, rfl, _, rfl, _, rfl, .ref A, pl, u, wk, x, rfl, hp.mono sS, ok, (XAt.of (hw.tups (Tups.of sS)) wok.can).1, (XAt.of (hw.tups (Tups.of sS)) wok.can).2, by unfold noW; rw [W.fx_fine wok]; exact ⟨hsx _ (sS _ _ hLA), ky⟩⟩
    · obtain ⟨F, hL, _⟩ := id G2
      refine ⟨F, _, sA _ _ hL.fn, G2.at okX hl C, fun E H' Q' s' he => ?_⟩
      have ky := key E H' s' he
      have sS := Same.sub C.off s'
      exact ⟨_, rfl, _, rfl, _, rfl, .ref A, pl, y, x, true, rfl, hp.mono sS, ok, TripleB.good (ht.mono sS) tok r9, (show _ ∧ _ from ⟨hsx _ (sS _ _ hLA), ky⟩)⟩
    · obtain ⟨F, hL, _⟩ := id G3
      refine ⟨F, _, sA _ _ hL.fn, G3.at okX hl C, fun E H' Q' s' he => ?_⟩
      have ky := key E H' s' he
      have sS := Same.sub C.off s'
      exact ⟨_, rfl, _, rfl, _, rfl, .ref A, pl, y, x, true, rfl, hp.mono sS, ok, TripleB.good (ht.mono sS) tok r9, (show _ ∧ _ from ⟨hsx _ (sS _ _ hLA), ky⟩)⟩
    · obtain ⟨F, hL, _⟩ := id G4
      refine ⟨F, _, sA _ _ hL.fn, G4.at okX hl C, fun E H' Q' s' he => ?_⟩
      have ky := key E H' s' he
      have sS := Same.sub C.off s'
      exact ⟨_, rfl, _, rfl, fun xx dx hx hdx hne => ⟨.ref xx, .ref A, pl, x, rfl, (hp.mono sS).mono (made_same0 hx hdx), ok, hsx _ (made_same0 hx hdx _ _ (sS _ _ hLA)), noP.mono ky (made_same0 hx hdx)⟩⟩
  have s19 := Same.sub C.off s'
  generalize subC H' cs = H19 at s19
  replace hp := hp.mono s19
  replace hw := hw.tups (Tups.of s19)
  replace hA := s19 _ _ hA
  replace B := B.mono s19
  replace ht := ht.mono s19
  replace hT := Tabs.same hT s19
  refine ⟨_, rfl, iteF ?_⟩
  -- triples
  refine ⟨_, rfl, A, _, 0, _, rfl, rfl, SqT.of hA, rfl, ?_⟩
  refine gn ?_
  refine ⟨by (first | (show _ ≤ sizeLine; decide) | (simp only [List.length_cons, List.length_nil]; decide)), fun T1 hNewT1 => ?_⟩
  generalize hGenT1 : upd _ T1 _ = H20
  obtain ⟨s20, hT1⟩ := Same.ofG hNewT1 hGenT1
  replace hp := hp.mono s20
  replace hw := hw.tups (Tups.of s20)
  replace hA := s20 _ _ hA
  replace B := B.mono s20
  replace ht := ht.mono s20
  replace hT := Tabs.same hT s20
  refine ⟨by (first | (show _ ≤ sizeLine; decide) | (simp only [List.length_cons, List.length_nil]; decide)), fun T2 hNewT2 => ?_⟩
  generalize hGenT2 : upd _ T2 _ = H21
  obtain ⟨s21, hT2⟩ := Same.ofG hNewT2 hGenT2
  replace hp := hp.mono s21
  replace hw := hw.tups (Tups.of s21)
  replace hA := s21 _ _ hA
  replace B := B.mono s21
  replace ht := ht.mono s21
  replace hT := Tabs.same hT s21
  replace hT1 := s21 _ _ hT1
  refine ⟨by (first | (show _ ≤ sizeLine; decide) | (simp only [List.length_cons, List.length_nil]; decide)), fun T3 hNewT3 => ?_⟩
  generalize hGenT3 : upd _ T3 _ = H22
  obtain ⟨s22, hT3⟩ := Same.ofG hNewT3 hGenT3
  replace hp := hp.mono s22
  replace hw := hw.tups (Tups.of s22)
  replace hA := s22 _ _ hA
  replace B := B.mono s22
  replace ht := ht.mono s22
  replace hT := Tabs.same hT s22
  replace hT1 := s22 _ _ hT1
  replace hT2 := s22 _ _ hT2
  refine ⟨_, rfl, _, _, rfl, rfl, ?_⟩
  refine ⟨by (first | (show _ ≤ sizeLine; decide) | (simp only [List.length_cons, List.length_nil]; decide)), fun T4 hNewT4 => ?_⟩
  generalize hGenT4 : upd _ T4 _ = H23
  obtain ⟨s23, hT4⟩ := Same.ofG hNewT4 hGenT4
  replace hp := hp.mono s23
  replace hw := hw.tups (Tups.of s23)
  replace hA := s23 _ _ hA
  replace B := B.mono s23
  replace ht := ht.mono s23
  replace hT := Tabs.same hT s23
  replace hT1 := s23 _ _ hT1
  replace hT2 := s23 _ _ hT2
  replace hT3 := s23 _ _ hT3
  refine ⟨_, rfl, ?_⟩
  refine ⟨by (first | (show _ ≤ sizeLine; decide) | (simp only [List.length_cons, List.length_nil]; decide)), fun T5 hNewT5 => ?_⟩
  generalize hGenT5 : upd _ T5 _ = H24
  obtain ⟨s24, hT5⟩ := Same.ofG hNewT5 hGenT5
  replace hp := hp.mono s24
  replace hw := hw.tups (Tups.of s24)
  replace hA := s24 _ _ hA
  replace B := B.mono s24
  replace ht := ht.mono s24
  replace hT := Tabs.same hT s24
  replace hT1 := s24 _ _ hT1
  replace hT2 := s24 _ _ hT2
  replace hT3 := s24 _ _ hT3
  replace hT4 := s24 _ _ hT4
  refine ⟨_, rfl, ?_⟩
  refine ⟨by (first | (show _ ≤ sizeLine; decide) | (simp only [List.length_cons, List.length_nil]; decide)), fun T6 hNewT6 => ?_⟩
  generalize hGenT6 : upd _ T6 _ = H25
  obtain ⟨s25, hT6⟩ := Same.ofG hNewT6 hGenT6
  replace hp := hp.mono s25
  replace hw := hw.tups (Tups.of s25)
  replace hA := s25 _ _ hA
  replace B := B.mono s25
  replace ht := ht.mono s25
  replace hT := Tabs.same hT s25
  replace hT1 := s25 _ _ hT1
  replace hT2 := s25 _ _ hT2
  replace hT3 := s25 _ _ hT3
  replace hT4 := s25 _ _ hT4
  replace hT5 := s25 _ _ hT5
  refine ⟨_, rfl, ?_⟩
  refine ⟨by (first | (show _ ≤ sizeLine; decide) | (simp only [List.length_cons, List.length_nil]; decide)), fun T7 hNewT7 => ?_⟩
  generalize hGenT7 : upd _ T7 _ = H26
  obtain ⟨s26, hT7⟩ := Same.ofG hNewT7 hGenT7
  replace hp := hp.mono s26
  replace hw := hw.tups (Tups.of s26)
  replace hA := s26 _ _ hA
  replace B := B.mono s26
  replace ht := ht.mono s26
  replace hT := Tabs.same hT s26
  replace hT1 := s26 _ _ hT1
  replace hT2 := s26 _ _ hT2
  replace hT3 := s26 _ _ hT3
  replace hT4 := s26 _ _ hT4
  replace hT5 := s26 _ _ hT5
  replace hT6 := s26 _ _ hT6
  refine ⟨by (first | (show _ ≤ sizeLine; decide) | (simp only [List.length_cons, List.length_nil]; decide)), fun LC hNewLC => ?_⟩
  generalize hGenLC : upd _ LC _ = H27
  obtain ⟨s27, hLC⟩ := Same.ofG hNewLC hGenLC
  replace hp := hp.mono s27
  replace hw := hw.tups (Tups.of s27)
  replace hA := s27 _ _ hA
  replace B := B.mono s27
  replace ht := ht.mono s27
  replace hT := Tabs.same hT s27
  replace hT1 := s27 _ _ hT1
  replace hT2 := s27 _ _ hT2
  replace hT3 := s27 _ _ hT3
  replace hT4 := s27 _ _ hT4
  replace hT5 := s27 _ _ hT5
  replace hT6 := s27 _ _ hT6
  replace hT7 := s27 _ _ hT7
  refine gn ?_
  refine ⟨_, rfl, ?_⟩
  refine ⟨_, rfl, ?_⟩
  refine ⟨by (first | (show _ ≤ sizeLine; decide) | (simp only [List.length_cons, List.length_nil]; decide)), fun T8 hNewT8 => ?_⟩
  generalize hGenT8 : upd _ T8 _ = H28
  obtain ⟨s28, hT8⟩ := Same.ofG hNewT8 hGenT8
  replace hp := hp.mono s28
  replace hw := hw.tups (Tups.of s28)
  replace hA := s28 _ _ hA
  replace B := B.mono s28
  replace ht := ht.mono s28
  replace hT := Tabs.same hT s28
  replace hT1 := s28 _ _ hT1
  replace hT2 := s28 _ _ hT2
  replace hT3 := s28 _ _ hT3
  replace hT4 := s28 _ _ hT4
  replace hT5 := s28 _ _ hT5
  replace hT6 := s28 _ _ hT6
  replace hT7 := s28 _ _ hT7
  replace hLC := s28 _ _ hLC
  refine ⟨by (first | (show _ ≤ sizeLine; decide) | (simp only [List.length_cons, List.length_nil]; decide)), fun T9 hNewT9 => ?_⟩
  generalize hGenT9 : upd _ T9 _ = H29
  obtain ⟨s29, hT9⟩ := Same.ofG hNewT9 hGenT9
  replace hp := hp.mono s29
  replace hw := hw.tups (Tups.of s29)
  replace hA := s29 _ _ hA
  replace B := B.mono s29
  replace ht := ht.mono s29
  replace hT := Tabs.same hT s29
  replace hT1 := s29 _ _ hT1
  replace hT2 := s29 _ _ hT2
  replace hT3 := s29 _ _ hT3
  replace hT4 := s29 _ _ hT4
  replace hT5 := s29 _ _ hT5
  replace hT6 := s29 _ _ hT6
  replace hT7 := s29 _ _ hT7
  replace hLC := s29 _ _ hLC
  replace hT8 := s29 _ _ hT8
  refine ⟨by (first | (show _ ≤ sizeLine; decide) | (simp only [List.length_cons, List.length_nil]; decide)), fun T10 hNewT10 => ?_⟩
  generalize hGenT10 : upd _ T10 _ = H30
  obtain ⟨s30, hT10⟩ := Same.ofG hNewT10 hGenT10
  replace hp := hp.mono s30
  replace hw := hw.tups (Tups.of s30)
  replace hA := s30 _ _ hA
  replace B := B.mono s30
  replace ht := ht.mono s30
  replace hT := Tabs.same hT s30
  replace hT1 := s30 _ _ hT1
  replace hT2 := s30 _ _ hT2
  replace hT3 := s30 _ _ hT3
  replace hT4 := s30 _ _ hT4
  replace hT5 := s30 _ _ hT5
  replace hT6 := s30 _ _ hT6
  replace hT7 := s30 _ _ hT7
  replace hLC := s30 _ _ hLC
  replace hT8 := s30 _ _ hT8
  replace hT9 := s30 _ _ hT9
  refine ⟨_, rfl, _, _, rfl, rfl, ?_⟩
  dsimp only
  rw [er]
  refine ⟨[97], pl.room + 1, rfl, rfl, by show 1 * (pl.room + 1) ≤ 16777216; omega, by omega, ?_⟩
  rw [rep1]
  refine ⟨by (first | (show _ ≤ sizeLine; decide) | (simp only [List.length_cons, List.length_nil]; decide)), fun T11 hNewT11 => ?_⟩
  generalize hGenT11 : upd _ T11 _ = H31
  obtain ⟨s31, hT11⟩ := Same.ofG hNewT11 hGenT11
  replace hp := hp.mono s31
  replace hw := hw.tups (Tups.of s31)
  replace hA := s31 _ _ hA
  replace B := B.mono s31
  replace ht := ht.mono s31
  replace hT := Tabs.same hT s31
  replace hT1 := s31 _ _ hT1
  replace hT2 := s31 _ _ hT2
  replace hT3 := s31 _ _ hT3
  replace hT4 := s31 _ _ hT4
  replace hT5 := s31 _ _ hT5
  replace hT6 := s31 _ _ hT6
  replace hT7 := s31 _ _ hT7
  replace hLC := s31 _ _ hLC
  replace hT8 := s31 _ _ hT8
  replace hT9 := s31 _ _ hT9
  replace hT10 := s31 _ _ hT10
  refine ⟨by (first | (show _ ≤ sizeLine; decide) | (simp only [List.length_cons, List.length_nil]; decide)), fun T12 hNewT12 => ?_⟩
  generalize hGenT12 : upd _ T12 _ = H32
  obtain ⟨s32, hT12⟩ := Same.ofG hNewT12 hGenT12
  replace hp := hp.mono s32
  replace hw := hw.tups (Tups.of s32)
  replace hA := s32 _ _ hA
  replace B := B.mono s32
  replace ht := ht.mono s32
  replace hT := Tabs.same hT s32
  replace hT1 := s32 _ _ hT1
  replace hT2 := s32 _ _ hT2
  replace hT3 := s32 _ _ hT3
  replace hT4 := s32 _ _ hT4
  replace hT5 := s32 _ _ hT5
  replace hT6 := s32 _ _ hT6
  replace hT7 := s32 _ _ hT7
  replace hLC := s32 _ _ hLC
  replace hT8 := s32 _ _ hT8
  replace hT9 := s32 _ _ hT9
  replace hT10 := s32 _ _ hT10
  replace hT11 := s32 _ _ hT11
  refine ⟨by show 3 ≤ sizeLine; decide, fun L6 hNL6 => ?_⟩
  have fL6 := B.fresh hNL6
  generalize hGL6 : upd H32 L6 _ = H33
  obtain ⟨s33, hL6⟩ := Same.ofG hNL6 hGL6
  replace hp := hp.mono s33
  replace hw := hw.tups (Tups.of s33)
  replace hA := s33 _ _ hA
  replace B := B.mono s33
  replace ht := ht.mono s33
  replace hT := Tabs.same hT s33
  replace hT1 := s33 _ _ hT1
  replace hT2 := s33 _ _ hT2
  replace hT3 := s33 _ _ hT3
  replace hT4 := s33 _ _ hT4
  replace hT5 := s33 _ _ hT5
  replace hT6 := s33 _ _ hT6
  replace hT7 := s33 _ _ hT7
  replace hLC := s33 _ _ hLC
  replace hT8 := s33 _ _ hT8
  replace hT9 := s33 _ _ hT9
  replace hT10 := s33 _ _ hT10
  replace hT11 := s33 _ _ hT11
  replace hT12 := s33 _ _ hT12
  refine ⟨by (first | (show _ ≤ sizeLine; decide) | (simp only [List.length_cons, List.length_nil]; decide)), fun LD hNewLD => ?_⟩
  generalize hGenLD : upd _ LD _ = H34
  obtain ⟨s34, hLD⟩ := Same.ofG hNewLD hGenLD
  replace hp := hp.mono s34
  replace hw := hw.tups (Tups.of s34)
  replace hA := s34 _ _ hA
  replace B := B.mono s34
  replace ht := ht.mono s34
  replace hT := Tabs.same hT s34
  replace hT1 := s34 _ _ hT1
  replace hT2 := s34 _ _ hT2
  replace hT3 := s34 _ _ hT3
  replace hT4 := s34 _ _ hT4
  replace hT5 := s34 _ _ hT5
  replace hT6 := s34 _ _ hT6
  replace hT7 := s34 _ _ hT7
  replace hLC := s34 _ _ hLC
  replace hT8 := s34 _ _ hT8
  replace hT9 := s34 _ _ hT9
  replace hT10 := s34 _ _ hT10
  replace hT11 := s34 _ _ hT11
  replace hT12 := s34 _ _ hT12
  replace hL6 := s34 _ _ hL6
  refine ⟨LC, LD, _, _, rfl, rfl, hLC, hLD, by show 14 ≤ sizeLine; decide, fun LE hNLE => ?_⟩
  have fLE := B.fresh hNLE
  generalize hCLE : upd H34 LE _ = H35
  obtain ⟨s35, hLE⟩ := Same.ofG hNLE hCLE
  replace hp := hp.mono s35
  replace hw := hw.tups (Tups.of s35)
  replace hA := s35 _ _ hA
  replace B := B.mono s35
  replace ht := ht.mono s35
  replace hT := Tabs.same hT s35
  replace hT1 := s35 _ _ hT1
  replace hT2 := s35 _ _ hT2
  replace hT3 := s35 _ _ hT3
  replace hT4 := s35 _ _ hT4
  replace hT5 := s35 _ _ hT5
  replace hT6 := s35 _ _ hT6
  replace hT7 := s35 _ _ hT7
  replace hLC := s35 _ _ hLC
  replace hT8 := s35 _ _ hT8
  replace hT9 := s35 _ _ hT9
  replace hT10 := s35 _ _ hT10
  replace hT11 := s35 _ _ hT11
  replace hT12 := s35 _ _ hT12
  replace hL6 := s35 _ _ hL6
  replace hLD := s35 _ _ hLD
  refine gn ?_
  refine ⟨_, rfl, _, rfl, p, q, ns4, z4, 14, rfl, B, by decide, p9 (by decide), fun r ns36 z36 H36 r0 r1 B36 k36 => ?_⟩
  replace hp := hp.tups (k36.tups B)
  replace hw := hw.tups (k36.tups B)
  replace hA := (k36.tups B).t _ _ hA
  replace ht := ht.tups (k36.tups B)
  replace hT := Tabs.keep hT B k36
  replace hT1 := (k36.tups B).t _ _ hT1
  replace hT2 := (k36.tups B).t _ _ hT2
  replace hT3 := (k36.tups B).t _ _ hT3
  replace hT4 := (k36.tups B).t _ _ hT4
  replace hT5 := (k36.tups B).t _ _ hT5
  replace hT6 := (k36.tups B).t _ _ hT6
  replace hT7 := (k36.tups B).t _ _ hT7
  replace hT8 := (k36.tups B).t _ _ hT8
  replace hT9 := (k36.tups B).t _ _ hT9
  replace hT10 := (k36.tups B).t _ _ hT10
  replace hT11 := (k36.tups B).t _ _ hT11
  replace hT12 := (k36.tups B).t _ _ hT12
  replace hL6 := k36 _ _ hL6 fL6.1 fL6.2
  replace hLE := k36 _ _ hLE fLE.1 fLE.2
  have B := B36
  obtain ⟨k, rfl⟩ : ∃ k : Nat, r = (k : Int) := ⟨r.toNat, by omega⟩
  have nu : ∀ i : Int, 0 ≤ i → i ≤ pl.room → NumB H36 (.int i) 0 pl.room true := fun i h1 h2 => by
    show true = (decide ((0 : Int) ≤ i) && decide (i ≤ (pl.room : Int)))
    rw [decide_eq_true h1, decide_eq_true h2]
    rfl
  have nl : ∀ i : Int, i < 0 → NumB H36 (.int i) 0 pl.room false := fun i h1 => by
    show false = (decide ((0 : Int) ≤ i) && decide (i ≤ (pl.room : Int)))
    rw [decide_eq_false (by omega)]
    rfl
  obtain ⟨x, hx, hsx⟩ : ∃ x, ([.non, .ref T1, .ref T2, .ref T3, .ref T4, .ref T5, .ref T6, .ref T7] ++ [.ref T8, .ref T9, .ref T10, .ref T11, .ref T12, .ref L6] : List V)[k]? = some x ∧ TripleB H36 x pl false := by
    have : k = 0 ∨ k = 1 ∨ k = 2 ∨ k = 3 ∨ k = 4 ∨ k = 5 ∨ k = 6 ∨ k = 7 ∨ k = 8 ∨ k = 9 ∨ k = 10 ∨ k = 11 ∨ k = 12 ∨ k = 13 := by omega
    rcases this with rfl | rfl | rfl | rfl | rfl | rfl | rfl | rfl | rfl | rfl | rfl | rfl | rfl | rfl
    · exact ⟨_, rfl, .inl ⟨rfl, rfl⟩⟩
    · exact ⟨_, rfl, .inr ⟨T1, rfl, .inr (.inl ⟨_, hT1, by decide, rfl⟩)⟩⟩
    · exact ⟨_, rfl, tbZ 0 0 hT2 (by omega) (by omega) (by rw [s_e]; exact textN (by decide) (List.mem_cons_self ..) (no_sign (by decide)))⟩
    · exact ⟨_, rfl, tbW (l := []) 1 0 (by rw [← s_empty]; exact hT3) (by omega) (by omega) (by decide) (fun c h => by cases h) (by omega)⟩
    · exact ⟨_, rfl, tbY hT4 (nu 0 (by omega) (by omega)) (numZ _ _ (by rw [decide_eq_false (p := (pl.room : Int) + 1 ≤ pl.room) (by omega), Bool.and_false]))⟩
    · exact ⟨_, rfl, tbW (l := []) pl.room 1 (by rw [← s_empty]; exact hT5) (by omega) (by omega) (by decide) (fun c h => by cases h) (by omega)⟩
    · exact ⟨_, rfl, tbW (l := [97]) 0 pl.room hT6 (by omega) (by omega) (by decide) (fun c h => by rw [List.mem_singleton.mp h]; exact a_signs m1) (by show ¬ (_ ∧ _ ∧ 1 + pl.room ≤ pl.room); omega)⟩
    · exact ⟨_, rfl, tbX hT7 (nl _ (by decide))⟩
    · exact ⟨_, rfl, tbY hT8 (nu 0 (by omega) (by omega)) (nl _ (by decide))⟩
    · exact ⟨_, rfl, tbX hT9 rfl⟩
    · exact ⟨_, rfl, tbZ 0 1 hT10 (by omega) (by omega) rfl⟩
    · refine ⟨_, rfl, tbW 0 0 hT11 (by omega) (by omega) (by rw [List.length_replicate]; omega) (fun c hc => ?_) (by rw [List.length_replicate]; omega)⟩
      rw [(List.mem_replicate.mp hc).2]
      exact a_signs m1
    · exact ⟨_, rfl, .inr ⟨T12, rfl, .inr (.inl ⟨_, hT12, by decide, rfl⟩)⟩⟩
    · exact ⟨_, rfl, .inr ⟨L6, rfl, .inl ⟨_, hL6, rfl⟩⟩⟩
  refine ⟨LE, _, (k : Int), x, rfl, rfl, SqL.of hLE, atI_nat hx, ?_⟩
  refine gn ?_
  dsimp only
  refine ⟨hT, fun f5 H37 e37 hT37 nf5 G5 => ?_⟩
  replace hp := hp.ext e37
  replace hw := hw.tups (Tups.ofN e37)
  replace hA := e37 _ _ hA (by intro ps z; cases z)
  replace ht := ht.ext e37
  replace B := B.ext e37
  replace hsx := hsx.ext e37
  replace hT := hT37
  refine ⟨hT, fun f6 H38 e38 hT38 nf6 G6 => ?_⟩
  replace hp := hp.ext e38
  replace hw := hw.tups (Tups.ofN e38)
  replace hA := e38 _ _ hA (by intro ps z; cases z)
  replace ht := ht.ext e38
  replace B := B.ext e38
  replace hsx := hsx.ext e38
  replace G5 := G5.ext e38
  replace hT := hT38
  refine ⟨hT, fun f7 H39 e39 hT39 nf7 G7 => ?_⟩
  replace hp := hp.ext e39
  replace hw := hw.tups (Tups.ofN e39)
  replace hA := e39 _ _ hA (by intro ps z; cases z)
  replace ht := ht.ext e39
  replace B := B.ext e39
  replace hsx := hsx.ext e39
  replace G5 := G5.ext e39
  replace G6 := G6.ext e39
  replace hT := hT39
  refine ⟨by (first | (show _ ≤ sizeLine; decide) | (simp only [List.length_cons, List.length_nil]; decide)), fun D4 hNewD4 => ?_⟩
  generalize hGenD4 : upd _ D4 _ = H40
  obtain ⟨s40, hD4⟩ := Same.ofG hNewD4 hGenD4
  replace hp := hp.mono s40
  replace hw := hw.tups (Tups.of s40)
  replace hA := s40 _ _ hA
  replace ht := ht.mono s40
  replace B := B.mono s40
  replace hsx := hsx.mono s40
  replace G5 := G5.mono s40
  replace G6 := G6.mono s40
  replace hT := Tabs.same hT s40
  replace G7 := G7.mono s40
  refine gn ?_
  refine ⟨_, rfl, ?_⟩
  refine ⟨hT, fun f8 H41 e41 hT41 nf8 G8 => ?_⟩
  replace hp := hp.ext e41
  replace hw := hw.tups (Tups.ofN e41)
  replace hA := e41 _ _ hA (by intro ps z; cases z)
  replace ht := ht.ext e41
  replace B := B.ext e41
  replace hsx := hsx.ext e41
  replace G5 := G5.ext e41
  replace G6 := G6.ext e41
  replace G7 := G7.ext e41
  replace hD4 := e41 _ _ hD4 (by intro ps z; cases z)
  replace hT := hT41
  refine ⟨hT, fun f9 H42 e42 hT42 nf9 G9 => ?_⟩
  replace hp := hp.ext e42
  replace hw := hw.tups (Tups.ofN e42)
  replace hA := e42 _ _ hA (by intro ps z; cases z)
  replace ht := ht.ext e42
  replace B := B.ext e42
  replace hsx := hsx.ext e42
  replace G5 := G5.ext e42
  replace G6 := G6.ext e42
  replace G7 := G7.ext e42
  replace hD4 := e42 _ _ hD4 (by intro ps z; cases z)
  replace G8 := G8.ext e42
  replace hT := hT42
  refine ⟨hT, fun f10 H43 e43 hT43 nf10 G10 => ?_⟩
  replace hp := hp.ext e43
  replace hw := hw.tups (Tups.ofN e43)
  replace hA := e43 _ _ hA (by intro ps z; cases z)
  replace ht := ht.ext e43
  replace B := B.ext e43
  replace hsx := hsx.ext e43
  replace G5 := G5.ext e43
  replace G6 := G6.ext e43
  replace G7 := G7.ext e43
  replace hD4 := e43 _ _ hD4 (by intro ps z; cases z)
  replace G8 := G8.ext e43
  replace G9 := G9.ext e43
  replace hT := hT43
  refine ⟨by (first | (show _ ≤ sizeLine; decide) | (simp only [List.length_cons, List.length_nil]; decide)), fun D5 hNewD5 => ?_⟩
  generalize hGenD5 : upd _ D5 _ = H44
  obtain ⟨s44, hD5⟩ := Same.ofG hNewD5 hGenD5
  replace hp := hp.mono s44
  replace hw := hw.tups (Tups.of s44)
  replace hA := s44 _ _ hA
  replace ht := ht.mono s44
  replace B := B.mono s44
  replace hsx := hsx.mono s44
  replace G5 := G5.mono s44
  replace G6 := G6.mono s44
  replace G7 := G7.mono s44
  replace hD4 := s44 _ _ hD4
  replace G8 := G8.mono s44
  replace G9 := G9.mono s44
  replace hT := Tabs.same hT s44
  replace G10 := G10.mono s44
  refine ⟨D4, D5, _, _, rfl, rfl, hD4, hD5, by show 6 ≤ sizeLine; decide, fun D6 hND6 => ?_⟩
  have fD6 := B.fresh hND6
  generalize hCD6 : upd H44 D6 _ = H45
  obtain ⟨s45, hD6⟩ := Same.ofG hND6 hCD6
  replace hp := hp.mono s45
  replace hw := hw.tups (Tups.of s45)
  replace hA := s45 _ _ hA
  replace ht := ht.mono s45
  replace B := B.mono s45
  replace hsx := hsx.mono s45
  replace G5 := G5.mono s45
  replace G6 := G6.mono s45
  replace G7 := G7.mono s45
  replace hD4 := s45 _ _ hD4
  replace G8 := G8.mono s45
  replace G9 := G9.mono s45
  replace hT := Tabs.same hT s45
  replace G10 := G10.mono s45
  replace hD5 := s45 _ _ hD5
  refine gn ?_
  refine ⟨_, rfl, ?_⟩
  refine ⟨hT, fun f11 H46 e46 hT46 nf11 G11 => ?_⟩
  replace hp := hp.ext e46
  replace hw := hw.tups (Tups.ofN e46)
  replace hA := e46 _ _ hA (by intro ps z; cases z)
  replace ht := ht.ext e46
  replace B := B.ext e46
  replace hsx := hsx.ext e46
  replace G5 := G5.ext e46
  replace G6 := G6.ext e46
  replace G7 := G7.ext e46
  replace G8 := G8.ext e46
  replace G9 := G9.ext e46
  replace G10 := G10.ext e46
  replace hD6 := e46 _ _ hD6 (by intro ps z; cases z)
  replace hT := hT46
  refine ⟨hT, fun f12 H47 e47 hT47 nf12 G12 => ?_⟩
  replace hp := hp.ext e47
  replace hw := hw.tups (Tups.ofN e47)
  replace hA := e47 _ _ hA (by intro ps z; cases z)
  replace ht := ht.ext e47
  replace B := B.ext e47
  replace hsx := hsx.ext e47
  replace G5 := G5.ext e47
  replace G6 := G6.ext e47
  replace G7 := G7.ext e47
  replace G8 := G8.ext e47
  replace G9 := G9.ext e47
  replace G10 := G10.ext e47
  replace hD6 := e47 _ _ hD6 (by intro ps z; cases z)
  replace G11 := G11.ext e47
  replace hT := hT47
  refine ⟨by (first | (show _ ≤ sizeLine; decide) | (simp only [List.length_cons, List.length_nil]; decide)), fun D7 hNewD7 => ?_⟩
  generalize hGenD7 : upd _ D7 _ = H48
  obtain ⟨s48, hD7⟩ := Same.ofG hNewD7 hGenD7
  replace hp := hp.mono s48
  replace hw := hw.tups (Tups.of s48)
  replace hA := s48 _ _ hA
  replace ht := ht.mono s48
  replace B := B.mono s48
  replace hsx := hsx.mono s48
  replace G5 := G5.mono s48
  replace G6 := G6.mono s48
  replace G7 := G7.mono s48
  replace G8 := G8.mono s48
  replace G9 := G9.mono s48
  replace G10 := G10.mono s48
  replace hD6 := s48 _ _ hD6
  replace G11 := G11.mono s48
  replace hT := Tabs.same hT s48
  replace G12 := G12.mono s48
  refine ⟨D6, D7, _, _, rfl, rfl, hD6, hD7, by show 8 ≤ sizeLine; decide, fun D8 hND8 => ?_⟩
  have fD8 := B.fresh hND8
  generalize hCD8 : upd H48 D8 _ = H49
  obtain ⟨s49, hD8⟩ := Same.ofG hND8 hCD8
  replace hp := hp.mono s49
  replace hw := hw.tups (Tups.of s49)
  replace hA := s49 _ _ hA
  replace ht := ht.mono s49
  replace B := B.mono s49
  replace hsx := hsx.mono s49
  replace G5 := G5.mono s49
  replace G6 := G6.mono s49
  replace G7 := G7.mono s49
  replace G8 := G8.mono s49
  replace G9 := G9.mono s49
  replace G10 := G10.mono s49
  replace hD6 := s49 _ _ hD6
  replace G11 := G11.mono s49
  replace hT := Tabs.same hT s49
  replace G12 := G12.mono s49
  replace hD7 := s49 _ _ hD7
  refine gn ?_
  refine ⟨_, rfl, .inl ⟨rfl, _, SqL.of hD8⟩, ?_⟩
  refine ⟨hT, fun f13 H50 e50 hT50 nf13 G13 => ?_⟩
  replace hp := hp.ext e50
  replace hw := hw.tups (Tups.ofN e50)
  replace hA := e50 _ _ hA (by intro ps z; cases z)
  replace ht := ht.ext e50
  replace B := B.ext e50
  replace hsx := hsx.ext e50
  replace G5 := G5.ext e50
  replace G6 := G6.ext e50
  replace G7 := G7.ext e50
  replace G8 := G8.ext e50
  replace G9 := G9.ext e50
  replace G10 := G10.ext e50
  replace G11 := G11.ext e50
  replace G12 := G12.ext e50
  replace hD8 := e50 _ _ hD8 (by intro ps z; cases z)
  replace hT := hT50
  refine ⟨D8, _, _, rfl, rfl, hD8, by simp only [List.length_append, List.length_cons, List.length_nil]; exact szl (by decide), ?_⟩
  generalize hU : upd H50 D8 _ = H51
  have tU : Tups H50 H51 := by rw [← hU]; exact Tups.lst hD8
  have sU : Shp H50 H51 := by rw [← hU]; exact Shp.lst hD8
  replace hT : Tabs [(PT1, lamQk12), (PT, lamQk12_law_refuses)] H51 := by rw [← hU]; exact Tabs.upd hT hD8
  replace B : BoxAt H51 p q ns36 z36 := by rw [← hU]; exact BoxAt.upd B fD8
  replace hp := hp.tups tU
  replace hw := hw.tups tU
  replace ht := ht.tups tU
  replace hA := tU.t _ _ hA
  replace hsx := hsx.shp sU
  have tr : ∀ {X : Cx} {k : Nat} {fr : List Str} {f : Addr} {tb : XK → TE}, LamG X k fr H50 f tb → LamG X k fr H51 f tb := fun g => by rw [← hU]; exact g.upd hD8
  replace G5 := tr G5
  replace G6 := tr G6
  replace G7 := tr G7
  replace G8 := tr G8
  replace G9 := tr G9
  replace G10 := tr G10
  replace G11 := tr G11
  replace G12 := tr G12
  replace G13 := tr G13
  replace hD8 : H51 D8 = some (.lst ((([.ref f5, .ref f6, .ref f7] ++ [.ref f8, .ref f9, .ref f10]) ++ [.ref f11, .ref f12]) ++ [.ref f13])) := by rw [← hU]; exact upd_same
  clear hU tU sU tr
  refine ⟨_, rfl, ?_⟩
  refine ⟨hT, fun f14 H52 e52 hT52 nf14 G14 => ?_⟩
  replace hp := hp.ext e52
  replace hw := hw.tups (Tups.ofN e52)
  replace hA := e52 _ _ hA (by intro ps z; cases z)
  replace ht := ht.ext e52
  replace B := B.ext e52
  replace hsx := hsx.ext e52
  replace G5 := G5.ext e52
  replace G6 := G6.ext e52
  replace G7 := G7.ext e52
  replace G8 := G8.ext e52
  replace G9 := G9.ext e52
  replace G10 := G10.ext e52
  replace G11 := G11.ext e52
  replace G12 := G12.ext e52
  replace hD8 := e52 _ _ hD8 (by intro ps z; cases z)
  replace G13 := G13.ext e52
  replace hT := hT52
  refine ⟨by (first | (show _ ≤ sizeLine; decide) | (simp only [List.length_cons, List.length_nil]; decide)), fun D9 hNewD9 => ?_⟩
  generalize hGenD9 : upd _ D9 _ = H53
  obtain ⟨s53, hD9⟩ := Same.ofG hNewD9 hGenD9
  replace hp := hp.mono s53
  replace hw := hw.tups (Tups.of s53)
  replace hA := s53 _ _ hA
  replace ht := ht.mono s53
  replace B := B.mono s53
  replace hsx := hsx.mono s53
  replace G5 := G5.mono s53
  replace G6 := G6.mono s53
  replace G7 := G7.mono s53
  replace G8 := G8.mono s53
  replace G9 := G9.mono s53
  replace G10 := G10.mono s53
  replace G11 := G11.mono s53
  replace G12 := G12.mono s53
  replace hD8 := s53 _ _ hD8
  replace G13 := G13.mono s53
  replace hT := Tabs.same hT s53
  replace G14 := G14.mono s53
  refine ⟨D8, D9, _, _, rfl, rfl, hD8, hD9, by show 10 ≤ sizeLine; decide, fun D10 hND10 => ?_⟩
  have fD10 := B.fresh hND10
  generalize hCD10 : upd H53 D10 _ = H54
  obtain ⟨s54, hD10⟩ := Same.ofG hND10 hCD10
  replace hp := hp.mono s54
  replace hw := hw.tups (Tups.of s54)
  replace hA := s54 _ _ hA
  replace ht := ht.mono s54
  replace B := B.mono s54
  replace hsx := hsx.mono s54
  replace G5 := G5.mono s54
  replace G6 := G6.mono s54
  replace G7 := G7.mono s54
  replace G8 := G8.mono s54
  replace G9 := G9.mono s54
  replace G10 := G10.mono s54
  replace G11 := G11.mono s54
  replace G12 := G12.mono s54
  replace hD8 := s54 _ _ hD8
  replace G13 := G13.mono s54
  replace hT := Tabs.same hT s54
  replace G14 := G14.mono s54
  replace hD9 := s54 _ _ hD9
  refine ⟨by (first | (show _ ≤ sizeLine; decide) | (simp only [List.length_cons, List.length_nil]; decide)), fun TT2 hNewTT2 => ?_⟩
  generalize hGenTT2 : upd _ TT2 _ = H55
  obtain ⟨s55, hTT2⟩ := Same.ofG hNewTT2 hGenTT2
  replace hp := hp.mono s55
  replace hw := hw.tups (Tups.of s55)
  replace hA := s55 _ _ hA
  replace ht := ht.mono s55
  replace B := B.mono s55
  replace hsx := hsx.mono s55
  replace G5 := G5.mono s55
  replace G6 := G6.mono s55
  replace G7 := G7.mono s55
  replace G8 := G8.mono s55
  replace G9 := G9.mono s55
  replace G10 := G10.mono s55
  replace G11 := G11.mono s55
  replace G12 := G12.mono s55
  replace G13 := G13.mono s55
  replace hT := Tabs.same hT s55
  replace G14 := G14.mono s55
  replace hD10 := s55 _ _ hD10
  refine fun cs okX hl C => ?_
  have sA := Same.toAdd C.off
  have key : ∀ (E : XK) (H' : Hp), Same (addC H55 cs) H' → (∀ d H2, Same H' H2 → Fld 7 d 0 H2 → E (.ref (nAt ns 7)) d H2) → noP ns.c7 (subC H' cs) (fun cls d H2 => Off H2 cs → E cls d (addC H2 cs)) := fun E H' s' he H2 s2 off => he none (addC H2 cs) (Same.back (On.add.same s') off s2) ⟨rfl, rfl⟩
  refine ⟨D10, [f5, f6, f7, f8, f9, f10, f11, f12, f13, f14], TT2, 7, "BadTriple", 0, rfl, sA _ _ hD10, .inr (.inr (.inr (.inl rfl))), by decide, rfl, sA _ _ hTT2, fun f hf => ?_, fun H' s' => ⟨On.add.same s', ?_⟩⟩
  · simp only [List.mem_cons, List.not_mem_nil, or_false] at hf
    rcases hf with rfl | rfl | rfl | rfl | rfl | rfl | rfl | rfl | rfl | rfl
    · obtain ⟨F, hL, _⟩ := id G5
      refine ⟨F, _, sA _ _ hL.fn, G5.at okX hl C, fun E H' Q' s' he => ?_⟩
      have ky := key E H' s' he
      have sS := Same.sub C.off s'
      exact ⟨_, rfl, _, rfl, .ref A, pl, x, .non, false, rfl, hp.mono sS, ok, hsx.mono sS, ky⟩
    · obtain ⟨F, hL, _⟩ := id G6
      refine ⟨F, _, sA _ _ hL.fn, G6.at okX hl C, fun E H' Q' s' he => ?_⟩
      have ky := key E H' s' he
      have sS := Same.sub C.off s'
      exact ⟨_, rfl, _, rfl, _, rfl, .ref A, pl, y, x, true, rfl, hp.mono sS, ok, TripleB.good (ht.mono sS) tok r9, (show _ ∧ _ from ⟨hsx.mono sS, ky⟩)⟩
    · obtain ⟨F, hL, _⟩ := id G7
      refine ⟨F, _, sA _ _ hL.fn, G7.at okX hl C, fun E H' Q' s' he => ?_⟩
      have ky := key E H' s' he
      have sS := Same.sub C.off s'
      exact ⟨_, rfl, _, rfl, _, rfl, .ref A, pl, x, .int (-1), false, rfl, hp.mono sS, ok, hsx.mono sS, ky⟩
    · obtain ⟨F, hL, _⟩ := id G8
      refine ⟨F, _, sA _ _ hL.fn, G8.at okX hl C, fun E H' Q' s' he => ?_⟩
      have ky := key E H' s' he
      have sS := Same.sub C.off s'
      exact ⟨_, rfl, _, rfl, .ref A, pl, x, .non, false, rfl, hp.mono sS, ok, hsx.mono sS, ky⟩
    · obtain ⟨F, hL, _⟩ := id G9
      refine ⟨F, _, sA _ _ hL.fn, G9.at okX hl C, fun E H' Q' s' he => ?_⟩
      have ky := key E H' s' he
      have sS := Same.sub C.off s'
      exact ⟨_, rfl, _, rfl, .ref A, pl, x, [], rfl, rfl, hp.mono sS, ok, hsx.mono sS, ky⟩
    · obtain ⟨F, hL, _⟩ := id G10
      refine ⟨F, _, sA _ _ hL.fn, G10.at okX hl C, fun E H' Q' s' he => ?_⟩
      have ky := key E H' s' he
      have sS := Same.sub C.off s'
      exact ⟨_, rfl, _, rfl, .ref A, pl, x, [], rfl, rfl, hp.mono sS, ok, hsx.mono sS, ky⟩
    · obtain ⟨F, hL, _⟩ := id G11
      refine ⟨F, _, sA _ _ hL.fn, G11.at okX hl C, fun E H' Q' s' he => ?_⟩
      have ky := key E H' s' he
      have sS := Same.sub C.off s'
      exact ⟨_, rfl, _, rfl, .ref A, pl, x, .non, false, rfl, hp.mono sS, ok, hsx.mono sS, ky⟩
    · obtain ⟨F, hL, _⟩ := id G12
      refine ⟨F, _, sA _ _ hL.fn, G12.at okX hl C, fun E H' Q' s' he => ?_⟩
      have ky := key E H' s' he
      have sS := Same.sub C.off s'
      exact ⟨_, rfl, _, rfl, .ref A, pl, x, [], rfl, rfl, hp.mono sS, ok, hsx.mono sS, ky⟩
    · obtain ⟨F, hL, _⟩ := id G13
      refine ⟨F, _, sA _ _ hL.fn, G13.at okX hl C, fun E H' Q' s' he => ?_⟩
      have ky := key E H' s' he
      have sS := Same.sub C.off s'
      exact ⟨_, rfl, _, rfl, .ref A, pl, x, [], rfl, rfl, hp.mono sS, ok, hsx.mono sS, ky⟩
    · obtain ⟨F, hL, _⟩ := id G14
      refine ⟨F, _, sA _ _ hL.fn, G14.at okX hl C, fun E H' Q' s' he => ?_⟩
      have ky := key E H' s' he
      have sS := Same.sub C.off s'
      exact ⟨_, rfl, _, rfl, .ref A, pl, x, .non, false, rfl, hp.mono sS, ok, hsx.mono sS, ky⟩
  have s56 := Same.sub C.off s'
  generalize subC H' cs = H56 at s56
  replace hp := hp.mono s56
  replace hw := hw.tups (Tups.of s56)
  replace hA := s56 _ _ hA
  replace ht := ht.mono s56
  replace B := B.mono s56
  replace hT := Tabs.same hT s56
  refine ⟨_, rfl, iteF ?_⟩
  -- steps
  refine ⟨by (first | (show _ ≤ sizeLine; decide) | (simp only [List.length_cons, List.length_nil]; decide)), fun T13 hNewT13 => ?_⟩
  generalize hGenT13 : upd _ T13 _ = H57
  obtain ⟨s57, hT13⟩ := Same.ofG hNewT13 hGenT13
  replace hp := hp.mono s57
  replace hw := hw.tups (Tups.of s57)
  replace hA := s57 _ _ hA
  replace ht := ht.mono s57
  replace B := B.mono s57
  replace hT := Tabs.same hT s57
  refine ⟨by show 6 ≤ sizeLine; decide, fun LF hNLF => ?_⟩
  have fLF := B.fresh hNLF
  generalize hGLF : upd H57 LF _ = H58
  obtain ⟨s58, hLF⟩ := Same.ofG hNLF hGLF
  replace hp := hp.mono s58
  replace hw := hw.tups (Tups.of s58)
  replace hA := s58 _ _ hA
  replace ht := ht.mono s58
  replace B := B.mono s58
  replace hT := Tabs.same hT s58
  replace hT13 := s58 _ _ hT13
  refine ⟨_, rfl, p, q, ns36, z36, 6, rfl, B, by decide, p9 (by decide), fun r ns59 z59 H59 r0 r1 B59 k59 => ?_⟩
  replace hp := hp.tups (k59.tups B)
  replace hw := hw.tups (k59.tups B)
  replace hA := (k59.tups B).t _ _ hA
  replace ht := ht.tups (k59.tups B)
  replace hT := Tabs.keep hT B k59
  replace hT13 := (k59.tups B).t _ _ hT13
  replace hLF := k59 _ _ hLF fLF.1 fLF.2
  have B := B59
  obtain ⟨k, rfl⟩ : ∃ k : Nat, r = (k : Int) := ⟨r.toNat, by omega⟩
  obtain ⟨x, hx, hsx⟩ : ∃ x, ([.non, .str "e", .str "a b", .str "[a]2", .int 1, .ref T13] : List V)[k]? = some x ∧ StepsB H59 x pl false := by
    have : k = 0 ∨ k = 1 ∨ k = 2 ∨ k = 3 ∨ k = 4 ∨ k = 5 := by omega
    have no : ∀ c : Nat, c ∉ [97, 98, 99, 100] → c ≠ 45 → c ∉ signs pl.many ++ [45] := fun c h1 h2 h => by
      rcases List.mem_append.mp h with h | h
      · exact no_sign h1 h
      · exact h2 (List.mem_singleton.mp h)
    rcases this with rfl | rfl | rfl | rfl | rfl | rfl
    · exact ⟨_, rfl, rfl⟩
    · exact ⟨_, rfl, by rw [s_e]; exact textN (c := 101) (by decide) (by decide) (no _ (by decide) (by decide))⟩
    · exact ⟨_, rfl, by rw [s_ab]; exact textN (c := 32) (by decide) (by decide) (no _ (by decide) (by decide))⟩
    · exact ⟨_, rfl, by rw [s_bra]; exact textN (c := 91) (by decide) (by decide) (no _ (by decide) (by decide))⟩
    · exact ⟨_, rfl, rfl⟩
    · exact ⟨_, rfl, ⟨rfl, _, .inl hT13⟩⟩
  refine ⟨LF, _, (k : Int), x, rfl, rfl, SqL.of hLF, atI_nat hx, ?_⟩
  refine gn ?_
  refine ⟨hT, fun f15 H60 e60 hT60 nf15 G15 => ?_⟩
  replace hp := hp.ext e60
  replace hw := hw.tups (Tups.ofN e60)
  replace hA := e60 _ _ hA (by intro ps z; cases z)
  replace ht := ht.ext e60
  replace B := B.ext e60
  replace hsx := hsx.ext e60
  replace hT := hT60
  refine ⟨hT, fun f16 H61 e61 hT61 nf16 G16 => ?_⟩
  replace hp := hp.ext e61
  replace hw := hw.tups (Tups.ofN e61)
  replace hA := e61 _ _ hA (by intro ps z; cases z)
  replace ht := ht.ext e61
  replace B := B.ext e61
  replace hsx := hsx.ext e61
  replace G15 := G15.ext e61
  replace hT := hT61
  refine ⟨by (first | (show _ ≤ sizeLine; decide) | (simp only [List.length_cons, List.length_nil]; decide)), fun D11 hNewD11 => ?_⟩
  generalize hGenD11 : upd _ D11 _ = H62
  obtain ⟨s62, hD11⟩ := Same.ofG hNewD11 hGenD11
  replace hp := hp.mono s62
  replace hw := hw.tups (Tups.of s62)
  replace hA := s62 _ _ hA
  replace ht := ht.mono s62
  replace B := B.mono s62
  replace hsx := hsx.mono s62
  replace G15 := G15.mono s62
  replace hT := Tabs.same hT s62
  replace G16 := G16.mono s62
  refine ⟨by (first | (show _ ≤ sizeLine; decide) | (simp only [List.length_cons, List.length_nil]; decide)), fun TT3 hNewTT3 => ?_⟩
  generalize hGenTT3 : upd _ TT3 _ = H63
  obtain ⟨s63, hTT3⟩ := Same.ofG hNewTT3 hGenTT3
  replace hp := hp.mono s63
  replace hw := hw.tups (Tups.of s63)
  replace hA := s63 _ _ hA
  replace ht := ht.mono s63
  replace B := B.mono s63
  replace hsx := hsx.mono s63
  replace G15 := G15.mono s63
  replace hT := Tabs.same hT s63
  replace G16 := G16.mono s63
  replace hD11 := s63 _ _ hD11
  refine fun cs okX hl C => ?_
  have sA := Same.toAdd C.off
  have key : ∀ (E : XK) (H' : Hp), Same (addC H63 cs) H' → (∀ d H2, Same H' H2 → Fld 5 d 0 H2 → E (.ref (nAt ns 5)) d H2) → noP ns.c5 (subC H' cs) (fun cls d H2 => Off H2 cs → E cls d (addC H2 cs)) := fun E H' s' he H2 s2 off => he none (addC H2 cs) (Same.back (On.add.same s') off s2) ⟨rfl, rfl⟩
  refine ⟨D11, [f15, f16], TT3, 5, "BadSteps", 0, rfl, sA _ _ hD11, .inr (.inr (.inl rfl)), by decide, rfl, sA _ _ hTT3, fun f hf => ?_, fun H' s' => ⟨On.add.same s', ?_⟩⟩
  · simp only [List.mem_cons, List.not_mem_nil, or_false] at hf
    rcases hf with rfl | rfl
    · obtain ⟨F, hL, _⟩ := id G15
      refine ⟨F, _, sA _ _ hL.fn, G15.at okX hl C, fun E H' Q' s' he => ?_⟩
      have ky := key E H' s' he
      have sS := Same.sub C.off s'
      exact ⟨_, rfl, _, rfl, .ref A, pl, x, rfl, hp.mono sS, ok, hsx.mono sS, ky⟩
    · obtain ⟨F, hL, _⟩ := id G16
      refine ⟨F, _, sA _ _ hL.fn, G16.at okX hl C, fun E H' Q' s' he => ?_⟩
      have ky := key E H' s' he
      have sS := Same.sub C.off s'
      exact ⟨_, rfl, _, rfl, _, rfl, .ref A, pl, y, x, true, rfl, hp.mono sS, ok, TripleB.good (ht.mono sS) tok r9, (show _ ∧ _ from ⟨hsx.mono sS, ky⟩)⟩
  have s64 := Same.sub C.off s'
  generalize subC H' cs = H64 at s64
  replace hp := hp.mono s64
  replace hw := hw.tups (Tups.of s64)
  replace hA := s64 _ _ hA
  replace ht := ht.mono s64
  replace B := B.mono s64
  replace hT := Tabs.same hT s64
  refine ⟨_, rfl, iteF ?_⟩
  -- counts
  refine ⟨_, rfl, ?_⟩
  refine ⟨_, _, rfl, rfl, in45p, _, _, rfl, rfl, ?_⟩
  rw [in45]
  dsimp only
  refine ⟨by show 5 ≤ sizeLine; decide, fun LG hNLG => ?_⟩
  have fLG := B.fresh hNLG
  generalize hGLG : upd H64 LG _ = H65
  obtain ⟨s65, hLG⟩ := Same.ofG hNLG hGLG
  replace hp := hp.mono s65
  replace hw := hw.tups (Tups.of s65)
  replace hA := s65 _ _ hA
  replace ht := ht.mono s65
  replace B := B.mono s65
  replace hT := Tabs.same hT s65
  refine ⟨_, rfl, p, q, ns59, z59, 5, rfl, B, by decide, p9 (by decide), fun r ns66 z66 H66 r0 r1 B66 k66 => ?_⟩
  replace hp := hp.tups (k66.tups B)
  replace hw := hw.tups (k66.tups B)
  replace hA := (k66.tups B).t _ _ hA
  replace ht := ht.tups (k66.tups B)
  replace hT := Tabs.keep hT B k66
  replace hLG := k66 _ _ hLG fLG.1 fLG.2
  have B := B66
  obtain ⟨k, rfl⟩ : ∃ k : Nat, r = (k : Int) := ⟨r.toNat, by omega⟩
  obtain ⟨x, hx, hsx⟩ : ∃ x, ([.int (-1), .int (1000000000000000000 + 1), .non, .bl true, .str "2"] : List V)[k]? = some x ∧ ∀ H', NumB H' x 0 1000000000000000000 false := by
    have : k = 0 ∨ k = 1 ∨ k = 2 ∨ k = 3 ∨ k = 4 := by omega
    rcases this with rfl | rfl | rfl | rfl | rfl
    · exact ⟨_, rfl, fun H' => rfl⟩
    · exact ⟨_, rfl, fun H' => rfl⟩
    · exact ⟨_, rfl, fun H' => rfl⟩
    · exact ⟨_, rfl, fun H' => rfl⟩
    · exact ⟨_, rfl, fun H' => rfl⟩
  refine ⟨LG, _, (k : Int), x, rfl, rfl, SqL.of hLG, atI_nat hx, ?_⟩
  refine gn ?_
  refine ⟨hT, fun f17 H67 e67 hT67 nf17 G17 => ?_⟩
  replace hp := hp.ext e67
  replace hw := hw.tups (Tups.ofN e67)
  replace hA := e67 _ _ hA (by intro ps z; cases z)
  replace ht := ht.ext e67
  replace B := B.ext e67
  replace hT := hT67
  refine ⟨by (first | (show _ ≤ sizeLine; decide) | (simp only [List.length_cons, List.length_nil]; decide)), fun D12 hNewD12 => ?_⟩
  generalize hGenD12 : upd _ D12 _ = H68
  obtain ⟨s68, hD12⟩ := Same.ofG hNewD12 hGenD12
  replace hp := hp.mono s68
  replace hw := hw.tups (Tups.of s68)
  replace hA := s68 _ _ hA
  replace ht := ht.mono s68
  replace B := B.mono s68
  replace hT := Tabs.same hT s68
  replace G17 := G17.mono s68
  refine ⟨by (first | (show _ ≤ sizeLine; decide) | (simp only [List.length_cons, List.length_nil]; decide)), fun TT4 hNewTT4 => ?_⟩
  generalize hGenTT4 : upd _ TT4 _ = H69
  obtain ⟨s69, hTT4⟩ := Same.ofG hNewTT4 hGenTT4
  replace hp := hp.mono s69
  replace hw := hw.tups (Tups.of s69)
  replace hA := s69 _ _ hA
  replace ht := ht.mono s69
  replace B := B.mono s69
  replace hT := Tabs.same hT s69
  replace G17 := G17.mono s69
  replace hD12 := s69 _ _ hD12
  refine fun cs okX hl C => ?_
  have sA := Same.toAdd C.off
  have key : ∀ (E : XK) (H' : Hp), Same (addC H69 cs) H' → (∀ d H2, Same H' H2 → Fld 0 d 0 H2 → E (.ref (nAt ns 0)) d H2) → noP ns.c0 (subC H' cs) (fun cls d H2 => Off H2 cs → E cls d (addC H2 cs)) := fun E H' s' he H2 s2 off => he none (addC H2 cs) (Same.back (On.add.same s') off s2) ⟨rfl, rfl⟩
  refine ⟨D12, [f17], TT4, 0, "BadCount", 0, rfl, sA _ _ hD12, .inl rfl, by decide, rfl, sA _ _ hTT4, fun f hf => ?_, fun H' s' => ⟨On.add.same s', ?_⟩⟩
  · obtain rfl : f = f17 := List.mem_singleton.mp hf
    obtain ⟨F, hL, _⟩ := id G17
    refine ⟨F, _, sA _ _ hL.fn, G17.at okX hl C, fun E H' Q' s' he => ?_⟩
    have ky := key E H' s' he
    have sS := Same.sub C.off s'
    exact ⟨_, rfl, _, rfl, _, rfl, .ref A, pl, y, x, true, rfl, hp.mono sS, ok, TripleB.good (ht.mono sS) tok r9, (show _ ∧ _ from ⟨hsx _, ky⟩)⟩
  have s70 := Same.sub C.off s'
  generalize subC H' cs = H70 at s70
  replace hp := hp.mono s70
  replace hw := hw.tups (Tups.of s70)
  replace hA := s70 _ _ hA
  replace ht := ht.mono s70
  replace B := B.mono s70
  replace hT := Tabs.same hT s70
  exact qq _ _ _ B hT
theorem ab_odd {l : List Nat} (h : l.length ≠ 1) : OddS (.str (tx l)) := .inr ⟨l, rfl, fun c _ e => h (by rw [e]; rfl)⟩
theorem e_odd : OddS (.str (tx [101])) := .inr ⟨_, rfl, fun c hc e => by
  have : c = 101 := (List.cons.inj e).1.symm
  subst this
  revert hc
  decide⟩
theorem s_abT : ("ab" : Str) = tx [97, 98] := by decide +kernel
theorem repV {n : Nat} {v : V} : (List.replicate n [v]).flatten = List.replicate n v := by
  induction n with
  | zero => rfl
  | succ n ih => rw [List.replicate_succ, List.flatten_cons, ih, List.replicate_succ]; rfl
theorem rep_xat {H : Hp} {w : W} {v : V} (n : Nat) (h : XAt H w v) : XsAt H (ofL (List.replicate n w)) (List.replicate n v) := by
  refine ofL_xat (by rw [List.length_replicate, List.length_replicate]) fun i x e => ?_
  obtain ⟨hi, e2⟩ := List.getElem?_eq_some_iff.mp e
  rw [List.length_replicate] at hi
  rw [List.getElem_replicate] at e2
  exact ⟨w, by rw [List.getElem?_replicate, if_pos hi], e2 ▸ h⟩
theorem rep_xcan {m n : Nat} {w : W} (hn : n ≤ 1000) (h : w.XCan m) : (W.row (ofL (List.replicate n w))).XCan m := ⟨by rw [ofL_lenX, List.length_replicate]; exact hn, ofL_xcan fun x hx => by rw [(List.mem_replicate.mp hx).2]; exact h⟩
/-- something that can't be, alone -/
theorem xBad {H : Hp} {m : Nat} {v : V} (h : BadL H v) : ∃ wo : W, XAt H wo v ∧ wo.XCan m := ⟨.push 1000, .inl ⟨Nat.le_refl _, h⟩, .inl (Nat.le_refl _)⟩
theorem xBadT {H : Hp} {m : Nat} {T : Addr} {xs : List V} (hT : H T = some (.tup xs)) (h : BadT H xs) : ∃ wo : W, XAt H wo (.ref T) ∧ wo.XCan m := xBad (.inr (.inr (.inr ⟨T, xs, rfl, hT, h⟩)))
theorem nx_seq {F G : L2.St → Hp → Prop} {R : VK} {B : L2.St → Hp → Prop} {σ : L2.St} {H : Hp} (h : F σ H) : Ends.nx ⟨F, R, B, G⟩ σ H := h
theorem at_six {a b c d e f : V} : atI (([a, b, c] ++ [d, e]) ++ [f]) 0 = some a := atI_nat (j := 0) rfl
theorem cut_six {a b c d e f : V} : cutV (([a, b, c] ++ [d, e]) ++ [f]) (some 1) none = [b, c, d, e, f] := cut_suf _ (k := 1) (by show 1 ≤ 6; decide)
theorem nop_ {σ : L2.St} {H : Hp} {k : Option Int → Hp → Prop} (h : k none H) : tNoPart σ H k := h
theorem seq_by {a b : TS} {D : Ends} {σ : L2.St} {H : Hp} (Good : L2.St → Hp → Prop) (ha : ∀ (R : L2.St → Hp → Prop), (∀ σ' H', Good σ' H' → R σ' H') → a { D with nx := R } σ H) (hb : ∀ σ' H', Good σ' H' → b D σ' H') : tSeq a b D σ H := ha _ hb
theorem sevTake {σ : L2.St} {H : Hp} {Q : VK} {p q : Addr} {ns : List Int} {z : Int} (hσ : σ[1]? = some (some (.ref p))) (B : BoxAt H p q ns z)
    (h : ∀ (r : Nat) (ns' : List Int) (z' : Int) (H' : Hp), r ≤ 9 → BoxAt H' p q ns' z' → Keep p q H H' → Q (.int (r : Int)) H') :
    tOp (rI0 fun i j => V.int (i + j)) (tC (V.int 7)) (tCall spTake [] C8.E0 (tCons (tVar 1) (tCons (tC (V.int 3)) tNil))) σ H Q := by
  refine ⟨_, hσ, p, q, ns, z, 3, rfl, B, by decide, p9 (by decide), fun f n1 z1 H1 f0 f1 B1 k1 => ?_⟩
  refine ⟨_, _, rfl, rfl, ?_⟩
  dsimp only
  have e1 : 7 + f = (((7 + f).toNat : Nat) : Int) := by omega
  rw [e1]
  exact h _ n1 z1 H1 (by omega) B1 k1
theorem fr_law : ∀ y ∈ (["_law_bad", "_law_good", "_law_machine", "_law_plan_here"] : List Str), (defScope s_law).names.lookup y = some .cell := by decide +kernel
theorem ok_law {f cL PT : Addr} {ns : Nine} {oc : Value} {od an : Option Addr} {osl : Array (Option Value)} {kV doc pm ct : Value} (lk : K.lookup f = some ⟨oc, od, .func (PySem.W.fnOf "law" "law" (defArgs s_law) (defBody s_law) (defScope s_law) .none kV doc pm an (.ref cL) ct), osl⟩) (hcd : PySem.W.codeIn K (.ref cL) "law" = true) (TB : LamX.TabB base mg cL PT) {PT2 : Addr} (hPT : PT ≠ PT2) (g : Gx mg) (c_law_begun : C8.Cal P w K mg base 1 "_law_begun" (spLBegun K) []) (c_law_plan : C8.Cal P w K mg base 2 "_law_plan" spLPlan []) (c_law_some : C8.Cal P w K mg base 10 "_law_some" (spLSome 8) []) (c_law_take : C8.Cal P w K mg base 1 "_law_take" spTake []) (c_law_spoilt : C8.Cal P w K mg base 7 "_law_spoilt" (spSpoilt 6) []) (c_law_first : C8.Cal P w K mg base 9 "_law_first" (spFirst 9) []) (c_M_init : C8.Mak P w K mg base 4 "Machine" C (spMInit C) []) (c_law_all : C8.Cal P w K mg base 21 "_law_all" (spAllL P w K mg base 13 IS12 ns) []) (c_law_told : C8.Cal P w K mg base 14 "_law_told" (spToldL P w K mg base 13 IS12 ns) []) (c_M_deeds : C8.Met P w K mg base 1 C "deeds" (spMDeeds C) []) (c_law_refuses : C8.Cal P w K mg base 22 "_law_refuses" (spRefuses [(PT, lamQk12), (PT2, lamQk12_law_refuses)]) []) (x_told : CalX P w K mg base 12 "told" (spToldY ns.c8)) (x_run : CalX P w K mg base 4 "run" (spRunY ns.c8 ns.c4)) (x_alike : CalX P w K mg base 4 "alike" (spTwoY ns.c8)) (x_parting : CalX P w K mg base 4 "parting" (spTwoY ns.c8)) (x_cost : CalX P w K mg base 4 "cost" (spCostY ns.c8)) (x_written : CalX P w K mg base 4 "written" (spCostY ns.c8)) (x_M_do : MetX P w K mg base 4 C "do" (spMDoY C ns.c8)) (x_Machine : MakX P w K mg base 4 "Machine" C (spMInitY ns.c4)) (x_done : CalX P w K mg base 4 "done" (spT2 (fun H x p => StackB H x p false) ns.c7 ns.c4)) (x_befores : CalX P w K mg base 4 "befores" (spT2 (fun H x p => StackB H x p false) ns.c7 ns.c4)) (x_joined : CalX P w K mg base 4 "joined" (spT2 (fun H x p => TripleB H x p false) ns.c7 ns.c7)) (x_powered : CalX P w K mg base 4 "powered" (spT2 (fun H x p => NumB H x 0 1000000000000000000 false) ns.c7 ns.c0)) (x_judged : CalX P w K mg base 4 "judged" (spT2 (fun H x p => StepsB H x p false) ns.c7 ns.c5)) (x_cheapest : CalX P w K mg base 4 "cheapest" (spT1 0 ns.c7)) (x_fewest : CalX P w K mg base 4 "fewest" (spT1 0 ns.c7)) (x_fillers : CalX P w K mg base 4 "fillers" (spT1 0 ns.c7)) (x_number_of : CalX P w K mg base 4 "number_of" (spT1 0 ns.c7)) (x_told_of_steps : CalX P w K mg base 4 "told_of_steps" (spStepsY ns.c5)) : FnOk P w K mg base CX0 23 f (PySem.W.fnOf "law" "law" (defArgs s_law) (defBody s_law) (defScope s_law) .none kV doc pm an (.ref cL) ct) P_law (spLawT K [(PT, lamQk12), (PT2, lamQk12_law_refuses)]) := by
  refine fn_of lk hcd sc_law (fun vs H Q E h => ?_) (fun A outer s H vs Q E hr h => ?_)
  · obtain ⟨a, ns0, rfl, hS, h63, hT, kk⟩ := h
    rfl
  suffices hh : ∃ t, PSs (cxOf CX0 P w K mg base N_law "law" (defScope s_law) f (.ref cL) A outer s H E).nox (defBody s_law) t ∧ t { nx := fun _ H' => Q .non H', rt := Q } (start N_law vs) H by
    obtain ⟨t, h1, h2⟩ := hh
    exact ⟨t, h1.nox, h2⟩
  obtain ⟨a, ns0, rfl, hS, h63, hT, kk⟩ := h
  have nd := sc_law.nd
  refine ⟨_, (pss_cons (ps_set (i := 1) nd rfl (.inl rfl) (C8.pe_c c_law_begun hr (by decide) rfl (pa_cons (pv 0) pa_nil)))
    (pss_cons (ps_for PassesOwn.never rfl (pi_range1 (by rfl) g.range (pa_cons pe_int pa_nil)) (pg_name (i := 2) nd rfl (.inl rfl)) (pss_cons (ps_set (i := 12) nd rfl (.inr rfl) (C8.pe_c c_law_plan hr (by decide) rfl (pa_cons (pv 1) (pa_cons pe_int (pa_cons pe_int pa_nil)))))
    (pss_cons (ps_set (i := 3) nd rfl (.inl rfl) (C8.pe_c c_law_some hr (by decide) rfl (pa_cons (pv 1) (pa_cons (pv 12) (pa_cons pe_int (pa_cons pe_int (pa_cons pe_int pa_nil)))))))
    (pss_cons (ps_set (i := 4) nd rfl (.inl rfl) (pe_lst (pa_cons pe_non (pa_cons (pe_tup pa_nil) (pa_cons (pe_tup (pa_cons pe_str pa_nil)) (pa_cons (pe_tup (pa_cons pe_str (pa_cons pe_str pa_nil))) (pa_cons (pe_tup (pa_cons pe_str (pa_cons pe_str pa_nil))) (pa_cons (pe_tup (pa_cons pe_str (pa_cons pe_str pa_nil))) (pa_cons (pe_tup (pa_cons pe_str (pa_cons pe_int pa_nil))) (pa_cons (pe_lst (pa_cons pe_str pa_nil)) (pa_cons (pe_tup (pa_cons pe_str (pa_cons (pe_lst (pa_cons pe_str pa_nil)) pa_nil))) pa_nil)))))))))))
    (pss_cons (ps_set (i := 4) nd rfl (.inl rfl) (pe_op op_cat (pv 4) (pe_lst (pa_cons (pe_tup (pa_cons pe_str (pa_cons (pe_tup (pa_cons pe_str pa_nil)) pa_nil))) (pa_cons (pe_tup (pa_cons pe_str (pa_cons (pe_un un_neg pe_int) (pa_cons (pe_tup (pa_cons pe_str pa_nil)) pa_nil)))) (pa_cons (pe_tup (pa_cons pe_str (pa_cons pe_bl (pa_cons (pe_tup (pa_cons pe_str pa_nil)) pa_nil)))) pa_nil))))))
    (pss_cons (ps_expr (pe_bm PySem.F.plainAttrs_list PySem.F.slot_list_append PySem.F.type_list_append mt_append (pv 4) (pa_cons (pe_tup (pa_cons pe_str (pa_cons (pe_op op_add (pe_op op_pow pe_int pe_int) pe_int) (pa_cons pe_non pa_nil)))) pa_nil)))
    (pss_cons (ps_set (i := 4) nd rfl (.inl rfl) (pe_op op_cat (pv 4) (pe_lst (pa_cons (pe_tup (pa_cons pe_str (pa_cons pe_int (pa_cons (pe_tup (pa_cons pe_str pa_nil)) (pa_cons pe_int pa_nil))))) (pa_cons (pe_tup (pa_cons pe_str pa_nil)) (pa_cons (pe_tup (pa_cons pe_str (pa_cons (pe_op op_repT2 (pe_tup (pa_cons (pe_tup (pa_cons pe_str pa_nil)) pa_nil)) pe_int) pa_nil))) (pa_cons (pe_tup (pa_cons pe_str (pa_cons pe_int (pa_cons (pe_tup (pa_cons pe_str (pa_cons pe_non pa_nil))) pa_nil)))) pa_nil)))))))
    (pss_cons (ps_set (i := 5) nd rfl (.inl rfl) (pe_tup (pa_cons pe_str pa_nil)))
    (pss_cons (ps_for PassesOwn.never rfl (pi_range1 (by rfl) g.range (pa_cons (pe_op op_add pe_int (C8.pe_c c_law_take hr (by decide) rfl (pa_cons (pv 1) (pa_cons pe_int pa_nil)))) pa_nil)) (pg_name (i := 6) nd rfl (.inl rfl)) (pss_one (ps_set (i := 5) nd rfl (.inl rfl) (pe_ix ix_list (pe_lst (pa_cons (pe_tup (pa_cons pe_str (pa_cons pe_int (pa_cons (pv 5) pa_nil)))) (pa_cons (pe_tup (pa_cons pe_str (pa_cons (pe_tup (pa_cons (pe_tup (pa_cons pe_str pa_nil)) (pa_cons (pv 5) pa_nil))) pa_nil))) pa_nil))) (C8.pe_c c_law_take hr (by decide) rfl (pa_cons (pv 1) (pa_cons pe_int pa_nil))) (fun _ _ => rfl)))))
    (pss_cons (ps_set (i := 4) nd rfl (.inl rfl) (pe_ix ix_list (pe_op op_cat (pv 4) (pe_lst (pa_cons (pv 5) (pa_cons (pe_tup (pa_cons pe_str (pa_cons (pe_op op_repT2 (pe_tup (pa_cons (pe_tup (pa_cons pe_str (pa_cons (pe_tup pa_nil) pa_nil))) pa_nil)) pe_int) pa_nil))) pa_nil)))) (C8.pe_c c_law_take hr (by decide) rfl (pa_cons (pv 1) (pa_cons pe_int pa_nil))) (fun _ _ => rfl)))
    (pss_cons (ps_set (i := 9) nd rfl (.inr rfl) (C8.pe_c c_law_spoilt hr (by decide) rfl (pa_cons (pv 1) (pa_cons (pv 12) (pa_cons (pv 3) (pa_cons (pv 4) pa_nil))))))
    (pss_cons (ps_asg (pe_tup (pa_cons (pe_ix ix_tup (C8.pe_c c_law_first hr (by decide) rfl (pa_cons (pv 12) (pa_cons (pv 9) (pa_cons pe_int (pa_cons pe_int pa_nil))))) pe_int (fun _ _ => rfl)) (pa_cons (pe_tup (pa_cons pe_str pa_nil)) pa_nil))) (pg_tup (by rfl) (pgs_cons (pg_name (i := 7) nd rfl (.inl rfl)) (pgs_cons (pg_name (i := 10) nd rfl (.inr rfl)) pgs_nil))))
    (pss_cons (ps_set (i := 8) nd rfl (.inl rfl) (pe_lst (pa_cons (pe_lam0 (T := [(PT, lamQk12), (PT2, lamQk12_law_refuses)]) (c := cL) (PT := PT) (k := 12) (fr := ["_law_bad", "_law_good", "_law_machine", "_law_plan_here"]) TB rfl (List.mem_cons.mpr (.inl rfl)) (fun p hp hq => huA hPT hp hq) (lamS2_by (N := N_law) (fr := ["_law_bad", "_law_good", "_law_machine", "_law_plan_here"]) (by decide +kernel)) ⟨fun _ _ => rfl, fr_law⟩ rfl (fun _ _ _ _ _ _ => rfl) (fun A outer s H E f c' hr2 => (pe_cL x_told hr2 (by decide) rfl (pa_cons (pv 12) (pa_cons (pv 9) pa_nil))))) (pa_cons (pe_lam1 (pn := "_law_a") (T := [(PT, lamQk12), (PT2, lamQk12_law_refuses)]) (c := cL) (PT := PT) (k := 12) (fr := ["_law_bad", "_law_good", "_law_machine", "_law_plan_here"]) TB rfl (List.mem_cons.mpr (.inl rfl)) (fun p hp hq => huA hPT hp hq) (lamS2_by (N := N_law) (fr := ["_law_bad", "_law_good", "_law_machine", "_law_plan_here"]) (by decide +kernel)) ⟨fun _ _ => rfl, fr_law⟩ rfl rfl (by rfl) (fun _ _ _ _ _ _ _ => ⟨_, rfl, fun _ => rfl⟩) (fun A outer s H E f c' hr2 => (pe_cL x_run hr2 (by decide) rfl (pa_cons (pv 12) (pa_cons (pv 9) (pa_cons pe_non pa_nil)))))) (pa_cons (pe_lam1 (pn := "_law_b") (T := [(PT, lamQk12), (PT2, lamQk12_law_refuses)]) (c := cL) (PT := PT) (k := 12) (fr := ["_law_bad", "_law_good", "_law_machine", "_law_plan_here"]) TB rfl (List.mem_cons.mpr (.inl rfl)) (fun p hp hq => huA hPT hp hq) (lamS2_by (N := N_law) (fr := ["_law_bad", "_law_good", "_law_machine", "_law_plan_here"]) (by decide +kernel)) ⟨fun _ _ => rfl, fr_law⟩ rfl rfl (by rfl) (fun _ _ _ _ _ _ _ => ⟨_, rfl, fun _ => rfl⟩) (fun A outer s H E f c' hr2 => (pe_cL x_alike hr2 (by decide) rfl (pa_cons (pv 12) (pa_cons (pv 9) (pa_cons pe_non pa_nil)))))) pa_nil)))))
    (pss_cons (ps_set (i := 8) nd rfl (.inl rfl) (pe_op op_cat (pv 8) (pe_lst (pa_cons (pe_lam1 (pn := "_law_c") (T := [(PT, lamQk12), (PT2, lamQk12_law_refuses)]) (c := cL) (PT := PT) (k := 12) (fr := ["_law_bad", "_law_good", "_law_machine", "_law_plan_here"]) TB rfl (List.mem_cons.mpr (.inl rfl)) (fun p hp hq => huA hPT hp hq) (lamS2_by (N := N_law) (fr := ["_law_bad", "_law_good", "_law_machine", "_law_plan_here"]) (by decide +kernel)) ⟨fun _ _ => rfl, fr_law⟩ rfl rfl (by rfl) (fun _ _ _ _ _ _ _ => ⟨_, rfl, fun _ => rfl⟩) (fun A outer s H E f c' hr2 => (pe_cL x_parting hr2 (by decide) rfl (pa_cons (pv 12) (pa_cons (pv 10) (pa_cons (pv 9) pa_nil)))))) (pa_cons (pe_lam1 (pn := "_law_d") (T := [(PT, lamQk12), (PT2, lamQk12_law_refuses)]) (c := cL) (PT := PT) (k := 12) (fr := ["_law_bad", "_law_good", "_law_machine", "_law_plan_here"]) TB rfl (List.mem_cons.mpr (.inl rfl)) (fun p hp hq => huA hPT hp hq) (lamS2_by (N := N_law) (fr := ["_law_bad", "_law_good", "_law_machine", "_law_plan_here"]) (by decide +kernel)) ⟨fun _ _ => rfl, fr_law⟩ rfl rfl (by rfl) (fun _ _ _ _ _ _ _ => ⟨_, rfl, fun _ => rfl⟩) (fun A outer s H E f c' hr2 => (pe_cL x_cost hr2 (by decide) rfl (pa_cons (pv 12) (pa_cons (pv 9) pa_nil))))) pa_nil)))))
    (pss_cons (ps_expr (pe_bm PySem.F.plainAttrs_list PySem.F.slot_list_append PySem.F.type_list_append mt_append (pv 8) (pa_cons (pe_lam1 (pn := "_law_f") (T := [(PT, lamQk12), (PT2, lamQk12_law_refuses)]) (c := cL) (PT := PT) (k := 12) (fr := ["_law_bad", "_law_good", "_law_machine", "_law_plan_here"]) TB rfl (List.mem_cons.mpr (.inl rfl)) (fun p hp hq => huA hPT hp hq) (lamS2_by (N := N_law) (fr := ["_law_bad", "_law_good", "_law_machine", "_law_plan_here"]) (by decide +kernel)) ⟨fun _ _ => rfl, fr_law⟩ rfl rfl (by rfl) (fun _ _ _ _ _ _ _ => ⟨_, rfl, fun _ => rfl⟩) (fun A outer s H E f c' hr2 => (pe_cL x_written hr2 (by decide) rfl (pa_cons (pv 12) (pa_cons (pv 9) pa_nil))))) pa_nil)))
    (pss_cons (ps_set (i := 11) nd rfl (.inr rfl) (C8.pe_mk c_M_init hr (by decide) rfl (pa_cons (pv 12) (pa_cons pe_str pa_nil))))
    (pss_cons (ps_if (pt_cmpR op_notN (pv 7) pe_non (nomark _)) (pss_one (ps_if (pt_not (pt_val (pe_cC c_law_all hr (by decide) rfl ⟨fun _ _ => rfl, fr_law⟩ (pa_cons (pe_op op_cat (pe_op op_cat (pe_lst (pa_cons (pe_ix ix_list (pv 8) pe_int (fun _ _ => rfl)) pa_nil)) (pe_slice sl_list (pv 8) (po_some pe_int) po_none)) (pe_lst (pa_cons (pe_lam1 (pn := "_law_g") (T := [(PT, lamQk12), (PT2, lamQk12_law_refuses)]) (c := cL) (PT := PT) (k := 12) (fr := ["_law_bad", "_law_good", "_law_machine", "_law_plan_here"]) TB rfl (List.mem_cons.mpr (.inl rfl)) (fun p hp hq => huA hPT hp hq) (lamS2_by (N := N_law) (fr := ["_law_bad", "_law_good", "_law_machine", "_law_plan_here"]) (by decide +kernel)) ⟨fun _ _ => rfl, fr_law⟩ rfl rfl (by rfl) (fun _ _ _ _ _ _ _ => ⟨_, rfl, fun _ => rfl⟩) (fun A outer s H E f c' hr2 => (pe_mtL x_M_do hr2 (by decide) (pv 11) (pa_cons (pv 9) pa_nil)))) pa_nil))) (pa_cons (pe_tup (pa_cons pe_str (pa_cons (pv 7) pa_nil))) pa_nil))))) (pss_one (ps_ret pe_bl)) pss_nil)) (pss_one (ps_if (pt_cmpR op_eq (pe_ix ix_tup (pe_cC c_law_told hr (by decide) rfl ⟨fun _ _ => rfl, fr_law⟩ (pa_cons (pe_ix ix_list (pv 8) pe_int (fun _ _ => rfl)) pa_nil)) pe_int (fun _ _ => rfl)) pe_str (nomark _)) (pss_one (ps_ret pe_bl)) pss_nil)))
    (pss_one (ps_if (PW.pt (pw_or (pt_cmpR op_ne (C8.pe_mt0 c_M_deeds hr (by decide) (pv 11)) pe_int (nomark _)) (pw_or1 (pt_not (pt_val (C8.pe_c c_law_refuses hr (by decide) rfl (pa_cons (pv 1) (pa_cons (pv 12) (pa_cons (pv 3) pa_nil))))))))) (pss_one (ps_ret pe_bl)) pss_nil)))))))))))))))))))
    (pss_one (ps_ret pe_bl)))), ?_⟩
  refine ⟨_, rfl, a, ns0, rfl, hS, h63, fun p q z H1 s1 B np nq => ?_⟩
  replace hT := Tabs.same hT s1
  refine ⟨4, rfl, by decide, by decide, for_range (lo := 0) (n := 4) (fun i σ H2 => ∃ (o2 o3 o4 o5 o6 o7 o8 o9 o10 o11 o12 : Option V) (ns2 : List Int) (z2 : Int), σ = [some (.ref a), some (.ref p), o2, o3, o4, o5, o6, o7, o8, o9, o10, o11, o12] ∧ BoxAt H2 p q ns2 z2 ∧ Tabs [(PT, lamQk12), (PT2, lamQk12_law_refuses)] H2)
    ⟨_, _, _, _, _, _, _, _, _, _, _, ns0, z, rfl, B, hT⟩ ?_ ?_⟩
  · rintro i σ H2 hi ⟨o2, o3, o4, o5, o6, o7, o8, o9, o10, o11, o12, ns2, z2, rfl, B, hT⟩
    refine gn ?_
    dsimp only
    refine ⟨_, rfl, p, q, ns2, z2, 9, 4, rfl, B, by decide, by decide, by decide, by decide, fun pl v ns3 z3 H3 ok hR hM hp B3 k3 => ?_⟩
    replace hT := Tabs.keep hT B k3
    have r9 := ok.r9
    have m1 := ok.m1
    have m4 := ok.m4
    obtain ⟨A, PR, rfl, hA, _⟩ := id hp
    refine gn ?_
    refine ⟨_, rfl, _, rfl, p, q, ns3, z3, .ref A, pl, 6, 4, 60, rfl, B3, hp, ok, by decide, by decide, by decide, by decide, by decide, by decide, fun wk u ns4 z4 H4 can hdep hsiz htm hw B k4 => ?_⟩
    replace hT := Tabs.keep hT B3 k4
    replace hp := hp.tups (k4.tups B3)
    replace hA := (k4.tups B3).t _ _ hA
    refine gn ?_
    dsimp only
    rw [s_empty, s_abT, s_e]
    refine ⟨by (first | (show _ ≤ sizeLine; decide) | (simp only [List.length_cons, List.length_nil]; decide)), fun T1 hNewT1 => ?_⟩
    generalize hGenT1 : upd _ T1 _ = H5
    obtain ⟨s5, hT1⟩ := Same.ofG hNewT1 hGenT1
    replace hT := Tabs.same hT s5
    replace hp := hp.mono s5
    replace hA := s5 _ _ hA
    replace B := B.mono s5
    replace hw := hw.tups (Tups.of s5)
    refine ⟨by (first | (show _ ≤ sizeLine; decide) | (simp only [List.length_cons, List.length_nil]; decide)), fun T2 hNewT2 => ?_⟩
    generalize hGenT2 : upd _ T2 _ = H6
    obtain ⟨s6, hT2⟩ := Same.ofG hNewT2 hGenT2
    replace hT := Tabs.same hT s6
    replace hp := hp.mono s6
    replace hA := s6 _ _ hA
    replace B := B.mono s6
    replace hw := hw.tups (Tups.of s6)
    replace hT1 := s6 _ _ hT1
    refine ⟨by (first | (show _ ≤ sizeLine; decide) | (simp only [List.length_cons, List.length_nil]; decide)), fun T3 hNewT3 => ?_⟩
    generalize hGenT3 : upd _ T3 _ = H7
    obtain ⟨s7, hT3⟩ := Same.ofG hNewT3 hGenT3
    replace hT := Tabs.same hT s7
    replace hp := hp.mono s7
    replace hA := s7 _ _ hA
    replace B := B.mono s7
    replace hw := hw.tups (Tups.of s7)
    replace hT1 := s7 _ _ hT1
    replace hT2 := s7 _ _ hT2
    refine ⟨by (first | (show _ ≤ sizeLine; decide) | (simp only [List.length_cons, List.length_nil]; decide)), fun T4 hNewT4 => ?_⟩
    generalize hGenT4 : upd _ T4 _ = H8
    obtain ⟨s8, hT4⟩ := Same.ofG hNewT4 hGenT4
    replace hT := Tabs.same hT s8
    replace hp := hp.mono s8
    replace hA := s8 _ _ hA
    replace B := B.mono s8
    replace hw := hw.tups (Tups.of s8)
    replace hT1 := s8 _ _ hT1
    replace hT2 := s8 _ _ hT2
    replace hT3 := s8 _ _ hT3
    refine ⟨by (first | (show _ ≤ sizeLine; decide) | (simp only [List.length_cons, List.length_nil]; decide)), fun T5 hNewT5 => ?_⟩
    generalize hGenT5 : upd _ T5 _ = H9
    obtain ⟨s9, hT5⟩ := Same.ofG hNewT5 hGenT5
    replace hT := Tabs.same hT s9
    replace hp := hp.mono s9
    replace hA := s9 _ _ hA
    replace B := B.mono s9
    replace hw := hw.tups (Tups.of s9)
    replace hT1 := s9 _ _ hT1
    replace hT2 := s9 _ _ hT2
    replace hT3 := s9 _ _ hT3
    replace hT4 := s9 _ _ hT4
    refine ⟨by (first | (show _ ≤ sizeLine; decide) | (simp only [List.length_cons, List.length_nil]; decide)), fun T6 hNewT6 => ?_⟩
    generalize hGenT6 : upd _ T6 _ = H10
    obtain ⟨s10, hT6⟩ := Same.ofG hNewT6 hGenT6
    replace hT := Tabs.same hT s10
    replace hp := hp.mono s10
    replace hA := s10 _ _ hA
    replace B := B.mono s10
    replace hw := hw.tups (Tups.of s10)
    replace hT1 := s10 _ _ hT1
    replace hT2 := s10 _ _ hT2
    replace hT3 := s10 _ _ hT3
    replace hT4 := s10 _ _ hT4
    replace hT5 := s10 _ _ hT5
    refine ⟨by show 1 ≤ sizeLine; decide, fun LA hNLA => ?_⟩
    have fLA := B.fresh hNLA
    generalize hGLA : upd H10 LA _ = H11
    obtain ⟨s11, hLA⟩ := Same.ofG hNLA hGLA
    replace hT := Tabs.same hT s11
    replace hp := hp.mono s11
    replace hA := s11 _ _ hA
    replace B := B.mono s11
    replace hw := hw.tups (Tups.of s11)
    replace hT1 := s11 _ _ hT1
    replace hT2 := s11 _ _ hT2
    replace hT3 := s11 _ _ hT3
    replace hT4 := s11 _ _ hT4
    replace hT5 := s11 _ _ hT5
    replace hT6 := s11 _ _ hT6
    refine ⟨by show 1 ≤ sizeLine; decide, fun LB hNLB => ?_⟩
    have fLB := B.fresh hNLB
    generalize hGLB : upd H11 LB _ = H12
    obtain ⟨s12, hLB⟩ := Same.ofG hNLB hGLB
    replace hT := Tabs.same hT s12
    replace hp := hp.mono s12
    replace hA := s12 _ _ hA
    replace B := B.mono s12
    replace hw := hw.tups (Tups.of s12)
    replace hT1 := s12 _ _ hT1
    replace hT2 := s12 _ _ hT2
    replace hT3 := s12 _ _ hT3
    replace hT4 := s12 _ _ hT4
    replace hT5 := s12 _ _ hT5
    replace hT6 := s12 _ _ hT6
    replace hLA := s12 _ _ hLA
    refine ⟨by (first | (show _ ≤ sizeLine; decide) | (simp only [List.length_cons, List.length_nil]; decide)), fun T7 hNewT7 => ?_⟩
    generalize hGenT7 : upd _ T7 _ = H13
    obtain ⟨s13, hT7⟩ := Same.ofG hNewT7 hGenT7
    replace hT := Tabs.same hT s13
    replace hp := hp.mono s13
    replace hA := s13 _ _ hA
    replace B := B.mono s13
    replace hw := hw.tups (Tups.of s13)
    replace hT1 := s13 _ _ hT1
    replace hT2 := s13 _ _ hT2
    replace hT3 := s13 _ _ hT3
    replace hT4 := s13 _ _ hT4
    replace hT5 := s13 _ _ hT5
    replace hT6 := s13 _ _ hT6
    replace hLA := s13 _ _ hLA
    replace hLB := s13 _ _ hLB
    refine ⟨by show 9 ≤ sizeLine; decide, fun L1 hNL1 => ?_⟩
    have fL1 := B.fresh hNL1
    generalize hGL1 : upd H13 L1 _ = H14
    obtain ⟨s14, hL1⟩ := Same.ofG hNL1 hGL1
    replace hT := Tabs.same hT s14
    replace hp := hp.mono s14
    replace hA := s14 _ _ hA
    replace B := B.mono s14
    replace hw := hw.tups (Tups.of s14)
    replace hT1 := s14 _ _ hT1
    replace hT2 := s14 _ _ hT2
    replace hT3 := s14 _ _ hT3
    replace hT4 := s14 _ _ hT4
    replace hT5 := s14 _ _ hT5
    replace hT6 := s14 _ _ hT6
    replace hLA := s14 _ _ hLA
    replace hLB := s14 _ _ hLB
    replace hT7 := s14 _ _ hT7
    refine gn ?_
    refine ⟨_, rfl, ?_⟩
    refine ⟨by (first | (show _ ≤ sizeLine; decide) | (simp only [List.length_cons, List.length_nil]; decide)), fun T8 hNewT8 => ?_⟩
    generalize hGenT8 : upd _ T8 _ = H15
    obtain ⟨s15, hT8⟩ := Same.ofG hNewT8 hGenT8
    replace hT := Tabs.same hT s15
    replace hp := hp.mono s15
    replace hA := s15 _ _ hA
    replace B := B.mono s15
    replace hw := hw.tups (Tups.of s15)
    replace hT1 := s15 _ _ hT1
    replace hT2 := s15 _ _ hT2
    replace hT3 := s15 _ _ hT3
    replace hT4 := s15 _ _ hT4
    replace hT5 := s15 _ _ hT5
    replace hT6 := s15 _ _ hT6
    replace hLA := s15 _ _ hLA
    replace hLB := s15 _ _ hLB
    replace hT7 := s15 _ _ hT7
    replace hL1 := s15 _ _ hL1
    refine ⟨by (first | (show _ ≤ sizeLine; decide) | (simp only [List.length_cons, List.length_nil]; decide)), fun T9 hNewT9 => ?_⟩
    generalize hGenT9 : upd _ T9 _ = H16
    obtain ⟨s16, hT9⟩ := Same.ofG hNewT9 hGenT9
    replace hT := Tabs.same hT s16
    replace hp := hp.mono s16
    replace hA := s16 _ _ hA
    replace B := B.mono s16
    replace hw := hw.tups (Tups.of s16)
    replace hT1 := s16 _ _ hT1
    replace hT2 := s16 _ _ hT2
    replace hT3 := s16 _ _ hT3
    replace hT4 := s16 _ _ hT4
    replace hT5 := s16 _ _ hT5
    replace hT6 := s16 _ _ hT6
    replace hLA := s16 _ _ hLA
    replace hLB := s16 _ _ hLB
    replace hT7 := s16 _ _ hT7
    replace hL1 := s16 _ _ hL1
    replace hT8 := s16 _ _ hT8
    refine ⟨_, rfl, ?_⟩
    refine ⟨by (first | (show _ ≤ sizeLine; decide) | (simp only [List.length_cons, List.length_nil]; decide)), fun T10 hNewT10 => ?_⟩
    generalize hGenT10 : upd _ T10 _ = H17
    obtain ⟨s17, hT10⟩ := Same.ofG hNewT10 hGenT10
    replace hT := Tabs.same hT s17
    replace hp := hp.mono s17
    replace hA := s17 _ _ hA
    replace B := B.mono s17
    replace hw := hw.tups (Tups.of s17)
    replace hT1 := s17 _ _ hT1
    replace hT2 := s17 _ _ hT2
    replace hT3 := s17 _ _ hT3
    replace hT4 := s17 _ _ hT4
    replace hT5 := s17 _ _ hT5
    replace hT6 := s17 _ _ hT6
    replace hLA := s17 _ _ hLA
    replace hLB := s17 _ _ hLB
    replace hT7 := s17 _ _ hT7
    replace hL1 := s17 _ _ hL1
    replace hT8 := s17 _ _ hT8
    replace hT9 := s17 _ _ hT9
    refine ⟨by (first | (show _ ≤ sizeLine; decide) | (simp only [List.length_cons, List.length_nil]; decide)), fun T11 hNewT11 => ?_⟩
    generalize hGenT11 : upd _ T11 _ = H18
    obtain ⟨s18, hT11⟩ := Same.ofG hNewT11 hGenT11
    replace hT := Tabs.same hT s18
    replace hp := hp.mono s18
    replace hA := s18 _ _ hA
    replace B := B.mono s18
    replace hw := hw.tups (Tups.of s18)
    replace hT1 := s18 _ _ hT1
    replace hT2 := s18 _ _ hT2
    replace hT3 := s18 _ _ hT3
    replace hT4 := s18 _ _ hT4
    replace hT5 := s18 _ _ hT5
    replace hT6 := s18 _ _ hT6
    replace hLA := s18 _ _ hLA
    replace hLB := s18 _ _ hLB
    replace hT7 := s18 _ _ hT7
    replace hL1 := s18 _ _ hL1
    replace hT8 := s18 _ _ hT8
    replace hT9 := s18 _ _ hT9
    replace hT10 := s18 _ _ hT10
    refine ⟨by (first | (show _ ≤ sizeLine; decide) | (simp only [List.length_cons, List.length_nil]; decide)), fun T12 hNewT12 => ?_⟩
    generalize hGenT12 : upd _ T12 _ = H19
    obtain ⟨s19, hT12⟩ := Same.ofG hNewT12 hGenT12
    replace hT := Tabs.same hT s19
    replace hp := hp.mono s19
    replace hA := s19 _ _ hA
    replace B := B.mono s19
    replace hw := hw.tups (Tups.of s19)
    replace hT1 := s19 _ _ hT1
    replace hT2 := s19 _ _ hT2
    replace hT3 := s19 _ _ hT3
    replace hT4 := s19 _ _ hT4
    replace hT5 := s19 _ _ hT5
    replace hT6 := s19 _ _ hT6
    replace hLA := s19 _ _ hLA
    replace hLB := s19 _ _ hLB
    replace hT7 := s19 _ _ hT7
    replace hL1 := s19 _ _ hL1
    replace hT8 := s19 _ _ hT8
    replace hT9 := s19 _ _ hT9
    replace hT10 := s19 _ _ hT10
    replace hT11 := s19 _ _ hT11
    refine ⟨by (first | (show _ ≤ sizeLine; decide) | (simp only [List.length_cons, List.length_nil]; decide)), fun T13 hNewT13 => ?_⟩
    generalize hGenT13 : upd _ T13 _ = H20
    obtain ⟨s20, hT13⟩ := Same.ofG hNewT13 hGenT13
    replace hT := Tabs.same hT s20
    replace hp := hp.mono s20
    replace hA := s20 _ _ hA
    replace B := B.mono s20
    replace hw := hw.tups (Tups.of s20)
    replace hT1 := s20 _ _ hT1
    replace hT2 := s20 _ _ hT2
    replace hT3 := s20 _ _ hT3
    replace hT4 := s20 _ _ hT4
    replace hT5 := s20 _ _ hT5
    replace hT6 := s20 _ _ hT6
    replace hLA := s20 _ _ hLA
    replace hLB := s20 _ _ hLB
    replace hT7 := s20 _ _ hT7
    replace hL1 := s20 _ _ hL1
    replace hT8 := s20 _ _ hT8
    replace hT9 := s20 _ _ hT9
    replace hT10 := s20 _ _ hT10
    replace hT11 := s20 _ _ hT11
    replace hT12 := s20 _ _ hT12
    refine ⟨by (first | (show _ ≤ sizeLine; decide) | (simp only [List.length_cons, List.length_nil]; decide)), fun L2 hNewL2 => ?_⟩
    generalize hGenL2 : upd _ L2 _ = H21
    obtain ⟨s21, hL2⟩ := Same.ofG hNewL2 hGenL2
    replace hT := Tabs.same hT s21
    replace hp := hp.mono s21
    replace hA := s21 _ _ hA
    replace B := B.mono s21
    replace hw := hw.tups (Tups.of s21)
    replace hT1 := s21 _ _ hT1
    replace hT2 := s21 _ _ hT2
    replace hT3 := s21 _ _ hT3
    replace hT4 := s21 _ _ hT4
    replace hT5 := s21 _ _ hT5
    replace hT6 := s21 _ _ hT6
    replace hLA := s21 _ _ hLA
    replace hLB := s21 _ _ hLB
    replace hT7 := s21 _ _ hT7
    replace hL1 := s21 _ _ hL1
    replace hT8 := s21 _ _ hT8
    replace hT9 := s21 _ _ hT9
    replace hT10 := s21 _ _ hT10
    replace hT11 := s21 _ _ hT11
    replace hT12 := s21 _ _ hT12
    replace hT13 := s21 _ _ hT13
    refine ⟨L1, L2, _, _, rfl, rfl, hL1, hL2, by show 12 ≤ sizeLine; decide, fun L3 hNL3 => ?_⟩
    have fL3 := B.fresh hNL3
    generalize hCL3 : upd H21 L3 _ = H22
    obtain ⟨s22, hL3⟩ := Same.ofG hNL3 hCL3
    replace hT := Tabs.same hT s22
    replace hp := hp.mono s22
    replace hA := s22 _ _ hA
    replace B := B.mono s22
    replace hw := hw.tups (Tups.of s22)
    replace hT1 := s22 _ _ hT1
    replace hT2 := s22 _ _ hT2
    replace hT3 := s22 _ _ hT3
    replace hT4 := s22 _ _ hT4
    replace hT5 := s22 _ _ hT5
    replace hT6 := s22 _ _ hT6
    replace hLA := s22 _ _ hLA
    replace hLB := s22 _ _ hLB
    replace hT7 := s22 _ _ hT7
    replace hL1 := s22 _ _ hL1
    replace hT8 := s22 _ _ hT8
    replace hT9 := s22 _ _ hT9
    replace hT10 := s22 _ _ hT10
    replace hT11 := s22 _ _ hT11
    replace hT12 := s22 _ _ hT12
    replace hT13 := s22 _ _ hT13
    replace hL2 := s22 _ _ hL2
    refine gn ?_
    refine ⟨_, rfl, .inl ⟨rfl, _, SqL.of hL3⟩, ?_⟩
    refine ⟨_, _, rfl, rfl, in45p, _, _, rfl, rfl, ?_⟩
    rw [in45]
    dsimp only
    refine ⟨by (first | (show _ ≤ sizeLine; decide) | (simp only [List.length_cons, List.length_nil]; decide)), fun T14 hNewT14 => ?_⟩
    generalize hGenT14 : upd _ T14 _ = H23
    obtain ⟨s23, hT14⟩ := Same.ofG hNewT14 hGenT14
    replace hT := Tabs.same hT s23
    replace hp := hp.mono s23
    replace hA := s23 _ _ hA
    replace B := B.mono s23
    replace hw := hw.tups (Tups.of s23)
    replace hT1 := s23 _ _ hT1
    replace hT2 := s23 _ _ hT2
    replace hT3 := s23 _ _ hT3
    replace hT4 := s23 _ _ hT4
    replace hT5 := s23 _ _ hT5
    replace hT6 := s23 _ _ hT6
    replace hLA := s23 _ _ hLA
    replace hLB := s23 _ _ hLB
    replace hT7 := s23 _ _ hT7
    replace hT8 := s23 _ _ hT8
    replace hT9 := s23 _ _ hT9
    replace hT10 := s23 _ _ hT10
    replace hT11 := s23 _ _ hT11
    replace hT12 := s23 _ _ hT12
    replace hT13 := s23 _ _ hT13
    replace hL3 := s23 _ _ hL3
    refine ⟨L3, _, _, rfl, rfl, hL3, by simp only [List.length_append, List.length_cons, List.length_nil]; exact szl (by decide), ?_⟩
    generalize hU : upd H23 L3 _ = H24
    have nU : Nice H23 H24 := by
      rw [← hU]
      exact Nice.lst hL3 (fun z => by cases z)
    have hT : Tabs [(PT, lamQk12), (PT2, lamQk12_law_refuses)] H24 := by rw [← hU]; exact Tabs.upd hT hL3
    have B : BoxAt H24 p q ns4 z4 := by rw [← hU]; exact BoxAt.upd B fL3
    have hp := hp.tups nU.t
    have hw := hw.tups nU.t
    have hLA := nU.l _ hLA
    have hLB := nU.l _ hLB
    have hA := nU.t.t _ _ hA
    have hT1 := nU.t.t _ _ hT1
    have hT2 := nU.t.t _ _ hT2
    have hT3 := nU.t.t _ _ hT3
    have hT4 := nU.t.t _ _ hT4
    have hT5 := nU.t.t _ _ hT5
    have hT6 := nU.t.t _ _ hT6
    have hT7 := nU.t.t _ _ hT7
    have hT8 := nU.t.t _ _ hT8
    have hT9 := nU.t.t _ _ hT9
    have hT10 := nU.t.t _ _ hT10
    have hT11 := nU.t.t _ _ hT11
    have hT12 := nU.t.t _ _ hT12
    have hT13 := nU.t.t _ _ hT13
    have hT14 := nU.t.t _ _ hT14
    have hL3 : H24 L3 = some (.lst ([.non, .ref T1, .ref T2, .ref T3, .ref T4, .ref T5, .ref T6, .ref LA, .ref T7] ++ [.ref T9, .ref T11, .ref T13] ++ [.ref T14])) := by rw [← hU]; exact upd_same
    clear hU
    refine ⟨_, rfl, ?_⟩
    refine ⟨by (first | (show _ ≤ sizeLine; decide) | (simp only [List.length_cons, List.length_nil]; decide)), fun T15 hNewT15 => ?_⟩
    generalize hGenT15 : upd _ T15 _ = H25
    obtain ⟨s25, hT15⟩ := Same.ofG hNewT15 hGenT15
    replace hT := Tabs.same hT s25
    replace B := B.mono s25
    replace hp := hp.mono s25
    replace hw := hw.tups (Tups.of s25)
    replace hA := s25 _ _ hA
    replace hLA := s25 _ _ hLA
    replace hLB := s25 _ _ hLB
    replace hL3 := s25 _ _ hL3
    replace hT1 := s25 _ _ hT1
    replace hT2 := s25 _ _ hT2
    replace hT3 := s25 _ _ hT3
    replace hT4 := s25 _ _ hT4
    replace hT5 := s25 _ _ hT5
    replace hT6 := s25 _ _ hT6
    replace hT7 := s25 _ _ hT7
    replace hT8 := s25 _ _ hT8
    replace hT9 := s25 _ _ hT9
    replace hT10 := s25 _ _ hT10
    replace hT11 := s25 _ _ hT11
    replace hT12 := s25 _ _ hT12
    replace hT13 := s25 _ _ hT13
    replace hT14 := s25 _ _ hT14
    refine ⟨by (first | (show _ ≤ sizeLine; decide) | (simp only [List.length_cons, List.length_nil]; decide)), fun T16 hNewT16 => ?_⟩
    generalize hGenT16 : upd _ T16 _ = H26
    obtain ⟨s26, hT16⟩ := Same.ofG hNewT16 hGenT16
    replace hT := Tabs.same hT s26
    replace B := B.mono s26
    replace hp := hp.mono s26
    replace hw := hw.tups (Tups.of s26)
    replace hA := s26 _ _ hA
    replace hLA := s26 _ _ hLA
    replace hLB := s26 _ _ hLB
    replace hL3 := s26 _ _ hL3
    replace hT1 := s26 _ _ hT1
    replace hT2 := s26 _ _ hT2
    replace hT3 := s26 _ _ hT3
    replace hT4 := s26 _ _ hT4
    replace hT5 := s26 _ _ hT5
    replace hT6 := s26 _ _ hT6
    replace hT7 := s26 _ _ hT7
    replace hT8 := s26 _ _ hT8
    replace hT9 := s26 _ _ hT9
    replace hT10 := s26 _ _ hT10
    replace hT11 := s26 _ _ hT11
    replace hT12 := s26 _ _ hT12
    replace hT13 := s26 _ _ hT13
    replace hT14 := s26 _ _ hT14
    replace hT15 := s26 _ _ hT15
    refine ⟨by (first | (show _ ≤ sizeLine; decide) | (simp only [List.length_cons, List.length_nil]; decide)), fun T17 hNewT17 => ?_⟩
    generalize hGenT17 : upd _ T17 _ = H27
    obtain ⟨s27, hT17⟩ := Same.ofG hNewT17 hGenT17
    replace hT := Tabs.same hT s27
    replace B := B.mono s27
    replace hp := hp.mono s27
    replace hw := hw.tups (Tups.of s27)
    replace hA := s27 _ _ hA
    replace hLA := s27 _ _ hLA
    replace hLB := s27 _ _ hLB
    replace hL3 := s27 _ _ hL3
    replace hT1 := s27 _ _ hT1
    replace hT2 := s27 _ _ hT2
    replace hT3 := s27 _ _ hT3
    replace hT4 := s27 _ _ hT4
    replace hT5 := s27 _ _ hT5
    replace hT6 := s27 _ _ hT6
    replace hT7 := s27 _ _ hT7
    replace hT8 := s27 _ _ hT8
    replace hT9 := s27 _ _ hT9
    replace hT10 := s27 _ _ hT10
    replace hT11 := s27 _ _ hT11
    replace hT12 := s27 _ _ hT12
    replace hT13 := s27 _ _ hT13
    replace hT14 := s27 _ _ hT14
    replace hT15 := s27 _ _ hT15
    replace hT16 := s27 _ _ hT16
    refine ⟨by (first | (show _ ≤ sizeLine; decide) | (simp only [List.length_cons, List.length_nil]; decide)), fun T18 hNewT18 => ?_⟩
    generalize hGenT18 : upd _ T18 _ = H28
    obtain ⟨s28, hT18⟩ := Same.ofG hNewT18 hGenT18
    replace hT := Tabs.same hT s28
    replace B := B.mono s28
    replace hp := hp.mono s28
    replace hw := hw.tups (Tups.of s28)
    replace hA := s28 _ _ hA
    replace hLA := s28 _ _ hLA
    replace hLB := s28 _ _ hLB
    replace hL3 := s28 _ _ hL3
    replace hT1 := s28 _ _ hT1
    replace hT2 := s28 _ _ hT2
    replace hT3 := s28 _ _ hT3
    replace hT4 := s28 _ _ hT4
    replace hT5 := s28 _ _ hT5
    replace hT6 := s28 _ _ hT6
    replace hT7 := s28 _ _ hT7
    replace hT8 := s28 _ _ hT8
    replace hT9 := s28 _ _ hT9
    replace hT10 := s28 _ _ hT10
    replace hT11 := s28 _ _ hT11
    replace hT12 := s28 _ _ hT12
    replace hT13 := s28 _ _ hT13
    replace hT14 := s28 _ _ hT14
    replace hT15 := s28 _ _ hT15
    replace hT16 := s28 _ _ hT16
    replace hT17 := s28 _ _ hT17
    refine ⟨by (first | (show _ ≤ sizeLine; decide) | (simp only [List.length_cons, List.length_nil]; decide)), fun T19 hNewT19 => ?_⟩
    generalize hGenT19 : upd _ T19 _ = H29
    obtain ⟨s29, hT19⟩ := Same.ofG hNewT19 hGenT19
    replace hT := Tabs.same hT s29
    replace B := B.mono s29
    replace hp := hp.mono s29
    replace hw := hw.tups (Tups.of s29)
    replace hA := s29 _ _ hA
    replace hLA := s29 _ _ hLA
    replace hLB := s29 _ _ hLB
    replace hL3 := s29 _ _ hL3
    replace hT1 := s29 _ _ hT1
    replace hT2 := s29 _ _ hT2
    replace hT3 := s29 _ _ hT3
    replace hT4 := s29 _ _ hT4
    replace hT5 := s29 _ _ hT5
    replace hT6 := s29 _ _ hT6
    replace hT7 := s29 _ _ hT7
    replace hT8 := s29 _ _ hT8
    replace hT9 := s29 _ _ hT9
    replace hT10 := s29 _ _ hT10
    replace hT11 := s29 _ _ hT11
    replace hT12 := s29 _ _ hT12
    replace hT13 := s29 _ _ hT13
    replace hT14 := s29 _ _ hT14
    replace hT15 := s29 _ _ hT15
    replace hT16 := s29 _ _ hT16
    replace hT17 := s29 _ _ hT17
    replace hT18 := s29 _ _ hT18
    refine ⟨T19, 61, _, rfl, rfl, SqT.of hT19, (fun z => by cases z), by decide, by decide, (by show 1 ≤ 1000; decide), fun z => absurd z (by decide), fun _ T20 hN20 => ?_⟩
    generalize hG20 : upd H29 T20 _ = H30
    obtain ⟨s30, hT20⟩ := Same.ofG hN20 hG20
    have hT20 : H30 T20 = some (.tup (List.replicate 61 (.ref T18))) := by rw [hT20]; exact congrArg _ (congrArg _ repV)
    replace hT := Tabs.same hT s30
    replace B := B.mono s30
    replace hp := hp.mono s30
    replace hw := hw.tups (Tups.of s30)
    replace hA := s30 _ _ hA
    replace hLA := s30 _ _ hLA
    replace hLB := s30 _ _ hLB
    replace hL3 := s30 _ _ hL3
    replace hT1 := s30 _ _ hT1
    replace hT2 := s30 _ _ hT2
    replace hT3 := s30 _ _ hT3
    replace hT4 := s30 _ _ hT4
    replace hT5 := s30 _ _ hT5
    replace hT6 := s30 _ _ hT6
    replace hT7 := s30 _ _ hT7
    replace hT8 := s30 _ _ hT8
    replace hT9 := s30 _ _ hT9
    replace hT10 := s30 _ _ hT10
    replace hT11 := s30 _ _ hT11
    replace hT12 := s30 _ _ hT12
    replace hT13 := s30 _ _ hT13
    replace hT14 := s30 _ _ hT14
    replace hT15 := s30 _ _ hT15
    replace hT16 := s30 _ _ hT16
    replace hT17 := s30 _ _ hT17
    replace hT18 := s30 _ _ hT18
    replace hT19 := s30 _ _ hT19
    refine ⟨by (first | (show _ ≤ sizeLine; decide) | (simp only [List.length_cons, List.length_nil]; decide)), fun T21 hNewT21 => ?_⟩
    generalize hGenT21 : upd _ T21 _ = H31
    obtain ⟨s31, hT21⟩ := Same.ofG hNewT21 hGenT21
    replace hT := Tabs.same hT s31
    replace B := B.mono s31
    replace hp := hp.mono s31
    replace hw := hw.tups (Tups.of s31)
    replace hA := s31 _ _ hA
    replace hLA := s31 _ _ hLA
    replace hLB := s31 _ _ hLB
    replace hL3 := s31 _ _ hL3
    replace hT1 := s31 _ _ hT1
    replace hT2 := s31 _ _ hT2
    replace hT3 := s31 _ _ hT3
    replace hT4 := s31 _ _ hT4
    replace hT5 := s31 _ _ hT5
    replace hT6 := s31 _ _ hT6
    replace hT7 := s31 _ _ hT7
    replace hT8 := s31 _ _ hT8
    replace hT9 := s31 _ _ hT9
    replace hT10 := s31 _ _ hT10
    replace hT11 := s31 _ _ hT11
    replace hT12 := s31 _ _ hT12
    replace hT13 := s31 _ _ hT13
    replace hT14 := s31 _ _ hT14
    replace hT15 := s31 _ _ hT15
    replace hT16 := s31 _ _ hT16
    replace hT17 := s31 _ _ hT17
    replace hT18 := s31 _ _ hT18
    replace hT19 := s31 _ _ hT19
    replace hT20 := s31 _ _ hT20
    refine ⟨by (first | (show _ ≤ sizeLine; decide) | (simp only [List.length_cons, List.length_nil]; decide)), fun T22 hNewT22 => ?_⟩
    generalize hGenT22 : upd _ T22 _ = H32
    obtain ⟨s32, hT22⟩ := Same.ofG hNewT22 hGenT22
    replace hT := Tabs.same hT s32
    replace B := B.mono s32
    replace hp := hp.mono s32
    replace hw := hw.tups (Tups.of s32)
    replace hA := s32 _ _ hA
    replace hLA := s32 _ _ hLA
    replace hLB := s32 _ _ hLB
    replace hL3 := s32 _ _ hL3
    replace hT1 := s32 _ _ hT1
    replace hT2 := s32 _ _ hT2
    replace hT3 := s32 _ _ hT3
    replace hT4 := s32 _ _ hT4
    replace hT5 := s32 _ _ hT5
    replace hT6 := s32 _ _ hT6
    replace hT7 := s32 _ _ hT7
    replace hT8 := s32 _ _ hT8
    replace hT9 := s32 _ _ hT9
    replace hT10 := s32 _ _ hT10
    replace hT11 := s32 _ _ hT11
    replace hT12 := s32 _ _ hT12
    replace hT13 := s32 _ _ hT13
    replace hT14 := s32 _ _ hT14
    replace hT15 := s32 _ _ hT15
    replace hT16 := s32 _ _ hT16
    replace hT17 := s32 _ _ hT17
    replace hT18 := s32 _ _ hT18
    replace hT19 := s32 _ _ hT19
    replace hT20 := s32 _ _ hT20
    replace hT21 := s32 _ _ hT21
    refine ⟨by (first | (show _ ≤ sizeLine; decide) | (simp only [List.length_cons, List.length_nil]; decide)), fun T23 hNewT23 => ?_⟩
    generalize hGenT23 : upd _ T23 _ = H33
    obtain ⟨s33, hT23⟩ := Same.ofG hNewT23 hGenT23
    replace hT := Tabs.same hT s33
    replace B := B.mono s33
    replace hp := hp.mono s33
    replace hw := hw.tups (Tups.of s33)
    replace hA := s33 _ _ hA
    replace hLA := s33 _ _ hLA
    replace hLB := s33 _ _ hLB
    replace hL3 := s33 _ _ hL3
    replace hT1 := s33 _ _ hT1
    replace hT2 := s33 _ _ hT2
    replace hT3 := s33 _ _ hT3
    replace hT4 := s33 _ _ hT4
    replace hT5 := s33 _ _ hT5
    replace hT6 := s33 _ _ hT6
    replace hT7 := s33 _ _ hT7
    replace hT8 := s33 _ _ hT8
    replace hT9 := s33 _ _ hT9
    replace hT10 := s33 _ _ hT10
    replace hT11 := s33 _ _ hT11
    replace hT12 := s33 _ _ hT12
    replace hT13 := s33 _ _ hT13
    replace hT14 := s33 _ _ hT14
    replace hT15 := s33 _ _ hT15
    replace hT16 := s33 _ _ hT16
    replace hT17 := s33 _ _ hT17
    replace hT18 := s33 _ _ hT18
    replace hT19 := s33 _ _ hT19
    replace hT20 := s33 _ _ hT20
    replace hT21 := s33 _ _ hT21
    replace hT22 := s33 _ _ hT22
    refine ⟨by (first | (show _ ≤ sizeLine; decide) | (simp only [List.length_cons, List.length_nil]; decide)), fun L4 hNewL4 => ?_⟩
    generalize hGenL4 : upd _ L4 _ = H34
    obtain ⟨s34, hL4⟩ := Same.ofG hNewL4 hGenL4
    replace hT := Tabs.same hT s34
    replace B := B.mono s34
    replace hp := hp.mono s34
    replace hw := hw.tups (Tups.of s34)
    replace hA := s34 _ _ hA
    replace hLA := s34 _ _ hLA
    replace hLB := s34 _ _ hLB
    replace hL3 := s34 _ _ hL3
    replace hT1 := s34 _ _ hT1
    replace hT2 := s34 _ _ hT2
    replace hT3 := s34 _ _ hT3
    replace hT4 := s34 _ _ hT4
    replace hT5 := s34 _ _ hT5
    replace hT6 := s34 _ _ hT6
    replace hT7 := s34 _ _ hT7
    replace hT8 := s34 _ _ hT8
    replace hT9 := s34 _ _ hT9
    replace hT10 := s34 _ _ hT10
    replace hT11 := s34 _ _ hT11
    replace hT12 := s34 _ _ hT12
    replace hT13 := s34 _ _ hT13
    replace hT14 := s34 _ _ hT14
    replace hT15 := s34 _ _ hT15
    replace hT16 := s34 _ _ hT16
    replace hT17 := s34 _ _ hT17
    replace hT18 := s34 _ _ hT18
    replace hT19 := s34 _ _ hT19
    replace hT20 := s34 _ _ hT20
    replace hT21 := s34 _ _ hT21
    replace hT22 := s34 _ _ hT22
    replace hT23 := s34 _ _ hT23
    refine ⟨L3, L4, _, _, rfl, rfl, hL3, hL4, by show 17 ≤ sizeLine; decide, fun L5 hNL5 => ?_⟩
    have fL5 := B.fresh hNL5
    generalize hCL5 : upd H34 L5 _ = H35
    obtain ⟨s35, hL5⟩ := Same.ofG hNL5 hCL5
    replace hT := Tabs.same hT s35
    replace B := B.mono s35
    replace hp := hp.mono s35
    replace hw := hw.tups (Tups.of s35)
    replace hA := s35 _ _ hA
    replace hLA := s35 _ _ hLA
    replace hLB := s35 _ _ hLB
    replace hL3 := s35 _ _ hL3
    replace hT1 := s35 _ _ hT1
    replace hT2 := s35 _ _ hT2
    replace hT3 := s35 _ _ hT3
    replace hT4 := s35 _ _ hT4
    replace hT5 := s35 _ _ hT5
    replace hT6 := s35 _ _ hT6
    replace hT7 := s35 _ _ hT7
    replace hT8 := s35 _ _ hT8
    replace hT9 := s35 _ _ hT9
    replace hT10 := s35 _ _ hT10
    replace hT11 := s35 _ _ hT11
    replace hT12 := s35 _ _ hT12
    replace hT13 := s35 _ _ hT13
    replace hT14 := s35 _ _ hT14
    replace hT15 := s35 _ _ hT15
    replace hT16 := s35 _ _ hT16
    replace hT17 := s35 _ _ hT17
    replace hT18 := s35 _ _ hT18
    replace hT19 := s35 _ _ hT19
    replace hT20 := s35 _ _ hT20
    replace hT21 := s35 _ _ hT21
    replace hT22 := s35 _ _ hT22
    replace hT23 := s35 _ _ hT23
    replace hL4 := s35 _ _ hL4
    refine gn ?_
    refine ⟨by (first | (show _ ≤ sizeLine; decide) | (simp only [List.length_cons, List.length_nil]; decide)), fun T24 hNewT24 => ?_⟩
    generalize hGenT24 : upd _ T24 _ = H36
    obtain ⟨s36, hT24⟩ := Same.ofG hNewT24 hGenT24
    replace hT := Tabs.same hT s36
    replace B := B.mono s36
    replace hp := hp.mono s36
    replace hw := hw.tups (Tups.of s36)
    replace hA := s36 _ _ hA
    replace hLA := s36 _ _ hLA
    replace hLB := s36 _ _ hLB
    replace hT1 := s36 _ _ hT1
    replace hT2 := s36 _ _ hT2
    replace hT3 := s36 _ _ hT3
    replace hT4 := s36 _ _ hT4
    replace hT5 := s36 _ _ hT5
    replace hT6 := s36 _ _ hT6
    replace hT7 := s36 _ _ hT7
    replace hT8 := s36 _ _ hT8
    replace hT9 := s36 _ _ hT9
    replace hT10 := s36 _ _ hT10
    replace hT11 := s36 _ _ hT11
    replace hT12 := s36 _ _ hT12
    replace hT13 := s36 _ _ hT13
    replace hT14 := s36 _ _ hT14
    replace hT15 := s36 _ _ hT15
    replace hT16 := s36 _ _ hT16
    replace hT17 := s36 _ _ hT17
    replace hT18 := s36 _ _ hT18
    replace hT19 := s36 _ _ hT19
    replace hT20 := s36 _ _ hT20
    replace hT21 := s36 _ _ hT21
    replace hT22 := s36 _ _ hT22
    replace hT23 := s36 _ _ hT23
    replace hL5 := s36 _ _ hL5
    refine gn ?_
    dsimp only
    refine sevTake rfl B fun N ns5 z5 H37 hN9 B5 k5 => ?_
    replace hT := Tabs.keep hT B k5
    replace hp := hp.tups (k5.tups B)
    replace hw := hw.tups (k5.tups B)
    replace hA := (k5.tups B).t _ _ hA
    replace hLA := k5 _ _ hLA fLA.1 fLA.2
    replace hLB := k5 _ _ hLB fLB.1 fLB.2
    replace hT1 := (k5.tups B).t _ _ hT1
    replace hT2 := (k5.tups B).t _ _ hT2
    replace hT3 := (k5.tups B).t _ _ hT3
    replace hT4 := (k5.tups B).t _ _ hT4
    replace hT5 := (k5.tups B).t _ _ hT5
    replace hT6 := (k5.tups B).t _ _ hT6
    replace hT7 := (k5.tups B).t _ _ hT7
    replace hT8 := (k5.tups B).t _ _ hT8
    replace hT9 := (k5.tups B).t _ _ hT9
    replace hT10 := (k5.tups B).t _ _ hT10
    replace hT11 := (k5.tups B).t _ _ hT11
    replace hT12 := (k5.tups B).t _ _ hT12
    replace hT13 := (k5.tups B).t _ _ hT13
    replace hT14 := (k5.tups B).t _ _ hT14
    replace hT15 := (k5.tups B).t _ _ hT15
    replace hT16 := (k5.tups B).t _ _ hT16
    replace hT17 := (k5.tups B).t _ _ hT17
    replace hT18 := (k5.tups B).t _ _ hT18
    replace hT19 := (k5.tups B).t _ _ hT19
    replace hT20 := (k5.tups B).t _ _ hT20
    replace hT21 := (k5.tups B).t _ _ hT21
    replace hT22 := (k5.tups B).t _ _ hT22
    replace hT23 := (k5.tups B).t _ _ hT23
    replace hL5 := k5 _ _ hL5 fL5.1 fL5.2
    replace hT24 := (k5.tups B).t _ _ hT24
    have B := B5
    refine ⟨(N : Int), rfl, by omega, by omega, ?_⟩
    have eN : ((N : Int)).toNat = N := by omega
    rw [eN]
    have hdeep : XAt H37 .pop (.ref T24) := ⟨T24, rfl, hT24⟩
    refine for_range (lo := 0) (n := N) (fun j σ Hc => ∃ (o6' : Option V) (dv : V) (wd : W) (ns' : List Int) (z' : Int), σ = [some (.ref a), some (.ref p), some (.int (0 + (i : Int))), some u, some (.ref L5), some dv, o6', o7, o8, o9, o10, o11, some (.ref A)] ∧ Keep p q H37 Hc ∧ BoxAt Hc p q ns' z' ∧ XAt Hc wd dv ∧ wd.XCan pl.many)
      ⟨o6, .ref T24, .pop, ns5, z5, rfl, Keep.refl p q H37, B, hdeep, trivial⟩ ?_ ?_
    · rintro j σ Hc hj ⟨o6', dv, wd, ns', z', rfl, kc, Bc, hd, hdc⟩
      refine gn ?_
      dsimp only
      refine ⟨_, rfl, by show 3 ≤ sizeLine; decide, fun Ta hTa => ?_⟩
      have sa := Same.new hTa (.tup [.str "times", .int 2, dv])
      have ha : upd Hc Ta (.tup [.str "times", .int 2, dv]) Ta = _ := upd_same
      generalize upd Hc Ta (.tup [.str "times", .int 2, dv]) = Ha at sa ha
      refine ⟨by show 1 ≤ sizeLine; decide, fun Tb hTb => ?_⟩
      have sb := Same.new hTb (.tup [.str "pop"])
      have hb : upd Ha Tb (.tup [.str "pop"]) Tb = _ := upd_same
      generalize upd Ha Tb (.tup [.str "pop"]) = Hb at sb hb
      refine ⟨_, rfl, by show 2 ≤ sizeLine; decide, fun Tc hTc => ?_⟩
      have sc := Same.new hTc (.tup [.ref Tb, dv])
      have hc : upd Hb Tc (.tup [.ref Tb, dv]) Tc = _ := upd_same
      generalize upd Hb Tc (.tup [.ref Tb, dv]) = Hcc at sc hc
      refine ⟨by show 2 ≤ sizeLine; decide, fun Td hTd => ?_⟩
      have sd := Same.new hTd (.tup [.str "row", .ref Tc])
      have hdd : upd Hcc Td (.tup [.str "row", .ref Tc]) Td = _ := upd_same
      generalize upd Hcc Td (.tup [.str "row", .ref Tc]) = Hd at sd hdd
      refine ⟨by show 2 ≤ sizeLine; decide, fun Le hLe => ?_⟩
      have se := Same.new hLe (.lst [.ref Ta, .ref Td])
      have he : upd Hd Le (.lst [.ref Ta, .ref Td]) Le = _ := upd_same
      have s0e := sa.trans (sb.trans (sc.trans (sd.trans se)))
      have fe := Bc.fresh ((sa.trans (sb.trans (sc.trans sd))).free hLe)
      have sae := sb.trans (sc.trans (sd.trans se))
      have sbe := sc.trans (sd.trans se)
      generalize upd Hd Le (.lst [.ref Ta, .ref Td]) = He at se he s0e sae sbe
      refine ⟨_, rfl, p, q, ns', z', 2, rfl, Bc.mono s0e, by decide, p9 (by decide), fun r ns6 z6 Hf r0 r1 Bf kf => ?_⟩
      have nf := Nice.keep kf (Bc.mono s0e)
      have he := kf _ _ he fe.1 fe.2
      have ha := nf.t _ _ (sae _ _ ha)
      have hb := nf.t _ _ (sbe _ _ hb)
      have hc := nf.t _ _ ((sd.trans se) _ _ hc)
      have hdd := nf.t _ _ (se _ _ hdd)
      have hd' := (hd.mono s0e).nice nf
      have kk' := kc.trans ((Keep.of s0e).trans kf)
      have hr : r = 0 ∨ r = 1 := by omega
      rcases hr with rfl | rfl
      · refine ⟨Le, _, 0, _, rfl, rfl, SqL.of he, rfl, ?_⟩
        refine gn ?_
        exact ⟨_, .ref Ta, .times 2 wd, ns6, z6, rfl, kk', Bf, ⟨Ta, dv, rfl, ha, hd'⟩, (by decide), hdc⟩
      · refine ⟨Le, _, 1, _, rfl, rfl, SqL.of he, rfl, ?_⟩
        refine gn ?_
        exact ⟨_, .ref Td, .row (.cons .pop (.cons wd .nil)), ns6, z6, rfl, kk', Bf, ⟨Td, Tc, [.ref Tb, dv], rfl, hdd, hc, ⟨.ref Tb, [dv], rfl, ⟨Tb, rfl, hb⟩, dv, [], rfl, hd', rfl⟩⟩, (by show 2 ≤ 1000; decide), trivial, hdc, trivial⟩
    · rintro σ H38 ⟨o6', dv, wd, ns6, z6, rfl, kc, Bc, hd, hdc⟩
      replace hT := Tabs.keep hT B kc
      replace hp := hp.tups (kc.tups B)
      replace hw := hw.tups (kc.tups B)
      replace hA := (kc.tups B).t _ _ hA
      replace hLA := kc _ _ hLA fLA.1 fLA.2
      replace hLB := kc _ _ hLB fLB.1 fLB.2
      replace hT1 := (kc.tups B).t _ _ hT1
      replace hT2 := (kc.tups B).t _ _ hT2
      replace hT3 := (kc.tups B).t _ _ hT3
      replace hT4 := (kc.tups B).t _ _ hT4
      replace hT5 := (kc.tups B).t _ _ hT5
      replace hT6 := (kc.tups B).t _ _ hT6
      replace hT7 := (kc.tups B).t _ _ hT7
      replace hT8 := (kc.tups B).t _ _ hT8
      replace hT9 := (kc.tups B).t _ _ hT9
      replace hT10 := (kc.tups B).t _ _ hT10
      replace hT11 := (kc.tups B).t _ _ hT11
      replace hT12 := (kc.tups B).t _ _ hT12
      replace hT13 := (kc.tups B).t _ _ hT13
      replace hT14 := (kc.tups B).t _ _ hT14
      replace hT15 := (kc.tups B).t _ _ hT15
      replace hT16 := (kc.tups B).t _ _ hT16
      replace hT17 := (kc.tups B).t _ _ hT17
      replace hT18 := (kc.tups B).t _ _ hT18
      replace hT19 := (kc.tups B).t _ _ hT19
      replace hT20 := (kc.tups B).t _ _ hT20
      replace hT21 := (kc.tups B).t _ _ hT21
      replace hT22 := (kc.tups B).t _ _ hT22
      replace hT23 := (kc.tups B).t _ _ hT23
      replace hL5 := kc _ _ hL5 fL5.1 fL5.2
      replace hT24 := (kc.tups B).t _ _ hT24
      have B := Bc
      have hd := hd
      refine ⟨_, rfl, _, rfl, ?_⟩
      refine ⟨by (first | (show _ ≤ sizeLine; decide) | (simp only [List.length_cons, List.length_nil]; decide)), fun T25 hNewT25 => ?_⟩
      generalize hGenT25 : upd _ T25 _ = H39
      obtain ⟨s39, hT25⟩ := Same.ofG hNewT25 hGenT25
      replace hT := Tabs.same hT s39
      replace hp := hp.mono s39
      replace hw := hw.tups (Tups.of s39)
      replace hA := s39 _ _ hA
      replace hLA := s39 _ _ hLA
      replace hLB := s39 _ _ hLB
      replace hT1 := s39 _ _ hT1
      replace hT2 := s39 _ _ hT2
      replace hT3 := s39 _ _ hT3
      replace hT4 := s39 _ _ hT4
      replace hT5 := s39 _ _ hT5
      replace hT6 := s39 _ _ hT6
      replace hT7 := s39 _ _ hT7
      replace hT8 := s39 _ _ hT8
      replace hT9 := s39 _ _ hT9
      replace hT10 := s39 _ _ hT10
      replace hT11 := s39 _ _ hT11
      replace hT12 := s39 _ _ hT12
      replace hT13 := s39 _ _ hT13
      replace hT14 := s39 _ _ hT14
      replace hT15 := s39 _ _ hT15
      replace hT16 := s39 _ _ hT16
      replace hT17 := s39 _ _ hT17
      replace hT18 := s39 _ _ hT18
      replace hT19 := s39 _ _ hT19
      replace hT20 := s39 _ _ hT20
      replace hT21 := s39 _ _ hT21
      replace hT22 := s39 _ _ hT22
      replace hT23 := s39 _ _ hT23
      replace hL5 := s39 _ _ hL5
      replace hT24 := s39 _ _ hT24
      replace B := B.mono s39
      replace hd := hd.mono s39
      refine ⟨by (first | (show _ ≤ sizeLine; decide) | (simp only [List.length_cons, List.length_nil]; decide)), fun T26 hNewT26 => ?_⟩
      generalize hGenT26 : upd _ T26 _ = H40
      obtain ⟨s40, hT26⟩ := Same.ofG hNewT26 hGenT26
      replace hT := Tabs.same hT s40
      replace hp := hp.mono s40
      replace hw := hw.tups (Tups.of s40)
      replace hA := s40 _ _ hA
      replace hLA := s40 _ _ hLA
      replace hLB := s40 _ _ hLB
      replace hT1 := s40 _ _ hT1
      replace hT2 := s40 _ _ hT2
      replace hT3 := s40 _ _ hT3
      replace hT4 := s40 _ _ hT4
      replace hT5 := s40 _ _ hT5
      replace hT6 := s40 _ _ hT6
      replace hT7 := s40 _ _ hT7
      replace hT8 := s40 _ _ hT8
      replace hT9 := s40 _ _ hT9
      replace hT10 := s40 _ _ hT10
      replace hT11 := s40 _ _ hT11
      replace hT12 := s40 _ _ hT12
      replace hT13 := s40 _ _ hT13
      replace hT14 := s40 _ _ hT14
      replace hT15 := s40 _ _ hT15
      replace hT16 := s40 _ _ hT16
      replace hT17 := s40 _ _ hT17
      replace hT18 := s40 _ _ hT18
      replace hT19 := s40 _ _ hT19
      replace hT20 := s40 _ _ hT20
      replace hT21 := s40 _ _ hT21
      replace hT22 := s40 _ _ hT22
      replace hT23 := s40 _ _ hT23
      replace hL5 := s40 _ _ hL5
      replace hT24 := s40 _ _ hT24
      replace B := B.mono s40
      replace hd := hd.mono s40
      replace hT25 := s40 _ _ hT25
      refine ⟨by (first | (show _ ≤ sizeLine; decide) | (simp only [List.length_cons, List.length_nil]; decide)), fun T27 hNewT27 => ?_⟩
      generalize hGenT27 : upd _ T27 _ = H41
      obtain ⟨s41, hT27⟩ := Same.ofG hNewT27 hGenT27
      replace hT := Tabs.same hT s41
      replace hp := hp.mono s41
      replace hw := hw.tups (Tups.of s41)
      replace hA := s41 _ _ hA
      replace hLA := s41 _ _ hLA
      replace hLB := s41 _ _ hLB
      replace hT1 := s41 _ _ hT1
      replace hT2 := s41 _ _ hT2
      replace hT3 := s41 _ _ hT3
      replace hT4 := s41 _ _ hT4
      replace hT5 := s41 _ _ hT5
      replace hT6 := s41 _ _ hT6
      replace hT7 := s41 _ _ hT7
      replace hT8 := s41 _ _ hT8
      replace hT9 := s41 _ _ hT9
      replace hT10 := s41 _ _ hT10
      replace hT11 := s41 _ _ hT11
      replace hT12 := s41 _ _ hT12
      replace hT13 := s41 _ _ hT13
      replace hT14 := s41 _ _ hT14
      replace hT15 := s41 _ _ hT15
      replace hT16 := s41 _ _ hT16
      replace hT17 := s41 _ _ hT17
      replace hT18 := s41 _ _ hT18
      replace hT19 := s41 _ _ hT19
      replace hT20 := s41 _ _ hT20
      replace hT21 := s41 _ _ hT21
      replace hT22 := s41 _ _ hT22
      replace hT23 := s41 _ _ hT23
      replace hL5 := s41 _ _ hL5
      replace hT24 := s41 _ _ hT24
      replace B := B.mono s41
      replace hd := hd.mono s41
      replace hT25 := s41 _ _ hT25
      replace hT26 := s41 _ _ hT26
      refine ⟨T27, 59, _, rfl, rfl, SqT.of hT27, (fun z => by cases z), by decide, by decide, (by show 1 ≤ 1000; decide), fun z => absurd z (by decide), fun _ T28 hN28 => ?_⟩
      generalize hG28 : upd H41 T28 _ = H42
      obtain ⟨s42, hT28⟩ := Same.ofG hN28 hG28
      have hT28 : H42 T28 = some (.tup (List.replicate 59 (.ref T26))) := by rw [hT28]; exact congrArg _ (congrArg _ repV)
      replace hT := Tabs.same hT s42
      replace hp := hp.mono s42
      replace hw := hw.tups (Tups.of s42)
      replace hA := s42 _ _ hA
      replace hLA := s42 _ _ hLA
      replace hLB := s42 _ _ hLB
      replace hT1 := s42 _ _ hT1
      replace hT2 := s42 _ _ hT2
      replace hT3 := s42 _ _ hT3
      replace hT4 := s42 _ _ hT4
      replace hT5 := s42 _ _ hT5
      replace hT6 := s42 _ _ hT6
      replace hT7 := s42 _ _ hT7
      replace hT8 := s42 _ _ hT8
      replace hT9 := s42 _ _ hT9
      replace hT10 := s42 _ _ hT10
      replace hT11 := s42 _ _ hT11
      replace hT12 := s42 _ _ hT12
      replace hT13 := s42 _ _ hT13
      replace hT14 := s42 _ _ hT14
      replace hT15 := s42 _ _ hT15
      replace hT16 := s42 _ _ hT16
      replace hT17 := s42 _ _ hT17
      replace hT18 := s42 _ _ hT18
      replace hT19 := s42 _ _ hT19
      replace hT20 := s42 _ _ hT20
      replace hT21 := s42 _ _ hT21
      replace hT22 := s42 _ _ hT22
      replace hT23 := s42 _ _ hT23
      replace hL5 := s42 _ _ hL5
      replace hT24 := s42 _ _ hT24
      replace B := B.mono s42
      replace hd := hd.mono s42
      replace hT25 := s42 _ _ hT25
      replace hT26 := s42 _ _ hT26
      replace hT27 := s42 _ _ hT27
      refine ⟨by (first | (show _ ≤ sizeLine; decide) | (simp only [List.length_cons, List.length_nil]; decide)), fun T29 hNewT29 => ?_⟩
      generalize hGenT29 : upd _ T29 _ = H43
      obtain ⟨s43, hT29⟩ := Same.ofG hNewT29 hGenT29
      replace hT := Tabs.same hT s43
      replace hp := hp.mono s43
      replace hw := hw.tups (Tups.of s43)
      replace hA := s43 _ _ hA
      replace hLA := s43 _ _ hLA
      replace hLB := s43 _ _ hLB
      replace hT1 := s43 _ _ hT1
      replace hT2 := s43 _ _ hT2
      replace hT3 := s43 _ _ hT3
      replace hT4 := s43 _ _ hT4
      replace hT5 := s43 _ _ hT5
      replace hT6 := s43 _ _ hT6
      replace hT7 := s43 _ _ hT7
      replace hT8 := s43 _ _ hT8
      replace hT9 := s43 _ _ hT9
      replace hT10 := s43 _ _ hT10
      replace hT11 := s43 _ _ hT11
      replace hT12 := s43 _ _ hT12
      replace hT13 := s43 _ _ hT13
      replace hT14 := s43 _ _ hT14
      replace hT15 := s43 _ _ hT15
      replace hT16 := s43 _ _ hT16
      replace hT17 := s43 _ _ hT17
      replace hT18 := s43 _ _ hT18
      replace hT19 := s43 _ _ hT19
      replace hT20 := s43 _ _ hT20
      replace hT21 := s43 _ _ hT21
      replace hT22 := s43 _ _ hT22
      replace hT23 := s43 _ _ hT23
      replace hL5 := s43 _ _ hL5
      replace hT24 := s43 _ _ hT24
      replace B := B.mono s43
      replace hd := hd.mono s43
      replace hT25 := s43 _ _ hT25
      replace hT26 := s43 _ _ hT26
      replace hT27 := s43 _ _ hT27
      replace hT28 := s43 _ _ hT28
      refine ⟨by (first | (show _ ≤ sizeLine; decide) | (simp only [List.length_cons, List.length_nil]; decide)), fun L6 hNewL6 => ?_⟩
      generalize hGenL6 : upd _ L6 _ = H44
      obtain ⟨s44, hL6⟩ := Same.ofG hNewL6 hGenL6
      replace hT := Tabs.same hT s44
      replace hp := hp.mono s44
      replace hw := hw.tups (Tups.of s44)
      replace hA := s44 _ _ hA
      replace hLA := s44 _ _ hLA
      replace hLB := s44 _ _ hLB
      replace hT1 := s44 _ _ hT1
      replace hT2 := s44 _ _ hT2
      replace hT3 := s44 _ _ hT3
      replace hT4 := s44 _ _ hT4
      replace hT5 := s44 _ _ hT5
      replace hT6 := s44 _ _ hT6
      replace hT7 := s44 _ _ hT7
      replace hT8 := s44 _ _ hT8
      replace hT9 := s44 _ _ hT9
      replace hT10 := s44 _ _ hT10
      replace hT11 := s44 _ _ hT11
      replace hT12 := s44 _ _ hT12
      replace hT13 := s44 _ _ hT13
      replace hT14 := s44 _ _ hT14
      replace hT15 := s44 _ _ hT15
      replace hT16 := s44 _ _ hT16
      replace hT17 := s44 _ _ hT17
      replace hT18 := s44 _ _ hT18
      replace hT19 := s44 _ _ hT19
      replace hT20 := s44 _ _ hT20
      replace hT21 := s44 _ _ hT21
      replace hT22 := s44 _ _ hT22
      replace hT23 := s44 _ _ hT23
      replace hL5 := s44 _ _ hL5
      replace hT24 := s44 _ _ hT24
      replace B := B.mono s44
      replace hd := hd.mono s44
      replace hT25 := s44 _ _ hT25
      replace hT26 := s44 _ _ hT26
      replace hT27 := s44 _ _ hT27
      replace hT28 := s44 _ _ hT28
      replace hT29 := s44 _ _ hT29
      refine ⟨L5, L6, _, _, rfl, rfl, hL5, hL6, by show 19 ≤ sizeLine; decide, fun L7 hNL7 => ?_⟩
      have fL7 := B.fresh hNL7
      generalize hCL7 : upd H44 L7 _ = H45
      obtain ⟨s45, hL7⟩ := Same.ofG hNL7 hCL7
      replace hT := Tabs.same hT s45
      replace hp := hp.mono s45
      replace hw := hw.tups (Tups.of s45)
      replace hA := s45 _ _ hA
      replace hLA := s45 _ _ hLA
      replace hLB := s45 _ _ hLB
      replace hT1 := s45 _ _ hT1
      replace hT2 := s45 _ _ hT2
      replace hT3 := s45 _ _ hT3
      replace hT4 := s45 _ _ hT4
      replace hT5 := s45 _ _ hT5
      replace hT6 := s45 _ _ hT6
      replace hT7 := s45 _ _ hT7
      replace hT8 := s45 _ _ hT8
      replace hT9 := s45 _ _ hT9
      replace hT10 := s45 _ _ hT10
      replace hT11 := s45 _ _ hT11
      replace hT12 := s45 _ _ hT12
      replace hT13 := s45 _ _ hT13
      replace hT14 := s45 _ _ hT14
      replace hT15 := s45 _ _ hT15
      replace hT16 := s45 _ _ hT16
      replace hT17 := s45 _ _ hT17
      replace hT18 := s45 _ _ hT18
      replace hT19 := s45 _ _ hT19
      replace hT20 := s45 _ _ hT20
      replace hT21 := s45 _ _ hT21
      replace hT22 := s45 _ _ hT22
      replace hT23 := s45 _ _ hT23
      replace hL5 := s45 _ _ hL5
      replace hT24 := s45 _ _ hT24
      replace B := B.mono s45
      replace hd := hd.mono s45
      replace hT25 := s45 _ _ hT25
      replace hT26 := s45 _ _ hT26
      replace hT27 := s45 _ _ hT27
      replace hT28 := s45 _ _ hT28
      replace hT29 := s45 _ _ hT29
      replace hL6 := s45 _ _ hL6
      refine ⟨_, rfl, p, q, ns6, z6, 19, rfl, B, by decide, p9 (by decide), fun r ns7 z7 H46 r0 r1 B7 k7 => ?_⟩
      have hd := hd.nice (Nice.keep k7 B)
      replace hT := Tabs.keep hT B k7
      replace hp := hp.tups (k7.tups B)
      replace hw := hw.tups (k7.tups B)
      replace hA := (k7.tups B).t _ _ hA
      replace hLA := k7 _ _ hLA fLA.1 fLA.2
      replace hLB := k7 _ _ hLB fLB.1 fLB.2
      replace hT1 := (k7.tups B).t _ _ hT1
      replace hT2 := (k7.tups B).t _ _ hT2
      replace hT3 := (k7.tups B).t _ _ hT3
      replace hT4 := (k7.tups B).t _ _ hT4
      replace hT5 := (k7.tups B).t _ _ hT5
      replace hT6 := (k7.tups B).t _ _ hT6
      replace hT7 := (k7.tups B).t _ _ hT7
      replace hT8 := (k7.tups B).t _ _ hT8
      replace hT9 := (k7.tups B).t _ _ hT9
      replace hT10 := (k7.tups B).t _ _ hT10
      replace hT11 := (k7.tups B).t _ _ hT11
      replace hT12 := (k7.tups B).t _ _ hT12
      replace hT13 := (k7.tups B).t _ _ hT13
      replace hT14 := (k7.tups B).t _ _ hT14
      replace hT15 := (k7.tups B).t _ _ hT15
      replace hT16 := (k7.tups B).t _ _ hT16
      replace hT17 := (k7.tups B).t _ _ hT17
      replace hT18 := (k7.tups B).t _ _ hT18
      replace hT19 := (k7.tups B).t _ _ hT19
      replace hT20 := (k7.tups B).t _ _ hT20
      replace hT21 := (k7.tups B).t _ _ hT21
      replace hT22 := (k7.tups B).t _ _ hT22
      replace hT23 := (k7.tups B).t _ _ hT23
      replace hT24 := (k7.tups B).t _ _ hT24
      replace hT25 := (k7.tups B).t _ _ hT25
      replace hT26 := (k7.tups B).t _ _ hT26
      replace hT27 := (k7.tups B).t _ _ hT27
      replace hT28 := (k7.tups B).t _ _ hT28
      replace hT29 := (k7.tups B).t _ _ hT29
      replace hL7 := k7 _ _ hL7 fL7.1 fL7.2
      have B := B7
      obtain ⟨k, rfl⟩ : ∃ k : Nat, r = (k : Int) := ⟨r.toNat, by omega⟩
      have odN : ∀ n : Int, (n < 0 ∨ 1000000000000000000 < n) → OddN (.int n) := fun n h => .inr ⟨n, rfl, h⟩
      obtain ⟨x, hx, wo, hxo, hco⟩ : ∃ x, ((([.non, .ref T1, .ref T2, .ref T3, .ref T4, .ref T5, .ref T6, .ref LA, .ref T7] ++ [.ref T9, .ref T11, .ref T13] ++ [.ref T14]) ++ [.ref T16, .ref T17, .ref T21, .ref T23]) ++ [dv, .ref T29] : List V)[k]? = some x ∧ ∃ wo : W, XAt H46 wo x ∧ wo.XCan pl.many := by
        have hk : k = 0 ∨ k = 1 ∨ k = 2 ∨ k = 3 ∨ k = 4 ∨ k = 5 ∨ k = 6 ∨ k = 7 ∨ k = 8 ∨ k = 9 ∨ k = 10 ∨ k = 11 ∨ k = 12 ∨ k = 13 ∨ k = 14 ∨ k = 15 ∨ k = 16 ∨ k = 17 ∨ k = 18 := by omega
        rcases hk with rfl | rfl | rfl | rfl | rfl | rfl | rfl | rfl | rfl | rfl | rfl | rfl | rfl | rfl | rfl | rfl | rfl | rfl | rfl
        · exact ⟨_, rfl, xBad (.inl rfl)⟩
        · exact ⟨_, rfl, xBadT hT1 (.inl rfl)⟩
        · exact ⟨_, rfl, xBadT hT2 (.inr (.inl rfl))⟩
        · exact ⟨_, rfl, xBadT hT3 (.inr (.inr (.inl ⟨_, rfl, ab_odd (by decide)⟩)))⟩
        · exact ⟨_, rfl, xBadT hT4 (.inr (.inr (.inl ⟨_, rfl, ab_odd (by decide)⟩)))⟩
        · exact ⟨_, rfl, xBadT hT5 (.inr (.inr (.inl ⟨_, rfl, e_odd⟩)))⟩
        · exact ⟨_, rfl, xBadT hT6 (.inr (.inr (.inr (.inl rfl))))⟩
        · exact ⟨_, rfl, xBad (.inr (.inr (.inl ⟨LA, rfl, hLA⟩)))⟩
        · exact ⟨_, rfl, xBadT hT7 (.inr (.inr (.inr (.inr (.inl ⟨LB, rfl, hLB⟩)))))⟩
        · exact ⟨_, rfl, .row (.cons (.push 1000) .nil), ⟨T9, T8, _, rfl, hT9, hT8, ⟨_, [], rfl, .inl ⟨Nat.le_refl _, .inr (.inl ⟨_, rfl⟩)⟩, rfl⟩⟩, (by show 1 ≤ 1000; decide), .inl (Nat.le_refl _), trivial⟩
        · exact ⟨_, rfl, xBadT hT11 (.inr (.inr (.inr (.inr (.inr (.inl ⟨_, _, rfl, odN _ (.inl (by decide))⟩))))))⟩
        · exact ⟨_, rfl, xBadT hT13 (.inr (.inr (.inr (.inr (.inr (.inl ⟨_, _, rfl, .inl rfl⟩))))))⟩
        · exact ⟨_, rfl, xBadT hT14 (.inr (.inr (.inr (.inr (.inr (.inl ⟨_, _, rfl, odN _ (.inr (by decide))⟩))))))⟩
        · exact ⟨_, rfl, xBadT hT16 (.inr (.inr (.inr (.inr (.inr (.inr (.inl ⟨_, _, _, rfl⟩)))))))⟩
        · exact ⟨_, rfl, xBadT hT17 (.inr (.inr (.inr (.inr (.inr (.inr (.inr rfl)))))))⟩
        · exact ⟨_, rfl, .row (ofL (List.replicate 61 .pop)), ⟨T21, T20, _, rfl, hT21, hT20, rep_xat 61 ⟨T18, rfl, hT18⟩⟩, rep_xcan (by decide) trivial⟩
        · exact ⟨_, rfl, .times 0 (.push 1000), ⟨T23, .ref T22, rfl, hT23, .inl ⟨Nat.le_refl _, .inr (.inr (.inr ⟨T22, _, rfl, hT22, .inr (.inr (.inl ⟨_, rfl, .inl rfl⟩))⟩))⟩⟩, (by decide), .inl (Nat.le_refl _)⟩
        · exact ⟨_, rfl, wd, hd, hdc⟩
        · exact ⟨_, rfl, .row (ofL (List.replicate 59 (.row .nil))), ⟨T29, T28, _, rfl, hT29, hT28, rep_xat 59 ⟨T26, T25, [], rfl, hT26, hT25, rfl⟩⟩, rep_xcan (by decide) ⟨(by decide), trivial⟩⟩
      refine ⟨L7, _, (k : Int), x, rfl, rfl, SqL.of hL7, atI_nat hx, ?_⟩
      refine gn ?_
      refine ⟨_, rfl, _, rfl, _, rfl, _, rfl, p, q, ns7, z7, .ref A, pl, u, wk, x, wo, rfl, B, hp, ok, hw, can, hdep, hxo, hco, fun wb xb ns8 z8 H47 hcb hxb B8 k8 => ?_⟩
      replace hT := Tabs.keep hT B k8
      replace hp := hp.tups (k8.tups B)
      replace hw := hw.tups (k8.tups B)
      replace hA := (k8.tups B).t _ _ hA
      have B := B8
      have hxb := hxb
      refine gn ?_
      refine ⟨_, rfl, _, rfl, .ref A, pl, xb, wb, 1, 0, rfl, hp, ok, hxb, hcb, by decide, by decide, by decide, by decide, fun T0 H48 s48 hT0 => ⟨T0, _, 0, _, rfl, rfl, SqT.of hT0, rfl, ?_⟩⟩
      clear hT0
      replace hT := Tabs.same hT s48
      replace hp := hp.mono s48
      replace hw := hw.tups (Tups.of s48)
      replace hA := s48 _ _ hA
      replace B := B.mono s48
      replace hxb := hxb.mono s48
      refine ⟨by (first | (show _ ≤ sizeLine; decide) | (simp only [List.length_cons, List.length_nil]; decide)), fun TG hNewTG => ?_⟩
      generalize hGenTG : upd _ TG _ = H49
      obtain ⟨s49, hTG⟩ := Same.ofG hNewTG hGenTG
      replace hT := Tabs.same hT s49
      replace hp := hp.mono s49
      replace hw := hw.tups (Tups.of s49)
      replace hA := s49 _ _ hA
      replace B := B.mono s49
      replace hxb := hxb.mono s49
      refine ⟨by (first | (show _ ≤ sizeLine; decide) | (simp only [List.length_cons, List.length_nil]; decide)), fun TK hNewTK => ?_⟩
      generalize hGenTK : upd _ TK _ = H50
      obtain ⟨s50, hTK⟩ := Same.ofG hNewTK hGenTK
      replace hT := Tabs.same hT s50
      replace hp := hp.mono s50
      replace hw := hw.tups (Tups.of s50)
      replace hA := s50 _ _ hA
      replace B := B.mono s50
      replace hxb := hxb.mono s50
      replace hTG := s50 _ _ hTG
      refine ⟨TK, _, rfl, SqT.of hTK, rfl, _, _, rfl, _, _, rfl, rfl, ?_⟩
      refine ⟨hT, fun f1 H51 e51 hT51 nf1 G1 => ?_⟩
      replace hp := hp.ext e51
      replace hw := hw.tups (Tups.ofN e51)
      replace hA := e51 _ _ hA (by intro ps z; cases z)
      replace B := B.ext e51
      replace hxb := hxb.ext e51
      replace hTG := e51 _ _ hTG (by intro ps z; cases z)
      replace hT := hT51
      refine ⟨hT, fun f2 H52 e52 hT52 nf2 G2 => ?_⟩
      replace hp := hp.ext e52
      replace hw := hw.tups (Tups.ofN e52)
      replace hA := e52 _ _ hA (by intro ps z; cases z)
      replace B := B.ext e52
      replace hxb := hxb.ext e52
      replace hTG := e52 _ _ hTG (by intro ps z; cases z)
      replace G1 := G1.ext e52
      replace hT := hT52
      refine ⟨hT, fun f3 H53 e53 hT53 nf3 G3 => ?_⟩
      replace hp := hp.ext e53
      replace hw := hw.tups (Tups.ofN e53)
      replace hA := e53 _ _ hA (by intro ps z; cases z)
      replace B := B.ext e53
      replace hxb := hxb.ext e53
      replace hTG := e53 _ _ hTG (by intro ps z; cases z)
      replace G1 := G1.ext e53
      replace G2 := G2.ext e53
      replace hT := hT53
      refine ⟨by (first | (show _ ≤ sizeLine; decide) | (simp only [List.length_cons, List.length_nil]; decide)), fun D1 hNewD1 => ?_⟩
      generalize hGenD1 : upd _ D1 _ = H54
      obtain ⟨s54, hD1⟩ := Same.ofG hNewD1 hGenD1
      replace hp := hp.mono s54
      replace hw := hw.tups (Tups.of s54)
      replace hA := s54 _ _ hA
      replace B := B.mono s54
      replace hxb := hxb.mono s54
      replace hTG := s54 _ _ hTG
      replace G1 := G1.mono s54
      replace G2 := G2.mono s54
      replace hT := Tabs.same hT s54
      replace G3 := G3.mono s54
      refine gn ?_
      refine ⟨_, rfl, ?_⟩
      refine ⟨hT, fun f4 H55 e55 hT55 nf4 G4 => ?_⟩
      replace hp := hp.ext e55
      replace hw := hw.tups (Tups.ofN e55)
      replace hA := e55 _ _ hA (by intro ps z; cases z)
      replace B := B.ext e55
      replace hxb := hxb.ext e55
      replace hTG := e55 _ _ hTG (by intro ps z; cases z)
      replace G1 := G1.ext e55
      replace G2 := G2.ext e55
      replace G3 := G3.ext e55
      replace hD1 := e55 _ _ hD1 (by intro ps z; cases z)
      replace hT := hT55
      refine ⟨hT, fun f5 H56 e56 hT56 nf5 G5 => ?_⟩
      replace hp := hp.ext e56
      replace hw := hw.tups (Tups.ofN e56)
      replace hA := e56 _ _ hA (by intro ps z; cases z)
      replace B := B.ext e56
      replace hxb := hxb.ext e56
      replace hTG := e56 _ _ hTG (by intro ps z; cases z)
      replace G1 := G1.ext e56
      replace G2 := G2.ext e56
      replace G3 := G3.ext e56
      replace hD1 := e56 _ _ hD1 (by intro ps z; cases z)
      replace G4 := G4.ext e56
      replace hT := hT56
      refine ⟨by (first | (show _ ≤ sizeLine; decide) | (simp only [List.length_cons, List.length_nil]; decide)), fun D2 hNewD2 => ?_⟩
      generalize hGenD2 : upd _ D2 _ = H57
      obtain ⟨s57, hD2⟩ := Same.ofG hNewD2 hGenD2
      replace hp := hp.mono s57
      replace hw := hw.tups (Tups.of s57)
      replace hA := s57 _ _ hA
      replace B := B.mono s57
      replace hxb := hxb.mono s57
      replace hTG := s57 _ _ hTG
      replace G1 := G1.mono s57
      replace G2 := G2.mono s57
      replace G3 := G3.mono s57
      replace hD1 := s57 _ _ hD1
      replace G4 := G4.mono s57
      replace hT := Tabs.same hT s57
      replace G5 := G5.mono s57
      refine ⟨D1, D2, _, _, rfl, rfl, hD1, hD2, by show 5 ≤ sizeLine; decide, fun D3 hND3 => ?_⟩
      have fD3 := B.fresh hND3
      generalize hCD3 : upd H57 D3 _ = H58
      obtain ⟨s58, hD3⟩ := Same.ofG hND3 hCD3
      replace hp := hp.mono s58
      replace hw := hw.tups (Tups.of s58)
      replace hA := s58 _ _ hA
      replace B := B.mono s58
      replace hxb := hxb.mono s58
      replace hTG := s58 _ _ hTG
      replace G1 := G1.mono s58
      replace G2 := G2.mono s58
      replace G3 := G3.mono s58
      replace hD1 := s58 _ _ hD1
      replace G4 := G4.mono s58
      replace hT := Tabs.same hT s58
      replace G5 := G5.mono s58
      replace hD2 := s58 _ _ hD2
      refine gn ?_
      refine ⟨_, rfl, .inl ⟨rfl, _, SqL.of hD3⟩, ?_⟩
      refine ⟨hT, fun f6 H59 e59 hT59 nf6 G6 => ?_⟩
      replace hp := hp.ext e59
      replace hw := hw.tups (Tups.ofN e59)
      replace hA := e59 _ _ hA (by intro ps z; cases z)
      replace B := B.ext e59
      replace hxb := hxb.ext e59
      replace hTG := e59 _ _ hTG (by intro ps z; cases z)
      replace G1 := G1.ext e59
      replace G2 := G2.ext e59
      replace G3 := G3.ext e59
      replace G4 := G4.ext e59
      replace G5 := G5.ext e59
      replace hD3 := e59 _ _ hD3 (by intro ps z; cases z)
      replace hT := hT59
      refine ⟨D3, _, _, rfl, rfl, hD3, by simp only [List.length_append, List.length_cons, List.length_nil]; exact szl (by decide), ?_⟩
      generalize hU : upd H59 D3 _ = H60
      have nU : Nice H59 H60 := by
        rw [← hU]
        exact Nice.lst hD3 (fun z => by cases z)
      have hT : Tabs [(PT, lamQk12), (PT2, lamQk12_law_refuses)] H60 := by rw [← hU]; exact Tabs.upd hT hD3
      have B : BoxAt H60 p q ns8 z8 := by rw [← hU]; exact BoxAt.upd B fD3
      have hp := hp.tups nU.t
      have hw := hw.tups nU.t
      have hxb := hxb.nice nU
      have hA := nU.t.t _ _ hA
      have hTG := nU.t.t _ _ hTG
      have tr : ∀ {X : Cx} {k : Nat} {fr : List Str} {f : Addr} {tb : XK → TE}, LamG X k fr H59 f tb → LamG X k fr H60 f tb := fun g => by rw [← hU]; exact g.upd hD3
      have G1 := tr G1
      have G2 := tr G2
      have G3 := tr G3
      have G4 := tr G4
      have G5 := tr G5
      have G6 := tr G6
      have hD3 : H60 D3 = some (.lst (([.ref f1, .ref f2, .ref f3] ++ [.ref f4, .ref f5]) ++ [.ref f6])) := by rw [← hU]; exact upd_same
      clear hU tr
      refine ⟨_, rfl, fun mx dx hmx hdx hne => ?_⟩
      have sx : Same H60 (upd (upd H60 dx (.own mx)) mx (.ins C dx [])) := made_same0 hmx hdx
      refine ⟨mx, dx, .ref A, pl, [], (by first | rfl | (rw [← s_empty]; rfl)), upd_same, hp.mono sx, ok, Nat.zero_le _, (fun c h => by cases h), fun H61 pa kk61 npa M => ⟨rfl, ?_⟩⟩
      have s61 : Same H60 H61 := made_same hmx hdx hne kk61
      replace hT := Tabs.same hT s61
      replace B := B.mono s61
      replace hp := hp.mono s61
      replace hw := hw.tups (Tups.of s61)
      replace hxb := hxb.mono s61
      replace hA := s61 _ _ hA
      replace hTG := s61 _ _ hTG
      replace hD3 := s61 _ _ hD3
      replace G1 := G1.mono s61
      replace G2 := G2.mono s61
      replace G3 := G3.mono s61
      replace G4 := G4.mono s61
      replace G5 := G5.mono s61
      replace G6 := G6.mono s61
      refine gn ?_
      refine nx_seq ?_
      refine seq_by (fun σ' H' => σ' = [some (.ref a), some (.ref p), some (.int (0 + (i : Int))), some u, some x, some dv, o6', some (optI (wb.fx 1 0).1), some (.ref D3), some xb, some (.ref TG), some (.ref mx), some (.ref A)] ∧ ExtN H61 H' ∧ Tabs [(PT, lamQk12), (PT2, lamQk12_law_refuses)] H') (fun R hR => ?_) (fun σ' H' hG => ?_)
      · refine ⟨_, rfl, rfl, _, rfl, ?_⟩
        have e0 : ExtN H61 H61 := ExtN.ofS (Same.refl _)
        have hcase : (∃ nb, (wb.fx 1 0).1 = some nb) ∨ (wb.fx 1 0).1 = none := by
          cases (wb.fx 1 0).1 with
          | none => exact .inr rfl
          | some nb => exact .inl ⟨nb, rfl⟩
        rcases hcase with ⟨nb, hfx⟩ | hfx
        · have e : (!decide (optI (wb.fx 1 0).1 = V.non)) = true := by rw [hfx]; rfl
          rw [e]
          refine iteT ?_
          refine ⟨_, rfl, ?_⟩
          refine ⟨D3, _, 0, .ref f1, rfl, rfl, SqL.of hD3, at_six, ?_⟩
          refine ⟨by (first | (show _ ≤ sizeLine; decide) | (simp only [List.length_cons, List.length_nil]; decide)), fun Da hNewDa => ?_⟩
          generalize hGenDa : upd _ Da _ = H62
          obtain ⟨s62, hDa⟩ := Same.ofG hNewDa hGenDa
          replace hT := Tabs.same hT s62
          replace B := B.mono s62
          replace hp := hp.mono s62
          replace hw := hw.tups (Tups.of s62)
          replace hxb := hxb.mono s62
          replace hA := s62 _ _ hA
          replace hTG := s62 _ _ hTG
          replace hD3 := s62 _ _ hD3
          replace G1 := G1.mono s62
          replace G2 := G2.mono s62
          replace G3 := G3.mono s62
          replace G4 := G4.mono s62
          replace G5 := G5.mono s62
          replace G6 := G6.mono s62
          replace M := M.mono s62
          replace e0 := e0.trans (ExtN.ofS s62)
          refine ⟨_, rfl, _, rfl, ?_⟩
          refine nop_ ?_
          refine ⟨D3, _, rfl, SqL.of hD3, fun Db hNDb => ?_⟩
          rw [cut_six]
          generalize hGDb : upd H62 Db _ = H63
          obtain ⟨s63, hDb⟩ := Same.ofG hNDb hGDb
          replace hT := Tabs.same hT s63
          replace B := B.mono s63
          replace hp := hp.mono s63
          replace hw := hw.tups (Tups.of s63)
          replace hxb := hxb.mono s63
          replace hA := s63 _ _ hA
          replace hTG := s63 _ _ hTG
          replace hD3 := s63 _ _ hD3
          replace G1 := G1.mono s63
          replace G2 := G2.mono s63
          replace G3 := G3.mono s63
          replace G4 := G4.mono s63
          replace G5 := G5.mono s63
          replace G6 := G6.mono s63
          replace M := M.mono s63
          replace e0 := e0.trans (ExtN.ofS s63)
          replace hDa := s63 _ _ hDa
          refine ⟨Da, Db, _, _, rfl, rfl, hDa, hDb, by show 6 ≤ sizeLine; decide, fun Dc hNDc => ?_⟩
          have fDc := B.fresh hNDc
          generalize hCDc : upd H63 Dc _ = H64
          obtain ⟨s64, hDc⟩ := Same.ofG hNDc hCDc
          replace hT := Tabs.same hT s64
          replace B := B.mono s64
          replace hp := hp.mono s64
          replace hw := hw.tups (Tups.of s64)
          replace hxb := hxb.mono s64
          replace hA := s64 _ _ hA
          replace hTG := s64 _ _ hTG
          replace hD3 := s64 _ _ hD3
          replace G1 := G1.mono s64
          replace G2 := G2.mono s64
          replace G3 := G3.mono s64
          replace G4 := G4.mono s64
          replace G5 := G5.mono s64
          replace G6 := G6.mono s64
          replace M := M.mono s64
          replace e0 := e0.trans (ExtN.ofS s64)
          replace hDa := s64 _ _ hDa
          replace hDb := s64 _ _ hDb
          refine ⟨hT, fun f7 H65 e65 hT65 nf7 G7 => ?_⟩
          replace B := B.ext e65
          replace hp := hp.ext e65
          replace hw := hw.tups (Tups.ofN e65)
          replace hxb := hxb.ext e65
          replace hA := e65 _ _ hA (by intro ps z; cases z)
          replace hTG := e65 _ _ hTG (by intro ps z; cases z)
          replace hD3 := e65 _ _ hD3 (by intro ps z; cases z)
          replace G1 := G1.ext e65
          replace G2 := G2.ext e65
          replace G3 := G3.ext e65
          replace G4 := G4.ext e65
          replace G5 := G5.ext e65
          replace G6 := G6.ext e65
          replace M := M.ext e65
          replace e0 := e0.trans e65
          replace hDc := e65 _ _ hDc (by intro ps z; cases z)
          replace hT := hT65
          refine ⟨by (first | (show _ ≤ sizeLine; decide) | (simp only [List.length_cons, List.length_nil]; decide)), fun De hNewDe => ?_⟩
          generalize hGenDe : upd _ De _ = H66
          obtain ⟨s66, hDe⟩ := Same.ofG hNewDe hGenDe
          replace B := B.mono s66
          replace hp := hp.mono s66
          replace hw := hw.tups (Tups.of s66)
          replace hxb := hxb.mono s66
          replace hA := s66 _ _ hA
          replace hTG := s66 _ _ hTG
          replace hD3 := s66 _ _ hD3
          replace G1 := G1.mono s66
          replace G2 := G2.mono s66
          replace G3 := G3.mono s66
          replace G4 := G4.mono s66
          replace G5 := G5.mono s66
          replace G6 := G6.mono s66
          replace M := M.mono s66
          replace e0 := e0.trans (ExtN.ofS s66)
          replace hDc := s66 _ _ hDc
          replace hT := Tabs.same hT s66
          replace G7 := G7.mono s66
          refine ⟨Dc, De, _, _, rfl, rfl, hDc, hDe, by show 7 ≤ sizeLine; decide, fun Df hNDf => ?_⟩
          have fDf := B.fresh hNDf
          generalize hCDf : upd H66 Df _ = H67
          obtain ⟨s67, hDf⟩ := Same.ofG hNDf hCDf
          replace B := B.mono s67
          replace hp := hp.mono s67
          replace hw := hw.tups (Tups.of s67)
          replace hxb := hxb.mono s67
          replace hA := s67 _ _ hA
          replace hTG := s67 _ _ hTG
          replace hD3 := s67 _ _ hD3
          replace G1 := G1.mono s67
          replace G2 := G2.mono s67
          replace G3 := G3.mono s67
          replace G4 := G4.mono s67
          replace G5 := G5.mono s67
          replace G6 := G6.mono s67
          replace M := M.mono s67
          replace e0 := e0.trans (ExtN.ofS s67)
          replace hDc := s67 _ _ hDc
          replace hT := Tabs.same hT s67
          replace G7 := G7.mono s67
          replace hDe := s67 _ _ hDe
          refine ⟨_, rfl, ?_⟩
          refine ⟨by (first | (show _ ≤ sizeLine; decide) | (simp only [List.length_cons, List.length_nil]; decide)), fun TW hNewTW => ?_⟩
          generalize hGenTW : upd _ TW _ = H68
          obtain ⟨s68, hTW⟩ := Same.ofG hNewTW hGenTW
          replace B := B.mono s68
          replace hp := hp.mono s68
          replace hw := hw.tups (Tups.of s68)
          replace hxb := hxb.mono s68
          replace hA := s68 _ _ hA
          replace hTG := s68 _ _ hTG
          replace hD3 := s68 _ _ hD3
          replace G1 := G1.mono s68
          replace G2 := G2.mono s68
          replace G3 := G3.mono s68
          replace G4 := G4.mono s68
          replace G5 := G5.mono s68
          replace G6 := G6.mono s68
          replace M := M.mono s68
          replace e0 := e0.trans (ExtN.ofS s68)
          replace hT := Tabs.same hT s68
          replace G7 := G7.mono s68
          replace hDf := s68 _ _ hDf
          have hTW : H68 TW = some (.tup [.str "BadWork", .int ((nb : Nat) : Int)]) := by
            rw [hTW, hfx]
            rfl
          refine fun cs okX hl C => ?_
          have sA := Same.toAdd C.off
          have key : ∀ (E : XK) (H' : Hp), Same (addC H68 cs) H' → (∀ d H2, Same H' H2 → Fld 8 d (nb : Int) H2 → E (.ref (nAt ns 8)) d H2) → ∀ okP : Prop, noW ns.c8 wb (subC H' cs) (fun cls d H2 => Off H2 cs → E cls d (addC H2 cs)) okP := fun E H' s' he okP => by
            unfold noW
            rw [hfx]
            exact fun d H2 s2 h2 off => he (some d) (addC H2 cs) (Same.back (On.add.same s') off s2) ⟨d, rfl, Same.toAdd off _ _ h2⟩
          refine ⟨Df, [f1, f2, f3, f4, f5, f6, f7], TW, 8, "BadWork", (nb : Int), rfl, sA _ _ hDf, .inr (.inr (.inr (.inr rfl))), by decide, rfl, sA _ _ hTW, fun f hf => ?_, fun H' s' => ⟨On.add.same s', ?_⟩⟩
          · simp only [List.mem_cons, List.not_mem_nil, or_false] at hf
            rcases hf with rfl | rfl | rfl | rfl | rfl | rfl | rfl
            · obtain ⟨F, hL, _⟩ := id G1
              refine ⟨F, _, sA _ _ hL.fn, G1.at okX hl C, fun E H' Q' s' he => ?_⟩
              have ky := key E H' s' he
              have sS := Same.sub C.off s'
              exact ⟨_, rfl, _, rfl, .ref A, pl, xb, wb, rfl, hp.mono sS, ok, hxb.mono sS, hcb, ky _⟩
            · obtain ⟨F, hL, _⟩ := id G2
              refine ⟨F, _, sA _ _ hL.fn, G2.at okX hl C, fun E H' Q' s' he => ?_⟩
              have ky := key E H' s' he
              have sS := Same.sub C.off s'
              exact ⟨_, rfl, _, rfl, .ref A, pl, xb, wb, .non, rfl, hp.mono sS, ok, hxb.mono sS, hcb, ky _⟩
            · obtain ⟨F, hL, _⟩ := id G3
              refine ⟨F, _, sA _ _ hL.fn, G3.at okX hl C, fun E H' Q' s' he => ?_⟩
              have ky := key E H' s' he
              have sS := Same.sub C.off s'
              exact ⟨_, rfl, _, rfl, .ref A, pl, xb, wb, .non, rfl, hp.mono sS, ok, hxb.mono sS, hcb, ky _⟩
            · obtain ⟨F, hL, _⟩ := id G4
              refine ⟨F, _, sA _ _ hL.fn, G4.at okX hl C, fun E H' Q' s' he => ?_⟩
              have ky := key E H' s' he
              have sS := Same.sub C.off s'
              exact ⟨_, rfl, _, rfl, _, rfl, .ref A, pl, .ref TG, .pop, xb, rfl, hp.mono sS, ok, ⟨TG, rfl, sS _ _ hTG⟩, trivial, by unfold noW; rw [W.fx_fine (m := pl.many) (w := .pop) ⟨trivial, by decide, by decide⟩]; exact ⟨wb, hxb.mono sS, hcb, ky _⟩⟩
            · obtain ⟨F, hL, _⟩ := id G5
              refine ⟨F, _, sA _ _ hL.fn, G5.at okX hl C, fun E H' Q' s' he => ?_⟩
              have ky := key E H' s' he
              have sS := Same.sub C.off s'
              exact ⟨_, rfl, _, rfl, .ref A, pl, xb, wb, rfl, hp.mono sS, ok, hxb.mono sS, hcb, ky _⟩
            · obtain ⟨F, hL, _⟩ := id G6
              refine ⟨F, _, sA _ _ hL.fn, G6.at okX hl C, fun E H' Q' s' he => ?_⟩
              have ky := key E H' s' he
              have sS := Same.sub C.off s'
              exact ⟨_, rfl, _, rfl, .ref A, pl, xb, wb, rfl, hp.mono sS, ok, hxb.mono sS, hcb, ky _⟩
            · obtain ⟨F, hL, _⟩ := id G7
              refine ⟨F, _, sA _ _ hL.fn, G7.at okX hl C, fun E H' Q' s' he => ?_⟩
              have ky := key E H' s' he
              have sS := Same.sub C.off s'
              have Ms := M.mono sS
              obtain ⟨dx1, fs1, ho1, hn1⟩ := Ms.at
              exact ⟨_, rfl, mx, dx1, fs1, rfl, ho1, hn1 _ nf_do, _, rfl, mx, pa, _, xb, wb, rfl, Ms, ok, hxb.mono sS, hcb, ky _⟩
          · have sE := Same.sub C.off s'
            refine ⟨_, rfl, iteF ?_⟩
            exact hR _ _ ⟨rfl, e0.trans (ExtN.ofS sE), Tabs.same hT sE⟩
        · have e : (!decide (optI (wb.fx 1 0).1 = V.non)) = false := by rw [hfx]; rfl
          rw [e]
          refine iteF ?_
          refine ⟨_, rfl, ?_⟩
          refine ⟨D3, _, 0, .ref f1, rfl, rfl, SqL.of hD3, at_six, ?_⟩
          refine fun cs okX hl C => ?_
          refine tellR G1 okX hl C fun Ha E' Q' sa hE hQ => ?_
          refine ⟨_, rfl, _, rfl, .ref A, pl, xb, wb, rfl, hp.mono sa, ok, hxb.mono sa, hcb, ?_⟩
          unfold noW
          rw [hfx]
          intro Hb vv sb htv
          obtain ⟨TV, rfl, hTV⟩ := htv
          refine hQ _ _ fun H4 on4 e4 => ⟨on4, ?_⟩
          rw [e4]
          refine ⟨TV, _, 0, _, rfl, rfl, SqT.of hTV, rfl, ?_⟩
          refine ⟨rfl, _, rfl, iteDF (by intro z; cases z) ?_⟩
          exact hR _ _ ⟨rfl, e0.trans (ExtN.ofS (sa.trans sb)), Tabs.same hT (sa.trans sb)⟩
      · obtain ⟨rfl, eG, hTG2⟩ := hG
        have hp := hp.ext eG
        have hw := hw.tups (Tups.ofN eG)
        have B := B.ext eG
        have M := M.ext eG
        obtain ⟨dx1, fs1, ho1, hn1⟩ := M.at
        refine ⟨_, rfl, mx, dx1, fs1, rfl, ho1, hn1 _ nf_deeds, mx, pa, _, rfl, M, fun Hz sz => ?_⟩
        refine ⟨rfl, _, rfl, iteNS rfl ?_⟩
        refine ⟨_, rfl, _, rfl, _, rfl, p, q, ns8, z8, .ref A, pl, u, wk, rfl, B.mono sz, hp.mono sz, ok, hw.tups (Tups.of sz), ⟨can, hsiz, by omega⟩, Tabs.same hTG2 sz, fun ns9 z9 H9 B9 hT9 => ⟨_, rfl, iteF ?_⟩⟩
        exact ⟨_, _, _, _, _, _, _, _, _, _, _, ns9, z9, rfl, B9, hT9⟩
  · rintro σ H2 _
    exact kk H2
end
/-! ### the end -/
theorem gx_mk {K : PySem.W.Frag} {mg : Str → Option Value} {h : Heap} (X : K.In h) (G : h.Ns mainGlobals mg) {u0 : Value} (v0 : PySem.W.nsIn K mainGlobals "SIGNS" = some (some u0)) (r0 : RelV (.str (tx [97, 98, 99, 100])) u0) {u1 : Value} (v1 : PySem.W.nsIn K mainGlobals "POP_STEP" = some (some u1)) (r1 : RelV (.str (tx [45])) u1) {u2 : Value} (v2 : PySem.W.nsIn K mainGlobals "MOST_ROOM" = some (some u2)) (r2 : RelV (.int 9) u2) {u3 : Value} (v3 : PySem.W.nsIn K mainGlobals "MOST_PRICE" = some (some u3)) (r3 : RelV (.int 99) u3) {u4 : Value} (v4 : PySem.W.nsIn K mainGlobals "MOST_TIMES" = some (some u4)) (r4 : RelV (.int 1000000000000000000) u4) {u5 : Value} (v5 : PySem.W.nsIn K mainGlobals "MOST_WORKS" = some (some u5)) (r5 : RelV (.int 60) u5) {u6 : Value} (v6 : PySem.W.nsIn K mainGlobals "MOST_DEEP" = some (some u6)) (r6 : RelV (.int 8) u6) {u7 : Value} (v7 : PySem.W.nsIn K mainGlobals "BEGIN" = some (some u7)) (r7 : RelV (.str (tx [91])) u7) {u8 : Value} (v8 : PySem.W.nsIn K mainGlobals "END" = some (some u8)) (r8 : RelV (.str (tx [93])) u8) (z0 : PySem.W.nsIn K mainGlobals "isinstance" = some none) (z1 : PySem.W.nsIn K mainGlobals "bool" = some none) (z2 : PySem.W.nsIn K mainGlobals "int" = some none) (z3 : PySem.W.nsIn K mainGlobals "str" = some none) (z4 : PySem.W.nsIn K mainGlobals "tuple" = some none) (z5 : PySem.W.nsIn K mainGlobals "len" = some none) (z6 : PySem.W.nsIn K mainGlobals "all" = some none) (z7 : PySem.W.nsIn K mainGlobals "max" = some none) (z8 : PySem.W.nsIn K mainGlobals "min" = some none) (z9 : PySem.W.nsIn K mainGlobals "range" = some none) (z10 : PySem.W.nsIn K mainGlobals "list" = some none) (z11 : PySem.W.nsIn K mainGlobals "reversed" = some none) (z12 : PySem.W.nsIn K mainGlobals "sum" = some none) (z13 : PySem.W.nsIn K mainGlobals "abs" = some none) (z14 : PySem.W.nsIn K mainGlobals "ValueError" = some none) : Gx mg :=
  ⟨⟨_, PySem.W.mg_of X G v0, r0⟩, ⟨_, PySem.W.mg_of X G v1, r1⟩, ⟨_, PySem.W.mg_of X G v2, r2⟩, ⟨_, PySem.W.mg_of X G v3, r3⟩, ⟨_, PySem.W.mg_of X G v4, r4⟩, ⟨_, PySem.W.mg_of X G v5, r5⟩, ⟨_, PySem.W.mg_of X G v6, r6⟩, ⟨_, PySem.W.mg_of X G v7, r7⟩, ⟨_, PySem.W.mg_of X G v8, r8⟩, PySem.W.mg_none_of X G z0, PySem.W.mg_none_of X G z1, PySem.W.mg_none_of X G z2, PySem.W.mg_none_of X G z3, PySem.W.mg_none_of X G z4, PySem.W.mg_none_of X G z5, PySem.W.mg_none_of X G z6, PySem.W.mg_none_of X G z7, PySem.W.mg_none_of X G z8, PySem.W.mg_none_of X G z9, PySem.W.mg_none_of X G z10, PySem.W.mg_none_of X G z11, PySem.W.mg_none_of X G z12, PySem.W.mg_none_of X G z13, PySem.W.mg_none_of X G z14⟩
theorem all_mk {l : PySem.W.OpenLaw} {w : World} {K : PySem.W.Frag} {h : Heap} {mg : Str → Option Value} {fa fL cW PT cW2 PT2 C CS : Addr} {ns : Nine} (X : K.In h) (G : h.Ns mainGlobals mg) (hfa : mg "law" = some (.ref fa))
    {od an : Option Addr} {sl : Array (Option Value)} {oc kV dc pm ct : Value}
    (aL : PySem.W.nsIn K mainGlobals "law" = some (some (.ref fL))) (lL : K.lookup fL = some ⟨oc, od, .func (PySem.W.fnOf "law" "law" (defArgs s_law) (defBody s_law) (defScope s_law) .none kV dc pm an (.ref cW) ct), sl⟩) (cL : PySem.W.codeIn K (.ref cW) "law" = true) (kL : PySem.W.keepIn K (.ref fL) = true)
    (g : Gx mg) (T : MT K C)
    (hPT : PT ≠ PT2) (nn : NineG mg ns CS) (t0 : TOne9 K ns CS 0) (e_BadCount : ErrC K mg "BadCount" (nAt ns 0)) (t4 : TOne9 K ns CS 4) (e_BadStack : ErrC K mg "BadStack" (nAt ns 4)) (t5 : TOne9 K ns CS 5) (e_BadSteps : ErrC K mg "BadSteps" (nAt ns 5)) (t7 : TOne9 K ns CS 7) (e_BadTriple : ErrC K mg "BadTriple" (nAt ns 7)) (t8 : TOne9 K ns CS 8) (i_BadWork : InC l.prog K mg "BadWork" (nAt ns 8) "number" (inMsgOf (defBody s_in_BadWork)) (inPosOf (defBody s_in_BadWork)) (defArgs s_in_BadWork))
    (D_signs_of : Dn K mg "signs_of" s_signs_of P_signs_of)
    (D_is_number : Dn K mg "is_number" s_is_number P_is_number)
    (D_is_text_of : Dn K mg "is_text_of" s_is_text_of P_is_text_of)
    (D_are_prices : Dn K mg "are_prices" s_are_prices P_are_prices)
    (D_check_plan : Dn K mg "check_plan" s_check_plan P_check_plan)
    (D_is_stack : Dn K mg "is_stack" s_is_stack P_is_stack)
    (D_check_stack : Dn K mg "check_stack" s_check_stack P_check_stack)
    (D_check_steps : Dn K mg "check_steps" s_check_steps P_check_steps)
    (D_is_triple : Dn K mg "is_triple" s_is_triple P_is_triple)
    (D_check_triple : Dn K mg "check_triple" s_check_triple P_check_triple)
    (D_without_top : Dn K mg "without_top" s_without_top P_without_top)
    (D_top_of : Dn K mg "top_of" s_top_of P_top_of)
    (D_stack_behind : Dn K mg "stack_behind" s_stack_behind P_stack_behind)
    (D_tidied : Dn K mg "tidied" s_tidied P_tidied)
    (D_untouched : Dn K mg "untouched" s_untouched P_untouched)
    (D_join_triples : Dn K mg "join_triples" s_join_triples P_join_triples)
    (D_triple_of_step : Dn K mg "triple_of_step" s_triple_of_step P_triple_of_step)
    (D_triple_of_steps : Dn K mg "triple_of_steps" s_triple_of_steps P_triple_of_steps)
    (D_told_of_steps : Dn K mg "told_of_steps" s_told_of_steps P_told_of_steps)
    (D_done : Dn K mg "done" s_done P_done)
    (D_law_take : Dn K mg "_law_take" s_law_take P_law_take)
    (D_law_begun : Dn K mg "_law_begun" s_law_begun P_law_begun)
    (D_law_plan : Dn K mg "_law_plan" s_law_plan P_law_plan)
    (D_law_alike : Dn K mg "_law_alike" s_law_alike P_law_alike)
    (D_is_work_alone : Dn K mg "is_work_alone" s_is_work_alone P_is_work_alone)
    (D_works_within : Dn K mg "works_within" s_works_within P_works_within)
    (D_power_triple : Dn K mg "power_triple" s_power_triple P_power_triple)
    (D_price_of_step : Dn K mg "price_of_step" s_price_of_step P_price_of_step)
    (D_triple_of_work : Dn K mg "triple_of_work" s_triple_of_work P_triple_of_work)
    (D_price_of_work : Dn K mg "price_of_work" s_price_of_work P_price_of_work)
    (D_check_work : Dn K mg "check_work" s_check_work P_check_work)
    (D_told : Dn K mg "told" s_told P_told)
    (D_run : Dn K mg "run" s_run P_run)
    (D_cost : Dn K mg "cost" s_cost P_cost)
    (D_law_signs : Dn K mg "_law_signs" s_law_signs P_law_signs)
    (D_law_work : Dn K mg "_law_work" s_law_work P_law_work)
    (D_law_tuples : Dn K mg "_law_tuples" s_law_tuples P_law_tuples)
    (D_law_some : Dn K mg "_law_some" s_law_some P_law_some)
    (D_alike : Dn K mg "alike" s_alike P_alike)
    (D_parting : Dn K mg "parting" s_parting P_parting)
    (D_check_sign : Dn K mg "check_sign" s_check_sign P_check_sign)
    (D_M_deeds : Dm K C "deeds" "Machine.deeds" s_M_deeds P_M_deeds)
    (D_M_init : Di K mg C "Machine" "Machine.__init__" s_M_init P_M_init)
    (D_law_first : Dn K mg "_law_first" s_law_first P_law_first)
    (D_law_spoilt : Dn K mg "_law_spoilt" s_law_spoilt P_law_spoilt)
    (D_check_times : Dn K mg "check_times" s_check_times P_check_times)
    (D_joined : Dn K mg "joined" s_joined P_joined)
    (D_powered : Dn K mg "powered" s_powered P_powered)
    (D_law_triple : Dn K mg "_law_triple" s_law_triple P_law_triple)
    (D_law_told : Dn K mg "_law_told" s_law_told P_law_told)
    (D_law_all : Dn K mg "_law_all" s_law_all P_law_all)
    (D_written : Dn K mg "written" s_written P_written)
    (D_M_do : Dm K C "do" "Machine.do" s_M_do P_M_do)
    (D_befores : Dn K mg "befores" s_befores P_befores)
    (D_judged : Dn K mg "judged" s_judged P_judged)
    (D_cheapest : Dn K mg "cheapest" s_cheapest P_cheapest)
    (D_fewest : Dn K mg "fewest" s_fewest P_fewest)
    (D_fillers : Dn K mg "fillers" s_fillers P_fillers)
    (D_number_of : Dn K mg "number_of" s_number_of P_number_of)
    (D_law_refuses : DnL K mg "_law_refuses" s_law_refuses P_law_refuses cW2) :
    ∃ fd : FuncData, (∀ (s : Shared) (v : Value), BindsTo s fd ⟨[v], []⟩ [("_law_script", v)]) ∧ ∀ base : Heap, K.In base → base.Ns mainGlobals mg → LamX.TabB base mg cW PT → LamX.TabB base mg cW2 PT2 → FnOk l.prog w K mg base CX0 23 fa fd ["_law_script"] (spLawT K [(PT, lamQk12), (PT2, lamQk12_law_refuses)]) := by
  have e := hfa.symm.trans (PySem.W.mg_of X G aL)
  cases e
  skip
  refine ⟨PySem.W.fnOf "law" "law" (defArgs s_law) (defBody s_law) (defScope s_law) .none kV dc pm an (.ref cW) ct, fun s v => .of_eq rfl, fun base _ _ TB TB2 => ?_⟩
  have T9 : ∀ i, IS12 i → TOne9 K ns CS i := fun i hi => by
    rcases hi with rfl | rfl | rfl | rfl | rfl
    · exact t0
    · exact t4
    · exact t5
    · exact t7
    · exact t8
  have c_signs_of := ok_signs_of (P := l.prog) (w := w) (base := base) D_signs_of g
  have c_is_number := ok_is_number (P := l.prog) (w := w) (base := base) D_is_number g
  have c_is_text_of := ok_is_text_of (P := l.prog) (w := w) (base := base) D_is_text_of g
  have c_are_prices := ok_are_prices (P := l.prog) (w := w) (base := base) D_are_prices g c_is_number
  have c_check_plan := ok_check_plan (P := l.prog) (w := w) (base := base) D_check_plan g c_is_number c_are_prices
  have c_is_stack := ok_is_stack (P := l.prog) (w := w) (base := base) D_is_stack g c_signs_of c_is_text_of
  have c_check_stack := ok_check_stack (P := l.prog) (w := w) (base := base) D_check_stack g c_is_stack
  have c_check_steps := ok_check_steps (P := l.prog) (w := w) (base := base) D_check_steps g c_signs_of c_is_text_of
  have c_is_triple := ok_is_triple (P := l.prog) (w := w) (base := base) D_is_triple g c_is_number c_signs_of c_is_text_of
  have c_check_triple := ok_check_triple (P := l.prog) (w := w) (base := base) D_check_triple g c_is_triple
  have c_without_top := ok_without_top (P := l.prog) (w := w) (base := base) D_without_top g
  have c_top_of := ok_top_of (P := l.prog) (w := w) (base := base) D_top_of g
  have c_stack_behind := ok_stack_behind (P := l.prog) (w := w) (base := base) D_stack_behind g c_without_top c_top_of
  have c_tidied := ok_tidied (P := l.prog) (w := w) (base := base) D_tidied g
  have c_untouched := ok_untouched (P := l.prog) (w := w) (base := base) D_untouched g
  have c_join_triples := ok_join_triples (P := l.prog) (w := w) (base := base) D_join_triples g c_without_top c_top_of c_tidied
  have c_triple_of_step := ok_triple_of_step (P := l.prog) (w := w) (base := base) D_triple_of_step g c_tidied
  have c_triple_of_steps := ok_triple_of_steps (P := l.prog) (w := w) (base := base) D_triple_of_steps g c_untouched c_triple_of_step c_join_triples
  have c_told_of_steps := ok_told_of_steps (P := l.prog) (w := w) (base := base) D_told_of_steps g c_check_plan c_check_steps c_triple_of_steps
  have c_done := ok_done (P := l.prog) (w := w) (base := base) D_done g c_check_plan c_check_triple c_check_stack c_stack_behind
  have c_law_take := ok_law_take (P := l.prog) (w := w) (base := base) D_law_take g
  have c_law_begun := ok_law_begun (P := l.prog) (w := w) (base := base) D_law_begun g
  have c_law_plan := ok_law_plan (P := l.prog) (w := w) (base := base) D_law_plan g c_law_take
  have c_law_alike := ok_law_alike (P := l.prog) (w := w) (base := base) D_law_alike g 20
  have c_is_work_alone := ok_is_work_alone (P := l.prog) (w := w) (base := base) D_is_work_alone g c_is_number
  have c_works_within := ok_works_within (P := l.prog) (w := w) (base := base) D_works_within g
  have c_power_triple := ok_power_triple (P := l.prog) (w := w) (base := base) D_power_triple g c_untouched c_join_triples
  have c_price_of_step := ok_price_of_step (P := l.prog) (w := w) (base := base) D_price_of_step g
  have c_triple_of_work := ok_triple_of_work (P := l.prog) (w := w) (base := base) D_triple_of_work g c_triple_of_step c_power_triple c_untouched c_join_triples 8
  have c_price_of_work := ok_price_of_work (P := l.prog) (w := w) (base := base) D_price_of_work g c_price_of_step 8
  have c_check_work := ok_check_work (P := l.prog) (w := w) (base := base) D_check_work g c_signs_of c_is_work_alone c_works_within
  have c_told := ok_told (P := l.prog) (w := w) (base := base) D_told g c_check_plan c_check_work c_triple_of_work
  have c_run := ok_run (P := l.prog) (w := w) (base := base) D_run g c_check_plan c_check_work c_check_stack c_triple_of_work c_stack_behind
  have c_cost := ok_cost (P := l.prog) (w := w) (base := base) D_cost g c_check_plan c_check_work c_price_of_work
  have c_law_signs := ok_law_signs (P := l.prog) (w := w) (base := base) D_law_signs g c_law_take
  have c_law_work := ok_law_work (P := l.prog) (w := w) (base := base) D_law_work g c_law_take 8
  have c_law_tuples := ok_law_tuples (P := l.prog) (w := w) (base := base) D_law_tuples g 8
  have c_law_some := ok_law_some (P := l.prog) (w := w) (base := base) D_law_some g c_law_work c_law_tuples
  have c_alike := ok_alike (P := l.prog) (w := w) (base := base) D_alike g c_check_plan c_check_work c_triple_of_work
  have c_parting := ok_parting (P := l.prog) (w := w) (base := base) D_parting g c_check_plan c_check_work c_triple_of_work c_stack_behind
  have c_check_sign := ok_check_sign (P := l.prog) (w := w) (base := base) D_check_sign g c_signs_of
  have c_M_deeds := ok_M_deeds (P := l.prog) (w := w) (base := base) D_M_deeds T g
  have c_M_init := ok_M_init (P := l.prog) (w := w) (base := base) D_M_init T g c_check_plan c_check_stack c_untouched
  have c_law_first := ok_law_first (P := l.prog) (w := w) (base := base) D_law_first g 9
  have c_law_spoilt := ok_law_spoilt (P := l.prog) (w := w) (base := base) D_law_spoilt g c_law_take 6
  have c_check_times := ok_check_times (P := l.prog) (w := w) (base := base) D_check_times g c_is_number
  have c_joined := ok_joined (P := l.prog) (w := w) (base := base) D_joined g c_check_plan c_check_triple c_join_triples
  have c_powered := ok_powered (P := l.prog) (w := w) (base := base) D_powered g c_check_plan c_check_triple c_check_times c_power_triple
  have c_law_triple := ok_law_triple (P := l.prog) (w := w) (base := base) D_law_triple g c_law_take c_law_signs
  have c_law_told := ok_law_told (P := l.prog) (w := w) (base := base) D_law_told g nn T9 13
  have c_law_all := ok_law_all (P := l.prog) (w := w) (base := base) D_law_all g c_law_told c_law_alike
  have n_is_number := okn_is_number (P := l.prog) (w := w) (base := base) D_is_number g
  have n_is_text_of := okn_is_text_of (P := l.prog) (w := w) (base := base) D_is_text_of g
  have n_is_stack := okn_is_stack (P := l.prog) (w := w) (base := base) D_is_stack g c_signs_of n_is_text_of
  have n_is_triple := okn_is_triple (P := l.prog) (w := w) (base := base) D_is_triple g n_is_number c_signs_of n_is_text_of
  have n_is_work_alone := okn_is_work_alone (P := l.prog) (w := w) (base := base) D_is_work_alone g n_is_number
  have n_works_within := okn_works_within (P := l.prog) (w := w) (base := base) D_works_within g
  have x_check_work := okx_check_work (P := l.prog) (w := w) (base := base) D_check_work g i_BadWork c_signs_of n_is_work_alone n_works_within
  have x_check_stack := okx_check_stack (P := l.prog) (w := w) (base := base) D_check_stack g e_BadStack n_is_stack
  have x_check_triple := okx_check_triple (P := l.prog) (w := w) (base := base) D_check_triple g e_BadTriple n_is_triple
  have x_check_steps := okx_check_steps (P := l.prog) (w := w) (base := base) D_check_steps g e_BadSteps c_signs_of n_is_text_of
  have x_check_times := okx_check_times (P := l.prog) (w := w) (base := base) D_check_times g e_BadCount n_is_number
  have x_told := okx_told (P := l.prog) (w := w) (base := base) D_told g c_check_plan x_check_work c_triple_of_work
  have x_run := okx_run (P := l.prog) (w := w) (base := base) D_run g c_check_plan x_check_work x_check_stack
  have x_alike := okx_alike (P := l.prog) (w := w) (base := base) D_alike g c_check_plan x_check_work
  have x_parting := okx_parting (P := l.prog) (w := w) (base := base) D_parting g c_check_plan x_check_work
  have x_cost := okx_cost (P := l.prog) (w := w) (base := base) D_cost g c_check_plan x_check_work
  have x_written := okx_written (P := l.prog) (w := w) (base := base) D_written g c_check_plan x_check_work
  have x_M_do := okx_M_do (P := l.prog) (w := w) (base := base) D_M_do T g x_check_work
  have x_done := okx_done (P := l.prog) (w := w) (base := base) D_done g c_check_plan x_check_triple x_check_stack
  have x_befores := okx_befores (P := l.prog) (w := w) (base := base) D_befores g c_check_plan x_check_triple x_check_stack
  have x_joined := okx_joined (P := l.prog) (w := w) (base := base) D_joined g c_check_plan x_check_triple
  have x_powered := okx_powered (P := l.prog) (w := w) (base := base) D_powered g c_check_plan x_check_triple x_check_times
  have x_judged := okx_judged (P := l.prog) (w := w) (base := base) D_judged g c_check_plan x_check_triple x_check_steps
  have x_cheapest := okx_cheapest (P := l.prog) (w := w) (base := base) D_cheapest g c_check_plan x_check_triple
  have x_fewest := okx_fewest (P := l.prog) (w := w) (base := base) D_fewest g c_check_plan x_check_triple
  have x_fillers := okx_fillers (P := l.prog) (w := w) (base := base) D_fillers g c_check_plan x_check_triple
  have x_number_of := okx_number_of (P := l.prog) (w := w) (base := base) D_number_of g c_check_plan x_check_triple
  have x_told_of_steps := okx_told_of_steps (P := l.prog) (w := w) (base := base) D_told_of_steps g c_check_plan x_check_steps
  have x_Machine := okx_M___init__ (P := l.prog) (w := w) (base := base) D_M_init g c_check_plan x_check_stack
  have c_law_refuses := ok_law_refuses (P := l.prog) (w := w) (base := base) (D0 := CS) (CS := CS) D_law_refuses TB2 hPT g c_law_take c_law_triple c_law_all x_told x_run x_alike x_parting x_cost x_written x_M_do x_Machine x_done x_befores x_joined x_powered x_judged x_cheapest x_fewest x_fillers x_number_of x_told_of_steps
  exact ok_law lL cL TB hPT g c_law_begun c_law_plan c_law_some c_law_take c_law_spoilt c_law_first c_M_init c_law_all c_law_told c_M_deeds c_law_refuses x_told x_run x_alike x_parting x_cost x_written x_M_do x_Machine x_done x_befores x_joined x_powered x_judged x_cheapest x_fewest x_fillers x_number_of x_told_of_steps
theorem mt_mk {K : PySem.W.Frag} {C : Addr} (pg : PySem.W.plainGet K C Str.empty = true) (hd : PySem.W.hasDictIn K C = true) (po : PySem.W.plainOver K C = true) (sa : PySem.W.findIn K (.ref C) "__setattr__" = some (some (.builtin "object.__setattr__"))) (n_plan : PySem.W.findIn K (.ref C) "_plan" = some none) (n_stack : PySem.W.findIn K (.ref C) "_stack" = some none) (n_spent : PySem.W.findIn K (.ref C) "_spent" = some none) (n_triple : PySem.W.findIn K (.ref C) "_triple" = some none) (n_past : PySem.W.findIn K (.ref C) "_past" = some none) : MT K C := ⟨⟨pg, hd, po, sa⟩, n_plan, n_stack, n_spent, n_triple, n_past⟩
theorem law_at {l : PySem.W.OpenLaw} {w : World} {K : PySem.W.Frag} {h : Heap} {mg : Str → Option Value} {fa cL PT cL2 PT2 : Addr} {k : Nat} (hE : h.get? PT = some { cls := .none, data := .fields #[] }) (hE2 : h.get? PT2 = some { cls := .none, data := .fields #[] }) (hN : K.lookup PT = none) (hC : PySem.W.codeHdIn K cL PT = true) (hN2 : K.lookup PT2 = none) (hC2 : PySem.W.codeHdIn K cL2 PT2 = true) (KX : K.In h)
    (A : ∃ fd : FuncData, (∀ (s : Shared) (v : Value), BindsTo s fd ⟨[v], []⟩ [("_law_script", v)]) ∧ ∀ base : Heap, K.In base → base.Ns mainGlobals mg → LamX.TabB base mg cL PT → LamX.TabB base mg cL2 PT2 → FnOk l.prog w K mg base CX0 k fa fd ["_law_script"] (spLawT K [(PT, lamQk12), (PT2, lamQk12_law_refuses)])) : LamX.LawAtS l w K CX0 k 63 "_law_script" mg fa h := by
  obtain ⟨fd, hb, hF⟩ := A
  have two : ∀ {α : Type} {x y z : α}, z ∈ [x, y] → z = x ∨ z = y := fun h => (List.mem_cons.mp h).imp id fun h => List.mem_singleton.mp h
  refine ⟨fd, [(cL, PT), (cL2, PT2)], spLawT K [(PT, lamQk12), (PT2, lamQk12_law_refuses)], fun p hp => ?_, fun p hp => ?_, fun p hp => ?_, hb, fun H a ns hl _ hH hS => ⟨a, ns, rfl, hS, hl, fun p hp => ?_, fun _ => rfl⟩, fun base b1 b2 b3 => hF base b1 b2 (b3 _ (List.mem_cons_self ..)) (b3 _ (List.mem_cons_of_mem _ (List.mem_cons_self ..)))⟩
  · rcases two hp with e | e <;> rw [e]
    · exact hE
    · exact hE2
  · rcases two hp with e | e <;> rw [e]
    · exact hN
    · exact hN2
  · rcases two hp with e | e <;> rw [e]
    · exact PySem.W.codeHd_of_K KX hC
    · exact PySem.W.codeHd_of_K KX hC2
  · rcases two hp with e | e <;> rw [e]
    · exact LamX.TabS.nil (hH _ (List.mem_cons_self ..))
    · exact LamX.TabS.nil (hH _ (List.mem_cons_of_mem _ (List.mem_cons_self ..)))
theorem nine_mk {K : PySem.W.Frag} {mg : Str → Option Value} {h : Heap} {CS c0 c1 c2 c3 c4 c5 c6 c7 c8 : Addr} (X : K.In h) (G : h.Ns mainGlobals mg) (y0 : PySem.W.nsIn K mainGlobals "BadCount" = some (some (.ref c0))) (y1 : PySem.W.nsIn K mainGlobals "BadPair" = some (some (.ref c1))) (y2 : PySem.W.nsIn K mainGlobals "BadPlan" = some (some (.ref c2))) (y3 : PySem.W.nsIn K mainGlobals "BadSign" = some (some (.ref c3))) (y4 : PySem.W.nsIn K mainGlobals "BadStack" = some (some (.ref c4))) (y5 : PySem.W.nsIn K mainGlobals "BadSteps" = some (some (.ref c5))) (y6 : PySem.W.nsIn K mainGlobals "BadText" = some (some (.ref c6))) (y7 : PySem.W.nsIn K mainGlobals "BadTriple" = some (some (.ref c7))) (y8 : PySem.W.nsIn K mainGlobals "BadWork" = some (some (.ref c8))) (y9 : PySem.W.nsIn K mainGlobals "SinkError" = some (some (.ref CS))) : NineG mg ⟨c0, c1, c2, c3, c4, c5, c6, c7, c8⟩ CS :=
  ⟨⟨_, PySem.W.mg_of X G y0, rfl⟩, ⟨_, PySem.W.mg_of X G y1, rfl⟩, ⟨_, PySem.W.mg_of X G y2, rfl⟩, ⟨_, PySem.W.mg_of X G y3, rfl⟩, ⟨_, PySem.W.mg_of X G y4, rfl⟩, ⟨_, PySem.W.mg_of X G y5, rfl⟩, ⟨_, PySem.W.mg_of X G y6, rfl⟩, ⟨_, PySem.W.mg_of X G y7, rfl⟩, ⟨_, PySem.W.mg_of X G y8, rfl⟩, PySem.W.mg_of X G y9⟩
theorem tone_mk0 {K : PySem.W.Frag} {CS c0 c1 c2 c3 c4 c5 c6 c7 c8 : Addr} (hg : PySem.W.findIn K (.ref c0) "__getattribute__" = some (some (.builtin "BaseException.__getattribute__"))) (hk : PySem.W.findIn K (.ref c0) "__getattr__" = some none) (hs : PySem.W.subIn K (.ref c0) (.type "BaseException") = some true) (hd : PySem.W.hasDictIn K c0 = true) (ha : PySem.W.findIn K (.ref c0) "__class__" = some (some (.builtin "object.__class__")))
    (hn : PySem.W.specialIn K (.builtin "object.__class__") "__get__" = some (some (.builtin "getset_descriptor.__get__"))) (ht : PySem.W.takesIn K (.builtin "object.__class__") = some true) (hm : PySem.W.mroIn K c0 (.type "object") = some true)
    (s1 : PySem.W.subIn K (.ref CS) (.type "BaseException") = some true) (s2 : PySem.W.hasDictIn K CS = true) (s3 : PySem.W.typeIn K (.ref CS) = some (.type "type")) (s4 : PySem.W.subIn K (.ref c0) (.ref CS) = some true) (q0 : PySem.W.kitOne K (.ref c0) (.ref c0) = some true) (q1 : PySem.W.kitOne K (.ref c0) (.ref c1) = some false) (q2 : PySem.W.kitOne K (.ref c0) (.ref c2) = some false) (q3 : PySem.W.kitOne K (.ref c0) (.ref c3) = some false) (q4 : PySem.W.kitOne K (.ref c0) (.ref c4) = some false) (q5 : PySem.W.kitOne K (.ref c0) (.ref c5) = some false) (q6 : PySem.W.kitOne K (.ref c0) (.ref c6) = some false) (q7 : PySem.W.kitOne K (.ref c0) (.ref c7) = some false) (q8 : PySem.W.kitOne K (.ref c0) (.ref c8) = some false) (qv : PySem.W.kitOne K (.ref c0) (.type "ValueError") = some true) : TOne K ⟨c0, c1, c2, c3, c4, c5, c6, c7, c8⟩ CS c0 0 :=
  ⟨⟨hg, hk, hs, hd, ha, hn, ht, hm⟩, PySem.W.exm_ref s1 s2 s3 s4, q0, q1, q2, q3, q4, q5, q6, q7, q8, qv⟩
theorem err_mk0 {K : PySem.W.Frag} {mg : Str → Option Value} {h : Heap} {D : Addr} (X : K.In h) (G : h.Ns mainGlobals mg) (v : PySem.W.nsIn K mainGlobals "BadCount" = some (some (.ref D))) (xF : PySem.W.excIn K D [.type "ValueError", .type "Exception", .type "BaseException", .type "object"] "ValueError.__new__" = true) (kp : PySem.W.keepIn K (.ref D) = true) (sb : PySem.W.subIn K (.ref D) (.type "BaseException") = some true) (ty : PySem.W.typeIn K (.ref D) = some (.type "type")) : ErrC K mg "BadCount" D :=
  ⟨PySem.W.mg_of X G v, ⟨_, _, _, _, PySem.F.excBase_ValueError, xF⟩, kp, sb, ty⟩
theorem tone_mk4 {K : PySem.W.Frag} {CS c0 c1 c2 c3 c4 c5 c6 c7 c8 : Addr} (hg : PySem.W.findIn K (.ref c4) "__getattribute__" = some (some (.builtin "BaseException.__getattribute__"))) (hk : PySem.W.findIn K (.ref c4) "__getattr__" = some none) (hs : PySem.W.subIn K (.ref c4) (.type "BaseException") = some true) (hd : PySem.W.hasDictIn K c4 = true) (ha : PySem.W.findIn K (.ref c4) "__class__" = some (some (.builtin "object.__class__")))
    (hn : PySem.W.specialIn K (.builtin "object.__class__") "__get__" = some (some (.builtin "getset_descriptor.__get__"))) (ht : PySem.W.takesIn K (.builtin "object.__class__") = some true) (hm : PySem.W.mroIn K c4 (.type "object") = some true)
    (s1 : PySem.W.subIn K (.ref CS) (.type "BaseException") = some true) (s2 : PySem.W.hasDictIn K CS = true) (s3 : PySem.W.typeIn K (.ref CS) = some (.type "type")) (s4 : PySem.W.subIn K (.ref c4) (.ref CS) = some true) (q0 : PySem.W.kitOne K (.ref c4) (.ref c0) = some false) (q1 : PySem.W.kitOne K (.ref c4) (.ref c1) = some false) (q2 : PySem.W.kitOne K (.ref c4) (.ref c2) = some false) (q3 : PySem.W.kitOne K (.ref c4) (.ref c3) = some false) (q4 : PySem.W.kitOne K (.ref c4) (.ref c4) = some true) (q5 : PySem.W.kitOne K (.ref c4) (.ref c5) = some false) (q6 : PySem.W.kitOne K (.ref c4) (.ref c6) = some false) (q7 : PySem.W.kitOne K (.ref c4) (.ref c7) = some false) (q8 : PySem.W.kitOne K (.ref c4) (.ref c8) = some false) (qv : PySem.W.kitOne K (.ref c4) (.type "ValueError") = some true) : TOne K ⟨c0, c1, c2, c3, c4, c5, c6, c7, c8⟩ CS c4 4 :=
  ⟨⟨hg, hk, hs, hd, ha, hn, ht, hm⟩, PySem.W.exm_ref s1 s2 s3 s4, q0, q1, q2, q3, q4, q5, q6, q7, q8, qv⟩
theorem err_mk4 {K : PySem.W.Frag} {mg : Str → Option Value} {h : Heap} {D : Addr} (X : K.In h) (G : h.Ns mainGlobals mg) (v : PySem.W.nsIn K mainGlobals "BadStack" = some (some (.ref D))) (xF : PySem.W.excIn K D [.type "ValueError", .type "Exception", .type "BaseException", .type "object"] "ValueError.__new__" = true) (kp : PySem.W.keepIn K (.ref D) = true) (sb : PySem.W.subIn K (.ref D) (.type "BaseException") = some true) (ty : PySem.W.typeIn K (.ref D) = some (.type "type")) : ErrC K mg "BadStack" D :=
  ⟨PySem.W.mg_of X G v, ⟨_, _, _, _, PySem.F.excBase_ValueError, xF⟩, kp, sb, ty⟩
theorem tone_mk5 {K : PySem.W.Frag} {CS c0 c1 c2 c3 c4 c5 c6 c7 c8 : Addr} (hg : PySem.W.findIn K (.ref c5) "__getattribute__" = some (some (.builtin "BaseException.__getattribute__"))) (hk : PySem.W.findIn K (.ref c5) "__getattr__" = some none) (hs : PySem.W.subIn K (.ref c5) (.type "BaseException") = some true) (hd : PySem.W.hasDictIn K c5 = true) (ha : PySem.W.findIn K (.ref c5) "__class__" = some (some (.builtin "object.__class__")))
    (hn : PySem.W.specialIn K (.builtin "object.__class__") "__get__" = some (some (.builtin "getset_descriptor.__get__"))) (ht : PySem.W.takesIn K (.builtin "object.__class__") = some true) (hm : PySem.W.mroIn K c5 (.type "object") = some true)
    (s1 : PySem.W.subIn K (.ref CS) (.type "BaseException") = some true) (s2 : PySem.W.hasDictIn K CS = true) (s3 : PySem.W.typeIn K (.ref CS) = some (.type "type")) (s4 : PySem.W.subIn K (.ref c5) (.ref CS) = some true) (q0 : PySem.W.kitOne K (.ref c5) (.ref c0) = some false) (q1 : PySem.W.kitOne K (.ref c5) (.ref c1) = some false) (q2 : PySem.W.kitOne K (.ref c5) (.ref c2) = some false) (q3 : PySem.W.kitOne K (.ref c5) (.ref c3) = some false) (q4 : PySem.W.kitOne K (.ref c5) (.ref c4) = some false) (q5 : PySem.W.kitOne K (.ref c5) (.ref c5) = some true) (q6 : PySem.W.kitOne K (.ref c5) (.ref c6) = some false) (q7 : PySem.W.kitOne K (.ref c5) (.ref c7) = some false) (q8 : PySem.W.kitOne K (.ref c5) (.ref c8) = some false) (qv : PySem.W.kitOne K (.ref c5) (.type "ValueError") = some true) : TOne K ⟨c0, c1, c2, c3, c4, c5, c6, c7, c8⟩ CS c5 5 :=
  ⟨⟨hg, hk, hs, hd, ha, hn, ht, hm⟩, PySem.W.exm_ref s1 s2 s3 s4, q0, q1, q2, q3, q4, q5, q6, q7, q8, qv⟩
theorem err_mk5 {K : PySem.W.Frag} {mg : Str → Option Value} {h : Heap} {D : Addr} (X : K.In h) (G : h.Ns mainGlobals mg) (v : PySem.W.nsIn K mainGlobals "BadSteps" = some (some (.ref D))) (xF : PySem.W.excIn K D [.type "ValueError", .type "Exception", .type "BaseException", .type "object"] "ValueError.__new__" = true) (kp : PySem.W.keepIn K (.ref D) = true) (sb : PySem.W.subIn K (.ref D) (.type "BaseException") = some true) (ty : PySem.W.typeIn K (.ref D) = some (.type "type")) : ErrC K mg "BadSteps" D :=
  ⟨PySem.W.mg_of X G v, ⟨_, _, _, _, PySem.F.excBase_ValueError, xF⟩, kp, sb, ty⟩
theorem tone_mk7 {K : PySem.W.Frag} {CS c0 c1 c2 c3 c4 c5 c6 c7 c8 : Addr} (hg : PySem.W.findIn K (.ref c7) "__getattribute__" = some (some (.builtin "BaseException.__getattribute__"))) (hk : PySem.W.findIn K (.ref c7) "__getattr__" = some none) (hs : PySem.W.subIn K (.ref c7) (.type "BaseException") = some true) (hd : PySem.W.hasDictIn K c7 = true) (ha : PySem.W.findIn K (.ref c7) "__class__" = some (some (.builtin "object.__class__")))
    (hn : PySem.W.specialIn K (.builtin "object.__class__") "__get__" = some (some (.builtin "getset_descriptor.__get__"))) (ht : PySem.W.takesIn K (.builtin "object.__class__") = some true) (hm : PySem.W.mroIn K c7 (.type "object") = some true)
    (s1 : PySem.W.subIn K (.ref CS) (.type "BaseException") = some true) (s2 : PySem.W.hasDictIn K CS = true) (s3 : PySem.W.typeIn K (.ref CS) = some (.type "type")) (s4 : PySem.W.subIn K (.ref c7) (.ref CS) = some true) (q0 : PySem.W.kitOne K (.ref c7) (.ref c0) = some false) (q1 : PySem.W.kitOne K (.ref c7) (.ref c1) = some false) (q2 : PySem.W.kitOne K (.ref c7) (.ref c2) = some false) (q3 : PySem.W.kitOne K (.ref c7) (.ref c3) = some false) (q4 : PySem.W.kitOne K (.ref c7) (.ref c4) = some false) (q5 : PySem.W.kitOne K (.ref c7) (.ref c5) = some false) (q6 : PySem.W.kitOne K (.ref c7) (.ref c6) = some false) (q7 : PySem.W.kitOne K (.ref c7) (.ref c7) = some true) (q8 : PySem.W.kitOne K (.ref c7) (.ref c8) = some false) (qv : PySem.W.kitOne K (.ref c7) (.type "ValueError") = some true) : TOne K ⟨c0, c1, c2, c3, c4, c5, c6, c7, c8⟩ CS c7 7 :=
  ⟨⟨hg, hk, hs, hd, ha, hn, ht, hm⟩, PySem.W.exm_ref s1 s2 s3 s4, q0, q1, q2, q3, q4, q5, q6, q7, q8, qv⟩
theorem err_mk7 {K : PySem.W.Frag} {mg : Str → Option Value} {h : Heap} {D : Addr} (X : K.In h) (G : h.Ns mainGlobals mg) (v : PySem.W.nsIn K mainGlobals "BadTriple" = some (some (.ref D))) (xF : PySem.W.excIn K D [.type "ValueError", .type "Exception", .type "BaseException", .type "object"] "ValueError.__new__" = true) (kp : PySem.W.keepIn K (.ref D) = true) (sb : PySem.W.subIn K (.ref D) (.type "BaseException") = some true) (ty : PySem.W.typeIn K (.ref D) = some (.type "type")) : ErrC K mg "BadTriple" D :=
  ⟨PySem.W.mg_of X G v, ⟨_, _, _, _, PySem.F.excBase_ValueError, xF⟩, kp, sb, ty⟩
theorem tone_mk8 {K : PySem.W.Frag} {CS c0 c1 c2 c3 c4 c5 c6 c7 c8 : Addr} (hg : PySem.W.findIn K (.ref c8) "__getattribute__" = some (some (.builtin "BaseException.__getattribute__"))) (hk : PySem.W.findIn K (.ref c8) "__getattr__" = some none) (hs : PySem.W.subIn K (.ref c8) (.type "BaseException") = some true) (hd : PySem.W.hasDictIn K c8 = true) (ha : PySem.W.findIn K (.ref c8) "__class__" = some (some (.builtin "object.__class__")))
    (hn : PySem.W.specialIn K (.builtin "object.__class__") "__get__" = some (some (.builtin "getset_descriptor.__get__"))) (ht : PySem.W.takesIn K (.builtin "object.__class__") = some true) (hm : PySem.W.mroIn K c8 (.type "object") = some true)
    (s1 : PySem.W.subIn K (.ref CS) (.type "BaseException") = some true) (s2 : PySem.W.hasDictIn K CS = true) (s3 : PySem.W.typeIn K (.ref CS) = some (.type "type")) (s4 : PySem.W.subIn K (.ref c8) (.ref CS) = some true) (q0 : PySem.W.kitOne K (.ref c8) (.ref c0) = some false) (q1 : PySem.W.kitOne K (.ref c8) (.ref c1) = some false) (q2 : PySem.W.kitOne K (.ref c8) (.ref c2) = some false) (q3 : PySem.W.kitOne K (.ref c8) (.ref c3) = some false) (q4 : PySem.W.kitOne K (.ref c8) (.ref c4) = some false) (q5 : PySem.W.kitOne K (.ref c8) (.ref c5) = some false) (q6 : PySem.W.kitOne K (.ref c8) (.ref c6) = some false) (q7 : PySem.W.kitOne K (.ref c8) (.ref c7) = some false) (q8 : PySem.W.kitOne K (.ref c8) (.ref c8) = some true) (qv : PySem.W.kitOne K (.ref c8) (.type "ValueError") = some true) : TOne K ⟨c0, c1, c2, c3, c4, c5, c6, c7, c8⟩ CS c8 8 :=
  ⟨⟨hg, hk, hs, hd, ha, hn, ht, hm⟩, PySem.W.exm_ref s1 s2 s3 s4, q0, q1, q2, q3, q4, q5, q6, q7, q8, qv⟩
theorem t9_mk {K : PySem.W.Frag} {n : Nine} {CS : Addr} {i : Nat} (o : TOne K n CS (nAt n i) i) (a : PySem.W.findIn K (.ref (nAt n i)) "part" = some none) (b : PySem.W.findIn K (.ref (nAt n i)) "number" = some none) (c : PySem.W.findIn K (.ref (nAt n i)) "place" = some none) : TOne9 K n CS i := ⟨o, a, b, c⟩
end SK
open PySem PySem.W PyProof.Rows
set_option maxRecDepth 100000 in
set_option maxHeartbeats 0 in
theorem PySem.Challenge.cw_sinkstack_k12_calls_refused_holds : PySem.Challenge.rw_sinkstack_k12_calls_refused.Holds := by
  w_on; o_law; k_head; (case hw => w_witness2)
  k_fill
  refine LamX.walk_ofTs (n := 63) (k := 23) (x := "_law_script") (CX := fun _ => L2.CX0) rfl (by decide) rfl ⟨rfl, by decide, by decide⟩ (fun w h Y => PySem.W.km_in_of Y) ?F (fun _ _ _ _ _ z => z)
  case F =>
    intro w mg fa h Y KX G hmg
    have hT8 := PySem.W.km_tabs_of Y
    refine' SK.law_at (hT8 _ (List.mem_cons_of_mem _ (List.mem_cons_of_mem _ (List.mem_cons_self ..)))) (hT8 _ (List.mem_cons_of_mem _ (List.mem_cons_self ..))) ?hN ?hC ?hN2 ?hC2 KX ?A
    case A =>
     refine' SK.all_mk KX G hmg ?aL ?lL ?cL ?kL (SK.gx_mk KX G ?v0 ?r0 ?v1 ?r1 ?v2 ?r2 ?v3 ?r3 ?v4 ?r4 ?v5 ?r5 ?v6 ?r6 ?v7 ?r7 ?v8 ?r8 ?z0 ?z1 ?z2 ?z3 ?z4 ?z5 ?z6 ?z7 ?z8 ?z9 ?z10 ?z11 ?z12 ?z13 ?z14) (SK.mt_mk ?pg ?hd ?po ?sa ?n_plan ?n_stack ?n_spent ?n_triple ?n_past) (by decide) (SK.nine_mk KX G ?y0 ?y1 ?y2 ?y3 ?y4 ?y5 ?y6 ?y7 ?y8 ?y9)
      (SK.t9_mk (i := 0) (SK.tone_mk0 ?o0hg ?o0hk ?o0hs ?o0hd ?o0ha ?o0hn ?o0ht ?o0hm ?o0s1 ?o0s2 ?o0s3 ?o0s4 ?o0q0 ?o0q1 ?o0q2 ?o0q3 ?o0q4 ?o0q5 ?o0q6 ?o0q7 ?o0q8 ?o0qv) ?pa0 ?pb0 ?pc0) (SK.err_mk0 KX G ?e0v ?e0x ?e0k ?e0s ?e0t)
      (SK.t9_mk (i := 4) (SK.tone_mk4 ?o4hg ?o4hk ?o4hs ?o4hd ?o4ha ?o4hn ?o4ht ?o4hm ?o4s1 ?o4s2 ?o4s3 ?o4s4 ?o4q0 ?o4q1 ?o4q2 ?o4q3 ?o4q4 ?o4q5 ?o4q6 ?o4q7 ?o4q8 ?o4qv) ?pa4 ?pb4 ?pc4) (SK.err_mk4 KX G ?e4v ?e4x ?e4k ?e4s ?e4t)
      (SK.t9_mk (i := 5) (SK.tone_mk5 ?o5hg ?o5hk ?o5hs ?o5hd ?o5ha ?o5hn ?o5ht ?o5hm ?o5s1 ?o5s2 ?o5s3 ?o5s4 ?o5q0 ?o5q1 ?o5q2 ?o5q3 ?o5q4 ?o5q5 ?o5q6 ?o5q7 ?o5q8 ?o5qv) ?pa5 ?pb5 ?pc5) (SK.err_mk5 KX G ?e5v ?e5x ?e5k ?e5s ?e5t)
      (SK.t9_mk (i := 7) (SK.tone_mk7 ?o7hg ?o7hk ?o7hs ?o7hd ?o7ha ?o7hn ?o7ht ?o7hm ?o7s1 ?o7s2 ?o7s3 ?o7s4 ?o7q0 ?o7q1 ?o7q2 ?o7q3 ?o7q4 ?o7q5 ?o7q6 ?o7q7 ?o7q8 ?o7qv) ?pa7 ?pb7 ?pc7) (SK.err_mk7 KX G ?e7v ?e7x ?e7k ?e7s ?e7t)
      (SK.t9_mk (i := 8) (SK.tone_mk8 ?o8hg ?o8hk ?o8hs ?o8hd ?o8ha ?o8hn ?o8ht ?o8hm ?o8s1 ?o8s2 ?o8s3 ?o8s4 ?o8q0 ?o8q1 ?o8q2 ?o8q3 ?o8q4 ?o8q5 ?o8q6 ?o8q7 ?o8q8 ?o8qv) ?pa8 ?pb8 ?pc8) (SK.in_mk KX G ?i8v ?i8lC ?i8hbm ?i8sa ?i8exC ?i8tyC ?i8kC ?i8iC ?i8tI ?i8lk ?i8hcd ?i8lc ?i8hvs ?i8hfile ?i8lcell ?i8ap ?i8bind ?i8mro ?i8sup ?i8ve ?i8opq ?i8ns ?i8top ?i8no ?i8sh ?i8pos)
      (SK.dn_mk KX G ?a0 ?l0 ?c0 ?k0 (fun _ _ _ _ _ _ us hl => match us, hl with | [_], _ => rfl))
      (SK.dn_mk KX G ?a1 ?l1 ?c1 ?k1 (fun _ _ _ _ _ _ us hl => match us, hl with | [_, _, _], _ => rfl))
      (SK.dn_mk KX G ?a2 ?l2 ?c2 ?k2 (fun _ _ _ _ _ _ us hl => match us, hl with | [_, _], _ => rfl))
      (SK.dn_mk KX G ?a3 ?l3 ?c3 ?k3 (fun _ _ _ _ _ _ us hl => match us, hl with | [_, _], _ => rfl))
      (SK.dn_mk KX G ?a4 ?l4 ?c4 ?k4 (fun _ _ _ _ _ _ us hl => match us, hl with | [_], _ => rfl))
      (SK.dn_mk KX G ?a5 ?l5 ?c5 ?k5 (fun _ _ _ _ _ _ us hl => match us, hl with | [_, _], _ => rfl))
      (SK.dn_mk KX G ?a6 ?l6 ?c6 ?k6 (fun _ _ _ _ _ _ us hl => match us, hl with | [_, _], _ => rfl))
      (SK.dn_mk KX G ?a7 ?l7 ?c7 ?k7 (fun _ _ _ _ _ _ us hl => match us, hl with | [_, _], _ => rfl))
      (SK.dn_mk KX G ?a8 ?l8 ?c8 ?k8 (fun _ _ _ _ _ _ us hl => match us, hl with | [_, _], _ => rfl))
      (SK.dn_mk KX G ?a9 ?l9 ?c9 ?k9 (fun _ _ _ _ _ _ us hl => match us, hl with | [_, _], _ => rfl))
      (SK.dn_mk KX G ?a10 ?l10 ?c10 ?k10 (fun _ _ _ _ _ _ us hl => match us, hl with | [_, _], _ => rfl))
      (SK.dn_mk KX G ?a11 ?l11 ?c11 ?k11 (fun _ _ _ _ _ _ us hl => match us, hl with | [_, _], _ => rfl))
      (SK.dn_mk KX G ?a12 ?l12 ?c12 ?k12 (fun _ _ _ _ _ _ us hl => match us, hl with | [_, _], _ => rfl))
      (SK.dn_mk KX G ?a13 ?l13 ?c13 ?k13 (fun _ _ _ _ _ _ us hl => match us, hl with | [_, _, _], _ => rfl))
      (SK.dn_mk KX G ?a14 ?l14 ?c14 ?k14 (fun _ _ _ _ _ _ us hl => match us, hl with | [_], _ => rfl))
      (SK.dn_mk KX G ?a15 ?l15 ?c15 ?k15 (fun _ _ _ _ _ _ us hl => match us, hl with | [_, _], _ => rfl))
      (SK.dn_mk KX G ?a16 ?l16 ?c16 ?k16 (fun _ _ _ _ _ _ us hl => match us, hl with | [_, _], _ => rfl))
      (SK.dn_mk KX G ?a17 ?l17 ?c17 ?k17 (fun _ _ _ _ _ _ us hl => match us, hl with | [_, _], _ => rfl))
      (SK.dn_mk KX G ?a18 ?l18 ?c18 ?k18 (fun _ _ _ _ _ _ us hl => match us, hl with | [_, _], _ => rfl))
      (SK.dn_mk KX G ?a19 ?l19 ?c19 ?k19 (fun _ _ _ _ _ _ us hl => match us, hl with | [_, _, _], _ => rfl))
      (SK.dn_mk KX G ?a20 ?l20 ?c20 ?k20 (fun _ _ _ _ _ _ us hl => match us, hl with | [_, _], _ => rfl))
      (SK.dn_mk KX G ?a21 ?l21 ?c21 ?k21 (fun _ _ _ _ _ _ us hl => match us, hl with | [_], _ => rfl))
      (SK.dn_mk KX G ?a22 ?l22 ?c22 ?k22 (fun _ _ _ _ _ _ us hl => match us, hl with | [_, _, _], _ => rfl))
      (SK.dn_mk KX G ?a23 ?l23 ?c23 ?k23 (fun _ _ _ _ _ _ us hl => match us, hl with | [_, _], _ => rfl))
      (SK.dn_mk KX G ?a24 ?l24 ?c24 ?k24 (fun _ _ _ _ _ _ us hl => match us, hl with | [_, _], _ => rfl))
      (SK.dn_mk KX G ?a25 ?l25 ?c25 ?k25 (fun _ _ _ _ _ _ us hl => match us, hl with | [_], _ => rfl))
      (SK.dn_mk KX G ?a26 ?l26 ?c26 ?k26 (fun _ _ _ _ _ _ us hl => match us, hl with | [_, _, _], _ => rfl))
      (SK.dn_mk KX G ?a27 ?l27 ?c27 ?k27 (fun _ _ _ _ _ _ us hl => match us, hl with | [_, _], _ => rfl))
      (SK.dn_mk KX G ?a28 ?l28 ?c28 ?k28 (fun _ _ _ _ _ _ us hl => match us, hl with | [_, _], _ => rfl))
      (SK.dn_mk KX G ?a29 ?l29 ?c29 ?k29 (fun _ _ _ _ _ _ us hl => match us, hl with | [_, _], _ => rfl))
      (SK.dn_mk KX G ?a30 ?l30 ?c30 ?k30 (fun _ _ _ _ _ _ us hl => match us, hl with | [_, _], _ => rfl))
      (SK.dn_mk KX G ?a31 ?l31 ?c31 ?k31 (fun _ _ _ _ _ _ us hl => match us, hl with | [_, _], _ => rfl))
      (SK.dn_mk KX G ?a32 ?l32 ?c32 ?k32 (fun _ _ _ _ _ _ us hl => match us, hl with | [_, _, _], _ => rfl))
      (SK.dn_mk KX G ?a33 ?l33 ?c33 ?k33 (fun _ _ _ _ _ _ us hl => match us, hl with | [_, _], _ => rfl))
      (SK.dn_mk KX G ?a34 ?l34 ?c34 ?k34 (fun _ _ _ _ _ _ us hl => match us, hl with | [_, _, _], _ => rfl))
      (SK.dn_mk KX G ?a35 ?l35 ?c35 ?k35 (fun _ _ _ _ _ _ us hl => match us, hl with | [_, _, _, _], _ => rfl))
      (SK.dn_mk KX G ?a36 ?l36 ?c36 ?k36 (fun _ _ _ _ _ _ us hl => match us, hl with | [_], _ => rfl))
      (SK.dn_mk KX G ?a37 ?l37 ?c37 ?k37 (fun _ _ _ _ _ _ us hl => match us, hl with | [_, _, _, _, _], _ => rfl))
      (SK.dn_mk KX G ?a38 ?l38 ?c38 ?k38 (fun _ _ _ _ _ _ us hl => match us, hl with | [_, _, _], _ => rfl))
      (SK.dn_mk KX G ?a39 ?l39 ?c39 ?k39 (fun _ _ _ _ _ _ us hl => match us, hl with | [_, _, _], _ => rfl))
      (SK.dn_mk KX G ?a40 ?l40 ?c40 ?k40 (fun _ _ _ _ _ _ us hl => match us, hl with | [_, _], _ => rfl))
      (SK.dm_mk ?a41 ?i41 ?l41 ?c41 ?k41 (fun _ _ _ _ _ _ us hl => match us, hl with | [_], _ => rfl))
      (SK.di_mk KX G ?aC ?mkC ?kC ?a42 ?i42 ?l42 ?c42 ?k42 (fun _ _ _ _ _ _ us hl => match us, hl with | [_, _, _], _ => rfl))
      (SK.dn_mk KX G ?a43 ?l43 ?c43 ?k43 (fun _ _ _ _ _ _ us hl => match us, hl with | [_, _, _, _], _ => rfl))
      (SK.dn_mk KX G ?a44 ?l44 ?c44 ?k44 (fun _ _ _ _ _ _ us hl => match us, hl with | [_, _, _, _], _ => rfl))
      (SK.dn_mk KX G ?a45 ?l45 ?c45 ?k45 (fun _ _ _ _ _ _ us hl => match us, hl with | [_], _ => rfl))
      (SK.dn_mk KX G ?a46 ?l46 ?c46 ?k46 (fun _ _ _ _ _ _ us hl => match us, hl with | [_, _, _], _ => rfl))
      (SK.dn_mk KX G ?a47 ?l47 ?c47 ?k47 (fun _ _ _ _ _ _ us hl => match us, hl with | [_, _, _], _ => rfl))
      (SK.dn_mk KX G ?a48 ?l48 ?c48 ?k48 (fun _ _ _ _ _ _ us hl => match us, hl with | [_, _], _ => rfl))
      (SK.dn_mk KX G ?a49 ?l49 ?c49 ?k49 (fun _ _ _ _ _ _ us hl => match us, hl with | [_], _ => rfl))
      (SK.dn_mk KX G ?a50 ?l50 ?c50 ?k50 (fun _ _ _ _ _ _ us hl => match us, hl with | [_, _], _ => rfl))
      (SK.dn_mk KX G ?a51 ?l51 ?c51 ?k51 (fun _ _ _ _ _ _ us hl => match us, hl with | [_, _], _ => rfl))
      (SK.dm_mk ?a52 ?i52 ?l52 ?c52 ?k52 (fun _ _ _ _ _ _ us hl => match us, hl with | [_, _], _ => rfl))
      (SK.dn_mk KX G ?a53 ?l53 ?c53 ?k53 (fun _ _ _ _ _ _ us hl => match us, hl with | [_, _, _], _ => rfl))
      (SK.dn_mk KX G ?a54 ?l54 ?c54 ?k54 (fun _ _ _ _ _ _ us hl => match us, hl with | [_, _, _], _ => rfl))
      (SK.dn_mk KX G ?a55 ?l55 ?c55 ?k55 (fun _ _ _ _ _ _ us hl => match us, hl with | [_, _], _ => rfl))
      (SK.dn_mk KX G ?a56 ?l56 ?c56 ?k56 (fun _ _ _ _ _ _ us hl => match us, hl with | [_, _], _ => rfl))
      (SK.dn_mk KX G ?a57 ?l57 ?c57 ?k57 (fun _ _ _ _ _ _ us hl => match us, hl with | [_, _], _ => rfl))
      (SK.dn_mk KX G ?a58 ?l58 ?c58 ?k58 (fun _ _ _ _ _ _ us hl => match us, hl with | [_, _], _ => rfl))
      (SK.dnL_mk KX G ?a59 ?l59 ?c59 ?k59 (fun _ _ _ _ _ _ us hl => match us, hl with | [_, _, _], _ => rfl))
     (case aL => k_is); (case lL => k_is); (case cL => k_is); (case kL => k_is)
     (case aC => k_is); (case mkC => k_is); (case kC => k_is)
     (case pg => k_is); (case hd => k_is); (case po => k_is); (case sa => k_is); (case n_plan => k_is); (case n_stack => k_is); (case n_spent => k_is); (case n_triple => k_is); (case n_past => k_is)
     (case y0 => k_is); (case y1 => k_is); (case y2 => k_is); (case y3 => k_is); (case y4 => k_is); (case y5 => k_is); (case y6 => k_is); (case y7 => k_is); (case y8 => k_is); (case y9 => k_is)
     (case o0hg => k_is); (case o0hk => k_is); (case o0hs => k_is); (case o0hd => k_is); (case o0ha => k_is); (case o0hn => k_is); (case o0ht => k_is); (case o0hm => k_is); (case o0s1 => k_is); (case o0s2 => k_is); (case o0s3 => k_is); (case o0s4 => k_is)
     (case o0q0 => kit_is); (case o0q1 => kit_is); (case o0q2 => kit_is); (case o0q3 => kit_is); (case o0q4 => kit_is); (case o0q5 => kit_is); (case o0q6 => kit_is); (case o0q7 => kit_is); (case o0q8 => kit_is); (case o0qv => kit_is)
     (case pa0 => k_is); (case pb0 => k_is); (case pc0 => k_is)
     (case e0v => k_is); (case e0x => k_exc); (case e0k => k_is); (case e0s => k_is); (case e0t => k_is)
     (case o4hg => k_is); (case o4hk => k_is); (case o4hs => k_is); (case o4hd => k_is); (case o4ha => k_is); (case o4hn => k_is); (case o4ht => k_is); (case o4hm => k_is); (case o4s1 => k_is); (case o4s2 => k_is); (case o4s3 => k_is); (case o4s4 => k_is)
     (case o4q0 => kit_is); (case o4q1 => kit_is); (case o4q2 => kit_is); (case o4q3 => kit_is); (case o4q4 => kit_is); (case o4q5 => kit_is); (case o4q6 => kit_is); (case o4q7 => kit_is); (case o4q8 => kit_is); (case o4qv => kit_is)
     (case pa4 => k_is); (case pb4 => k_is); (case pc4 => k_is)
     (case e4v => k_is); (case e4x => k_exc); (case e4k => k_is); (case e4s => k_is); (case e4t => k_is)
     (case o5hg => k_is); (case o5hk => k_is); (case o5hs => k_is); (case o5hd => k_is); (case o5ha => k_is); (case o5hn => k_is); (case o5ht => k_is); (case o5hm => k_is); (case o5s1 => k_is); (case o5s2 => k_is); (case o5s3 => k_is); (case o5s4 => k_is)
     (case o5q0 => kit_is); (case o5q1 => kit_is); (case o5q2 => kit_is); (case o5q3 => kit_is); (case o5q4 => kit_is); (case o5q5 => kit_is); (case o5q6 => kit_is); (case o5q7 => kit_is); (case o5q8 => kit_is); (case o5qv => kit_is)
     (case pa5 => k_is); (case pb5 => k_is); (case pc5 => k_is)
     (case e5v => k_is); (case e5x => k_exc); (case e5k => k_is); (case e5s => k_is); (case e5t => k_is)
     (case o7hg => k_is); (case o7hk => k_is); (case o7hs => k_is); (case o7hd => k_is); (case o7ha => k_is); (case o7hn => k_is); (case o7ht => k_is); (case o7hm => k_is); (case o7s1 => k_is); (case o7s2 => k_is); (case o7s3 => k_is); (case o7s4 => k_is)
     (case o7q0 => kit_is); (case o7q1 => kit_is); (case o7q2 => kit_is); (case o7q3 => kit_is); (case o7q4 => kit_is); (case o7q5 => kit_is); (case o7q6 => kit_is); (case o7q7 => kit_is); (case o7q8 => kit_is); (case o7qv => kit_is)
     (case pa7 => k_is); (case pb7 => k_is); (case pc7 => k_is)
     (case e7v => k_is); (case e7x => k_exc); (case e7k => k_is); (case e7s => k_is); (case e7t => k_is)
     (case o8hg => k_is); (case o8hk => k_is); (case o8hs => k_is); (case o8hd => k_is); (case o8ha => k_is); (case o8hn => k_is); (case o8ht => k_is); (case o8hm => k_is); (case o8s1 => k_is); (case o8s2 => k_is); (case o8s3 => k_is); (case o8s4 => k_is)
     (case o8q0 => kit_is); (case o8q1 => kit_is); (case o8q2 => kit_is); (case o8q3 => kit_is); (case o8q4 => kit_is); (case o8q5 => kit_is); (case o8q6 => kit_is); (case o8q7 => kit_is); (case o8q8 => kit_is); (case o8qv => kit_is)
     (case pa8 => k_is); (case pb8 => k_is); (case pc8 => k_is)
     (case i8v => k_is)
     (case i8lC => k_is)
     (case i8hbm => decide +kernel)
     (case i8sa => k_is)
     (case i8exC => k_is)
     (case i8tyC => k_is)
     (case i8kC => k_is)
     (case i8iC => k_is)
     (case i8tI => k_is)
     (case i8lk => k_is)
     (case i8hcd => k_is)
     (case i8lc => k_is)
     (case i8hvs => exact rfl)
     (case i8hfile => first | kernel_rfl | rfl)
     (case i8lcell => k_is)
     (case i8ap => first | kernel_rfl | rfl)
     (case i8bind => exact fun _ _ _ _ _ _ _ _ _ _ => rfl)
     (case i8mro => first | k_is | kernel_rfl)
     (case i8sup => first | k_is | kernel_rfl)
     (case i8ve => k_is)
     (case i8opq => k_is)
     (case i8ns => k_is)
     (case i8top => first | kernel_rfl | rfl)
     (case i8no => k_is)
     (case i8sh => decide +kernel)
     (case i8pos => exact ⟨fun _ => ⟨_, rfl⟩, fun _ => rfl, fun _ => rfl⟩)
     (case v0 => k_is); (case r0 => exact ⟨_, rfl⟩)
     (case v1 => k_is); (case r1 => exact ⟨_, rfl⟩)
     (case v2 => k_is); (case r2 => exact ⟨_, rfl⟩)
     (case v3 => k_is); (case r3 => exact ⟨_, rfl⟩)
     (case v4 => k_is); (case r4 => exact ⟨_, rfl⟩)
     (case v5 => k_is); (case r5 => exact ⟨_, rfl⟩)
     (case v6 => k_is); (case r6 => exact ⟨_, rfl⟩)
     (case v7 => k_is); (case r7 => exact ⟨_, rfl⟩)
     (case v8 => k_is); (case r8 => exact ⟨_, rfl⟩)
     (case z0 => k_is)
     (case z1 => k_is)
     (case z2 => k_is)
     (case z3 => k_is)
     (case z4 => k_is)
     (case z5 => k_is)
     (case z6 => k_is)
     (case z7 => k_is)
     (case z8 => k_is)
     (case z9 => k_is)
     (case z10 => k_is)
     (case z11 => k_is)
     (case z12 => k_is)
     (case z13 => k_is)
     (case z14 => k_is)
     (case a0 => k_is); (case l0 => k_is); (case c0 => k_is); (case k0 => k_is)
     (case a1 => k_is); (case l1 => k_is); (case c1 => k_is); (case k1 => k_is)
     (case a2 => k_is); (case l2 => k_is); (case c2 => k_is); (case k2 => k_is)
     (case a3 => k_is); (case l3 => k_is); (case c3 => k_is); (case k3 => k_is)
     (case a4 => k_is); (case l4 => k_is); (case c4 => k_is); (case k4 => k_is)
     (case a5 => k_is); (case l5 => k_is); (case c5 => k_is); (case k5 => k_is)
     (case a6 => k_is); (case l6 => k_is); (case c6 => k_is); (case k6 => k_is)
     (case a7 => k_is); (case l7 => k_is); (case c7 => k_is); (case k7 => k_is)
     (case a8 => k_is); (case l8 => k_is); (case c8 => k_is); (case k8 => k_is)
     (case a9 => k_is); (case l9 => k_is); (case c9 => k_is); (case k9 => k_is)
     (case a10 => k_is); (case l10 => k_is); (case c10 => k_is); (case k10 => k_is)
     (case a11 => k_is); (case l11 => k_is); (case c11 => k_is); (case k11 => k_is)
     (case a12 => k_is); (case l12 => k_is); (case c12 => k_is); (case k12 => k_is)
     (case a13 => k_is); (case l13 => k_is); (case c13 => k_is); (case k13 => k_is)
     (case a14 => k_is); (case l14 => k_is); (case c14 => k_is); (case k14 => k_is)
     (case a15 => k_is); (case l15 => k_is); (case c15 => k_is); (case k15 => k_is)
     (case a16 => k_is); (case l16 => k_is); (case c16 => k_is); (case k16 => k_is)
     (case a17 => k_is); (case l17 => k_is); (case c17 => k_is); (case k17 => k_is)
     (case a18 => k_is); (case l18 => k_is); (case c18 => k_is); (case k18 => k_is)
     (case a19 => k_is); (case l19 => k_is); (case c19 => k_is); (case k19 => k_is)
     (case a20 => k_is); (case l20 => k_is); (case c20 => k_is); (case k20 => k_is)
     (case a21 => k_is); (case l21 => k_is); (case c21 => k_is); (case k21 => k_is)
     (case a22 => k_is); (case l22 => k_is); (case c22 => k_is); (case k22 => k_is)
     (case a23 => k_is); (case l23 => k_is); (case c23 => k_is); (case k23 => k_is)
     (case a24 => k_is); (case l24 => k_is); (case c24 => k_is); (case k24 => k_is)
     (case a25 => k_is); (case l25 => k_is); (case c25 => k_is); (case k25 => k_is)
     (case a26 => k_is); (case l26 => k_is); (case c26 => k_is); (case k26 => k_is)
     (case a27 => k_is); (case l27 => k_is); (case c27 => k_is); (case k27 => k_is)
     (case a28 => k_is); (case l28 => k_is); (case c28 => k_is); (case k28 => k_is)
     (case a29 => k_is); (case l29 => k_is); (case c29 => k_is); (case k29 => k_is)
     (case a30 => k_is); (case l30 => k_is); (case c30 => k_is); (case k30 => k_is)
     (case a31 => k_is); (case l31 => k_is); (case c31 => k_is); (case k31 => k_is)
     (case a32 => k_is); (case l32 => k_is); (case c32 => k_is); (case k32 => k_is)
     (case a33 => k_is); (case l33 => k_is); (case c33 => k_is); (case k33 => k_is)
     (case a34 => k_is); (case l34 => k_is); (case c34 => k_is); (case k34 => k_is)
     (case a35 => k_is); (case l35 => k_is); (case c35 => k_is); (case k35 => k_is)
     (case a36 => k_is); (case l36 => k_is); (case c36 => k_is); (case k36 => k_is)
     (case a37 => k_is); (case l37 => k_is); (case c37 => k_is); (case k37 => k_is)
     (case a38 => k_is); (case l38 => k_is); (case c38 => k_is); (case k38 => k_is)
     (case a39 => k_is); (case l39 => k_is); (case c39 => k_is); (case k39 => k_is)
     (case a40 => k_is); (case l40 => k_is); (case c40 => k_is); (case k40 => k_is)
     (case a41 => k_is); (case i41 => k_is); (case l41 => k_is); (case c41 => k_is); (case k41 => k_is)
     (case a42 => k_is); (case i42 => k_is); (case l42 => k_is); (case c42 => k_is); (case k42 => k_is)
     (case a43 => k_is); (case l43 => k_is); (case c43 => k_is); (case k43 => k_is)
     (case a44 => k_is); (case l44 => k_is); (case c44 => k_is); (case k44 => k_is)
     (case a45 => k_is); (case l45 => k_is); (case c45 => k_is); (case k45 => k_is)
     (case a46 => k_is); (case l46 => k_is); (case c46 => k_is); (case k46 => k_is)
     (case a47 => k_is); (case l47 => k_is); (case c47 => k_is); (case k47 => k_is)
     (case a48 => k_is); (case l48 => k_is); (case c48 => k_is); (case k48 => k_is)
     (case a49 => k_is); (case l49 => k_is); (case c49 => k_is); (case k49 => k_is)
     (case a50 => k_is); (case l50 => k_is); (case c50 => k_is); (case k50 => k_is)
     (case a51 => k_is); (case l51 => k_is); (case c51 => k_is); (case k51 => k_is)
     (case a52 => k_is); (case i52 => k_is); (case l52 => k_is); (case c52 => k_is); (case k52 => k_is)
     (case a53 => k_is); (case l53 => k_is); (case c53 => k_is); (case k53 => k_is)
     (case a54 => k_is); (case l54 => k_is); (case c54 => k_is); (case k54 => k_is)
     (case a55 => k_is); (case l55 => k_is); (case c55 => k_is); (case k55 => k_is)
     (case a56 => k_is); (case l56 => k_is); (case c56 => k_is); (case k56 => k_is)
     (case a57 => k_is); (case l57 => k_is); (case c57 => k_is); (case k57 => k_is)
     (case a58 => k_is); (case l58 => k_is); (case c58 => k_is); (case k58 => k_is)
     (case a59 => k_is); (case l59 => k_is); (case c59 => k_is); (case k59 => k_is)
    (case hN => first | k_is | kernel_rfl)
    (case hC => first | kernel_rfl | k_is)
    (case hN2 => first | k_is | kernel_rfl)
    (case hC2 => first | kernel_rfl | k_is)
