import PyProof.Rows.All
import Wide.All
import OpenK.AllK
import Wide.FinOn
import HandS.Base
import HandS.Call
import HandS.List
import HandS.Comp
import HandS.Ends
import HandS.Iter
import HandS.Text
import HandS.Words
import HandS.WordsList
import HandS.Codes
import HandS.IsInst
import HandS.Walk
import HandS.TupAny
import HandS.Wide
import HandS.Rev
import HandS.Replace
import HandS.Style
import KE.DataMinKey
import KE.KMinKey
import HandS.Lambda
import HandS.Nested
import HandS.Strs
import HandS.TupLe
import KE.KAssignIn
import KE.KNestM
import KE.KLam
import HandS.EndTab
import PySem.Challenge.RW_sinkstack_k15_whole_known_works
set_option Elab.async false
set_option linter.all false
set_option maxRecDepth 100000
set_option maxHeartbeats 4000000
/-! the mathematics of triples, over lists of numbers -/
namespace SK
def tp (k : Nat) (l : List Nat) : List Nat := l.drop (l.length - k)
def ct (g : Nat) (l : List Nat) : List Nat := l.take (l.length - g)
structure Tr where
  g : Nat
  k : Nat
  l : List Nat
def tby (t : Tr) (x : List Nat) : List Nat := tp t.k (ct t.g x) ++ t.l
def tidy (g k : Nat) (l : List Nat) : Tr := if k = 0 then ⟨0, 0, l⟩ else ⟨g, k, l⟩
def tjoin (t u : Tr) : Tr := tidy (t.g + (u.g - t.l.length)) (min (t.k - (u.g - t.l.length)) (u.k - (ct u.g t.l).length)) (tp u.k (ct u.g t.l) ++ u.l)
def tstep (room c : Nat) : Tr := if c = 45 then tidy 1 (room - 1) [] else ⟨0, room - 1, [c]⟩
def tunt (room : Nat) : Tr := ⟨0, room, []⟩
def ttold (room : Nat) (s : List Nat) : Tr := s.foldl (fun t c => tjoin t (tstep room c)) (tunt room)
def step (room : Nat) (x : List Nat) (c : Nat) : List Nat := if c = 45 then ct 1 x else tp room (x ++ [c])
def gone (room : Nat) (x : List Nat) (s : List Nat) : List Nat := s.foldl (step room) x
def signs (n : Nat) : List Nat := [97, 98, 99, 100].take n
structure TrOk (room many : Nat) (t : Tr) : Prop where
  gk : t.g + t.k ≤ room
  kl : t.k + t.l.length ≤ room
  z : t.k = 0 → t.g = 0
  s : ∀ c ∈ t.l, c ∈ signs many
theorem len_tp (k : Nat) (l : List Nat) : (tp k l).length = min k l.length := by
  unfold tp
  rw [List.length_drop]
  omega
theorem len_ct (g : Nat) (l : List Nat) : (ct g l).length = l.length - g := by
  unfold ct
  rw [List.length_take]
  omega
theorem tp_all {k : Nat} {l : List Nat} (h : l.length ≤ k) : tp k l = l := by
  unfold tp
  rw [Nat.sub_eq_zero_of_le h, List.drop_zero]
theorem tp_zero (l : List Nat) : tp 0 l = [] := by
  unfold tp
  rw [Nat.sub_zero, List.drop_length]
theorem ct_zero (l : List Nat) : ct 0 l = l := by
  unfold ct
  rw [Nat.sub_zero, List.take_length]
theorem ct_all {g : Nat} {l : List Nat} (h : l.length ≤ g) : ct g l = [] := by
  unfold ct
  rw [Nat.sub_eq_zero_of_le h, List.take_zero]
theorem tp_tp (a b : Nat) (l : List Nat) : tp a (tp b l) = tp (min a b) l := by
  unfold tp
  rw [List.drop_drop, List.length_drop]
  congr 1
  omega
theorem ct_ct (a b : Nat) (l : List Nat) : ct a (ct b l) = ct (b + a) l := by
  unfold ct
  rw [List.take_take, List.length_take]
  congr 1
  omega
theorem ct_tp (d k : Nat) (l : List Nat) : ct d (tp k l) = tp (k - d) (ct d l) := by
  unfold ct tp
  rw [List.length_drop, List.length_take, List.drop_take]
  by_cases h : l.length ≤ k
  · have e1 : l.length - k = 0 := by omega
    have e2 : min (l.length - d) l.length - (k - d) = 0 := by omega
    rw [e1, e2, List.drop_zero, Nat.sub_zero, Nat.sub_zero]
  · by_cases h2 : d ≤ k
    · have e2 : min (l.length - d) l.length - (k - d) = l.length - k := by omega
      rw [e2]
      congr 1
      omega
    · have e1 : l.length - (l.length - k) - d = 0 := by omega
      have e2 : l.length - d - (min (l.length - d) l.length - (k - d)) = 0 := by omega
      rw [e1, e2, List.take_zero, List.take_zero]
theorem ct_app_le {g : Nat} {a b : List Nat} (h : g ≤ b.length) : ct g (a ++ b) = a ++ ct g b := by
  unfold ct
  rw [List.length_append, List.take_append]
  have e1 : a.length + b.length - g - a.length = b.length - g := by omega
  rw [e1, List.take_of_length_le (by omega)]
theorem ct_app_ge {g : Nat} {a b : List Nat} (h : b.length ≤ g) : ct g (a ++ b) = ct (g - b.length) a := by
  unfold ct
  rw [List.length_append, List.take_append]
  have e1 : a.length + b.length - g - a.length = 0 := by omega
  rw [e1, List.take_zero, List.append_nil]
  congr 1
  omega
theorem tp_app (k : Nat) (a b : List Nat) : tp k (a ++ b) = tp (k - b.length) a ++ tp k b := by
  unfold tp
  rw [List.length_append, List.drop_append]
  have e1 : a.length + b.length - k - a.length = b.length - k := by omega
  by_cases h : b.length ≤ k
  · have e2 : a.length + b.length - k = a.length - (k - b.length) := by omega
    rw [e1, e2]
  · have e2 : a.length ≤ a.length + b.length - k := by omega
    have e3 : a.length - (k - b.length) = a.length := by omega
    rw [e1, e3, List.drop_eq_nil_of_le e2, List.drop_length]
theorem tby_tidy (g k : Nat) (l x : List Nat) : tby (tidy g k l) x = tby ⟨g, k, l⟩ x := by
  unfold tidy
  by_cases h : k = 0
  · rw [if_pos h]
    subst h
    simp only [tby, tp_zero]
  · rw [if_neg h]
theorem tby_join (t u : Tr) (x : List Nat) : tby (tjoin t u) x = tby u (tby t x) := by
  unfold tjoin
  rw [tby_tidy]
  simp only [tby]
  by_cases h : u.g ≤ t.l.length
  · have e : u.g - t.l.length = 0 := by omega
    rw [ct_app_le h, tp_app, tp_tp, e, Nat.add_zero, Nat.sub_zero, Nat.min_comm, List.append_assoc]
  · have h' : t.l.length ≤ u.g := by omega
    have e : ct u.g t.l = [] := ct_all h'
    rw [ct_app_ge h', e, ct_tp, ct_ct, tp_tp]
    simp only [List.length_nil, Nat.sub_zero]
    rw [tp_all (l := []) (by simp), List.nil_append, Nat.min_comm]
theorem tidy_ok {room many g k : Nat} {l : List Nat} (h1 : 0 < k → g + k ≤ room) (h2 : k + l.length ≤ room) (h3 : ∀ c ∈ l, c ∈ signs many) : TrOk room many (tidy g k l) := by
  unfold tidy
  by_cases h : k = 0
  · rw [if_pos h]
    exact ⟨by simp, by subst h; simpa using h2, fun _ => rfl, h3⟩
  · rw [if_neg h]
    exact ⟨h1 (by omega), h2, fun z => absurd z h, h3⟩
theorem mem_tp {k c : Nat} {l : List Nat} (h : c ∈ tp k l) : c ∈ l := List.mem_of_mem_drop h
theorem mem_ct {k c : Nat} {l : List Nat} (h : c ∈ ct k l) : c ∈ l := List.mem_of_mem_take h
theorem tjoin_ok {room many : Nat} {t u : Tr} (a : TrOk room many t) (b : TrOk room many u) : TrOk room many (tjoin t u) := by
  have := a.gk
  have := a.kl
  have := b.gk
  have := b.kl
  unfold tjoin
  refine tidy_ok (fun h => ?_) ?_ fun c hc => ?_
  · omega
  · rw [List.length_append, len_tp]
    omega
  · rcases List.mem_append.mp hc with h | h
    · exact a.s c (mem_ct (mem_tp h))
    · exact b.s c h
theorem tunt_ok {room many : Nat} : TrOk room many (tunt room) := ⟨by simp [tunt], by simp [tunt], fun _ => rfl, fun c h => by simp [tunt] at h⟩
theorem tstep_ok {room many c : Nat} (hr : 1 ≤ room) (hc : c = 45 ∨ c ∈ signs many) : TrOk room many (tstep room c) := by
  unfold tstep
  by_cases h : c = 45
  · rw [if_pos h]
    exact tidy_ok (fun _ => by omega) (by simp) fun c h => by simp at h
  · rw [if_neg h]
    refine ⟨by simp, by simp; omega, fun _ => rfl, fun d hd => ?_⟩
    have e : d = c := by simpa using hd
    subst e
    exact hc.resolve_left h
theorem ttold_ok {room many : Nat} (hr : 1 ≤ room) : ∀ (s : List Nat) (t : Tr), TrOk room many t → (∀ c ∈ s, c = 45 ∨ c ∈ signs many) → TrOk room many (s.foldl (fun t c => tjoin t (tstep room c)) t)
  | [], _, h, _ => h
  | c :: r, t, h, hs => ttold_ok hr r _ (tjoin_ok h (tstep_ok hr (hs c (List.mem_cons_self ..)))) fun d hd => hs d (List.mem_cons_of_mem _ hd)
theorem tby_step {room c : Nat} {x : List Nat} (hr : 1 ≤ room) (hx : x.length ≤ room) : tby (tstep room c) x = step room x c := by
  unfold tstep step
  by_cases h : c = 45
  · rw [if_pos h, if_pos h, tby_tidy]
    simp only [tby, List.append_nil]
    exact tp_all (by rw [len_ct]; omega)
  · rw [if_neg h, if_neg h, tp_app]
    simp only [tby, ct_zero, List.length_singleton]
    congr 1
    exact (tp_all (by simpa using hr)).symm
theorem step_len {room c : Nat} {x : List Nat} (hx : x.length ≤ room) : (step room x c).length ≤ room := by
  unfold step
  by_cases h : c = 45
  · rw [if_pos h, len_ct]
    omega
  · rw [if_neg h, len_tp]
    omega
theorem gone_len {room : Nat} : ∀ (s x : List Nat), x.length ≤ room → (gone room x s).length ≤ room
  | [], _, h => h
  | c :: r, x, h => gone_len r (step room x c) (step_len h)
theorem tby_fold {room : Nat} (hr : 1 ≤ room) : ∀ (s : List Nat) (t : Tr) (x y : List Nat), (tby t x).length ≤ room → tby (s.foldl (fun t c => tjoin t (tstep room c)) t) x = gone room (tby t x) s
  | [], _, _, _, _ => rfl
  | c :: r, t, x, y, h => by
    have e := tby_fold hr r (tjoin t (tstep room c)) x y (by rw [tby_join, tby_step hr h]; exact step_len h)
    rw [tby_join, tby_step hr h] at e
    exact e
theorem tby_unt {room : Nat} {x : List Nat} (hx : x.length ≤ room) : tby (tunt room) x = x := by
  simp only [tby, tunt, ct_zero, List.append_nil]
  exact tp_all hx
theorem tby_told {room : Nat} (hr : 1 ≤ room) (s : List Nat) {x : List Nat} (hx : x.length ≤ room) : tby (ttold room s) x = gone room x s := by
  have e := tby_fold hr s (tunt room) x [] (by rw [tby_unt hx]; exact hx)
  rw [tby_unt hx] at e
  exact e
end SK
namespace SK
open PySem PySem.Spec PyProof.Rows L2
/-! ### tuples whose object is known to have no dict -/
/-- a tuple, its object plain -/
def TupF (H : Hp) (a : Addr) (xs : List V) : Prop := ∃ ob : Obj, ob.dict = none ∧ H a = some (.frz ob (.tup xs))
theorem TupF.sq {K : PySem.W.Frag} {H : Hp} {a : Addr} {xs : List V} (h : TupF H a xs) : SqT K H a xs := by
  obtain ⟨ob, _, e⟩ := h
  exact .inl (.inr ⟨ob, e⟩)
section
variable {X : Cx} {es : List Expr} {t : TA} {pos cpos apos : Pos}
def tTupF (t : TA) : TE := fun σ H Q => t σ H fun xs H1 => xs.length ≤ sizeLine ∧ ∀ (p : Addr) (ob : Obj), ob.dict = none → H1 p = none → Q (.ref p) (upd H1 p (.frz ob (.tup xs)))
theorem tupF_ok {P : Program} {w : World} {H : Hp} {h : Heap} {us : List Value} {xs : List V} (r : Vals xs us) (z : xs.length ≤ sizeLine) : ObjOk P w H (h.push { cls := .type "tuple", data := .seq us.toArray }) h.objs.size (.frz { cls := .type "tuple", data := .seq us.toArray } (.tup xs)) :=
  ⟨Heap.get?_push_size _ rfl, z, us, r, ⟨_, Heap.get?_push_size _ rfl, rfl, _, rfl⟩⟩
theorem pe_tupF {x1} (h : PA X es t) : PE X (.Tuple es x1 pos) (tTupF t) := by
  refine ⟨fun pins s σ H Q I hq => ?_⟩
  refine wpAny_Tuple_spliced (thn (h.run pos pins s σ H _ I hq) fun us s1 ⟨xs, H1, I1, r, z, q⟩ => ⟨by rw [← r.length]; exact z, ?_⟩)
  have hf : H1 s1.heap.objs.size = none := I1.hok.fresh (Nat.le_refl _)
  exact ⟨.ref s1.heap.objs.size, upd H1 s1.heap.objs.size (.frz { cls := .type "tuple", data := .seq us.toArray } (.tup xs)), I1.laid (t' := s1.toks) (fun b u e => Heap.get?_push_of_some _ e) (Nat.le_refl _) (tupF_ok r z), rfl, q _ _ rfl hf⟩
theorem call_tupleF : CallR X (.type "tuple") (fun xs H Q => ∃ p ys, xs = [.ref p] ∧ SqL X.K H p ys ∧ ∀ (l : Addr) (ob : Obj), ob.dict = none → H l = none → Q (.ref l) (upd H l (.frz ob (.tup ys)))) := by
  intro pins s σ H xs us Q I r h
  obtain ⟨p, ys, rfl, hq, q⟩ := h
  obtain ⟨u, rfl, rx⟩ := vals1 r
  cases rx
  obtain ⟨its, r', pl, hz⟩ := I.list hq
  have hlen := r'.length
  refine call_tuple_list pl.isList (fun h' kp => ?_) (by simp only [List.size_toArray] <;> omega)
  have I1 : Inv X pins σ H { s with heap := h' } := I.kept (t' := s.toks) kp
  have I2 : Inv X pins σ (upd H h'.objs.size (.frz { cls := .type "tuple", data := .seq its.toArray } (.tup ys))) { s with heap := h'.push { cls := .type "tuple", data := .seq its.toArray } } :=
    I1.laid (t' := s.toks) (fun b o e => Heap.get?_push_of_some _ e) (Nat.le_refl _) (tupF_ok r' hz)
  exact ⟨.ref h'.objs.size, _, I2, rfl, q _ _ rfl (I1.hok.fresh (Nat.le_refl _))⟩
/-- t + u, t not empty -/
def rCatF (K : PySem.W.Frag) : R2 := fun x y H Q => ∃ a b xs ys, x = .ref a ∧ y = .ref b ∧ SqT K H a xs ∧ SqT K H b ys ∧ xs ≠ [] ∧ xs.length + ys.length ≤ sizeLine ∧
  (ys = [] → Q (.ref a) H) ∧ (ys ≠ [] → ∀ (p : Addr) (ob : Obj), ob.dict = none → H p = none → Q (.ref p) (upd H p (.frz ob (.tup (xs ++ ys)))))
theorem op_catF : OpR X (binaryOp .Add) (rCatF X.K) := by
  intro pins s σ H x y v u Q I rx ry h
  obtain ⟨a, b, xs, ys, rfl, rfl, ha, hb, hx, hz, q1, q2⟩ := h
  cases rx
  cases ry
  obtain ⟨its, r1, p1, _⟩ := I.tuple ha
  obtain ⟨its2, r2, p2, _⟩ := I.tuple hb
  refine HT.cat_tup p1 p2 (fun z => hx (r1.nil_iff.mp z)) (fun z => ⟨.ref a, H, I, rfl, q1 (r2.nil_iff.mp z)⟩) (fun z => ?_) (by rw [← r1.length, ← r2.length]; exact hz)
  exact ⟨.ref s.heap.objs.size, _, I.laid (t' := s.toks) (fun b ob q => Heap.get?_push_of_some _ q) (Nat.le_refl _) (tupF_ok (r1.append r2) (by rw [List.length_append]; exact hz)), rfl, q2 (fun w => z (r2.nil_iff.mpr w)) _ _ rfl (I.hok.fresh (Nat.le_refl _))⟩
/-- a method of such a tuple -/
def tBMT (r : V → List V → Hp → VK → Prop) (to : TE) (t : TA) : TE := fun σ H Q => to σ H fun x H1 => (∃ a xs, x = .ref a ∧ TupF H1 a xs) ∧ t σ H1 fun vs H2 => r x vs H2 Q
theorem pe_bmT {name : Str} {id : String} {o e : Expr} {to : TE} {r : V → List V → Hp → VK → Prop} (pa : PlainAttrs "tuple") (slot : Slot "tuple" name id) (hty : typeOf (.builtin id) = pure (.type "method_descriptor")) (hm : MtR X id r) (ho : PE X o to) (ha : PA X (e :: es) t)
    (hbase : attributeBase o name X.env (eval o X.env) = eval o X.env := by rfl)
    (hfew : ((backTo cpos (starEach (e :: es) X.env)).all (fun x => !x.1) && (backToKw cpos (keywordEach [] X.env)).all (fun x => x.1.isSome)
      && decide ((e :: es).length + ([] : List Keyword).length + (if ([] : List Keyword).isEmpty then 0 else 1) < 30)) = true := by rfl)
    (hline : (apos.endLine == cpos.line) = true := by rfl) (hs : starEach (e :: es) X.env = (false, eval e X.env) :: starEach es X.env := by rfl) (hplain : (backTo cpos (starEach es X.env)).any (·.1) = false := by rfl) :
    PE X (.Call (.Attribute o name apos) (e :: es) [] cpos) (tBMT r to t) := by
  refine ⟨fun pins s σ H Q I h => ?_⟩
  refine wpAny_Call_method_late hbase hfew hline rfl (thn (ho.run pins s σ H _ I h) fun v s1 ⟨x, H1, I1, r1, ty, q1⟩ => ?_)
  obtain ⟨a, xs, rfl, ob, hd, hH⟩ := ty
  cases r1
  obtain ⟨hob, hz, its, rv, hit⟩ := I1.hok a _ hH
  obtain ⟨o', ho', hc, _⟩ := hit
  rw [hob] at ho'
  cases ho'
  refine ⟨"tuple", id, pa, slot, hty, ⟨ob, hob, hc⟩, fun b e => ?_, ?_⟩
  · cases e
    exact ⟨ob, hob, hd⟩
  have hA := ha.run cpos pins s1 σ H1 _ I1 q1
  rw [hs] at hA ⊢
  refine Calls.callWith_builtin (by show (false || (backTo cpos (starEach es X.env)).any (·.1)) = false; rw [hplain] <;> rfl) (Calls.evalArgs_plain ?_)
  exact thn hA fun us s2 ⟨vs, H2, I2, r2, q2⟩ => hm pins s2 σ H2 (.ref a) vs (.ref a) us Q I2 rfl r2 q2
end
end SK
namespace SK
open PySem PySem.Spec PyProof.Rows L2
/-! ### a def of the module, by its name -/
structure Dn (K : PySem.W.Frag) (mg : Str → Option Value) (x : Str) (st : Stmt) (ps : List Str) : Prop where
  ex : ∃ (f : Addr) (fd : FuncData), L2.Fun K x x st f fd ∧ mg x = some (.ref f) ∧ Binds K fd ps []
abbrev Cal := @C8.Cal
section
variable {P : Program} {w : World} {K : PySem.W.Frag} {mg : Str → Option Value} {base : Heap}
theorem Dn.cal {x : Str} {st : Stmt} {N ps : List Str} {k : Nat} {sp : Sp} (D : Dn K mg x st ps) (S : FnScope N ps (defScope st)) (len : ∀ vs H Q E, sp vs H Q E → vs.length = ps.length)
    (hbody : ∀ (f : Addr) (cdv : Value) (A : Around) (outer : List Env) (s : Shared) (H : Hp) (vs : List V) (Q : VK) (E : XK), Room k (A.deeper (envOfC x (defScope st) s.heap.objs.size f cdv)) → sp vs H Q E →
      ∃ t, PSs (cxOf CX0 P w K mg base N x (defScope st) f cdv A outer s H E).nox (defBody st) t ∧ t { nx := fun _ H' => Q .non H', rt := Q } (start N vs) H) : C8.Cal P w K mg base (k + 1) x sp [] := by
  obtain ⟨f, fd, F, hm, b⟩ := D.ex
  exact ⟨f, fd, ps, [], F.ok S len (fun cdv A outer s H vs Q E => hbody f cdv A outer s H vs Q E), hm, F.kp, b, .nil⟩
theorem dn_mk {x : Str} {st : Stmt} {ps : List Str} {h : Heap} {f : Addr} {oc : Value} {od an : Option Addr} {osl : Array (Option Value)} {kV doc pm cd ct : Value} (X : K.In h) (G : h.Ns mainGlobals mg)
    (a : PySem.W.nsIn K mainGlobals x = some (some (.ref f))) (l : K.lookup f = some ⟨oc, od, .func (PySem.W.fnOf x x (defArgs st) (defBody st) (defScope st) .none kV doc pm an cd ct), osl⟩)
    (c : PySem.W.codeIn K cd x = true) (k : PySem.W.keepIn K (.ref f) = true)
    (hb : ∀ (kV doc pm : Value) (an : Option Addr) (cdv ct : Value) (us : List Value), us.length = ps.length → bindArgs (PySem.W.fnOf x x (defArgs st) (defBody st) (defScope st) .none kV doc pm an cdv ct) ⟨us, []⟩ = pure (ps.zip us)) : Dn K mg x st ps := by
  have F := fun_mk (st := st) l c k
  exact ⟨f, _, F, PySem.W.mg_of X G a, F.binds hb⟩
end
/-! ### heaps -/
theorem Same.new {H : Hp} {p : Addr} (h : H p = none) (o : HO) : Same H (upd H p o) := fun b u q => by rw [upd_ne (ne_of_none q h)]; exact q
theorem sz {n : Nat} (h : n ≤ 100000) : n ≤ sizeLine := Nat.le_trans h (by decide)
theorem szl {n : Nat} (h : n < 100000) : n < sizeLine := Nat.lt_of_lt_of_le h (by decide)
/-! ### texts -/
def tx (l : List Nat) : Str := ⟨l.toArray⟩
theorem tx_len (l : List Nat) : (tx l).length = l.length := by
  show l.toArray.size = _
  rw [List.size_toArray]
theorem tx_list (l : List Nat) : (tx l).cps.toList = l := rfl
theorem tx_app (a b : List Nat) : tx a ++ tx b = tx (a ++ b) := by
  show Str.append _ _ = _
  unfold Str.append tx
  simp
theorem cut_tx (l : List Nat) (lo hi : Option Int) : cutS (tx l) lo hi = tx ((l.drop (HT.sIx l.length 0 lo)).take (HT.sIx l.length l.length hi - HT.sIx l.length 0 lo)) := by
  unfold cutS
  rw [tx_len, tx_list]
  rfl
theorem cut_to {l : List Nat} {n : Nat} (h : n ≤ l.length) : cutS (tx l) none (some (n : Int)) = tx (l.take n) := by
  rw [cut_tx, HT.sIx_none, HT.sIx_nat, List.drop_zero, Nat.sub_zero, Nat.min_eq_left h]
theorem cut_from {l : List Nat} {n : Nat} (h : n ≤ l.length) : cutS (tx l) (some (n : Int)) none = tx (l.drop n) := by
  rw [cut_tx, HT.sIx_none, HT.sIx_nat, Nat.min_eq_left h, List.take_of_length_le (by rw [List.length_drop]; exact Nat.le_refl _)]
theorem cut_back {l : List Nat} {n : Nat} (h : 0 < n) : cutS (tx l) (some (-(n : Int))) none = tx (l.drop (l.length - n)) := by
  have e : HT.sIx l.length 0 (some (-(n : Int))) = l.length - n := by
    show (if (-(n : Int)) < 0 then (-(n : Int) + (l.length : Int)).toNat else _) = _
    rw [if_pos (by omega)]
    omega
  rw [cut_tx, HT.sIx_none, e, List.take_of_length_le (by rw [List.length_drop]; exact Nat.le_refl _)]
theorem cut_but {l : List Nat} {n : Nat} (h : 0 < n) : cutS (tx l) none (some (-(n : Int))) = tx (l.take (l.length - n)) := by
  have e : HT.sIx l.length l.length (some (-(n : Int))) = l.length - n := by
    show (if (-(n : Int)) < 0 then (-(n : Int) + (l.length : Int)).toNat else _) = _
    rw [if_pos (by omega)]
    omega
  rw [cut_tx, HT.sIx_none, e, List.drop_zero, Nat.sub_zero]
theorem str_inj {a b : List Nat} : tx a = tx b ↔ a = b := by
  constructor
  · intro h
    have := congrArg (fun z : Str => z.cps.toList) h
    simpa [tx] using this
  · intro h
    rw [h]
/-! ### plans and triples as they stand in the heap -/
structure Pl where
  room : Nat
  many : Nat
  pr : List Int
  pop : Int
structure Pl.Ok (p : Pl) : Prop where
  r1 : 1 ≤ p.room
  r9 : p.room ≤ 9
  m1 : 1 ≤ p.many
  m4 : p.many ≤ 4
  pl : p.pr.length = p.many
  pr : ∀ x ∈ p.pr, 1 ≤ x ∧ x ≤ 99
  q1 : 1 ≤ p.pop
  q9 : p.pop ≤ 99
/-- the prices as they stand -/
def PrAt (H : Hp) (b : Addr) (p : Pl) : Prop := TupF H b (p.pr.map V.int)
theorem PrAt.mono {H H' : Hp} {b : Addr} {p : Pl} (h : PrAt H b p) (s : Same H H') : PrAt H' b p := by
  obtain ⟨ob, h1, h2⟩ := h
  exact ⟨ob, h1, s _ _ h2⟩
theorem PrAt.ty {K : PySem.W.Frag} {H : Hp} {b : Addr} {p : Pl} (h : PrAt H b p) : TyX K H (.ref b) (.type "tuple") := by
  obtain ⟨ob, h1, h2⟩ := h
  exact .fTuple h2
def PlanAt (H : Hp) (v : V) (p : Pl) : Prop := ∃ a b, v = .ref a ∧ H a = some (.tup [.int p.room, .int p.many, .ref b, .int p.pop]) ∧ PrAt H b p
def TripAt (H : Hp) (v : V) (t : Tr) : Prop := ∃ a, v = .ref a ∧ H a = some (.tup [.int t.g, .int t.k, .str (tx t.l)])
theorem PlanAt.mono {H H' : Hp} {v : V} {p : Pl} (h : PlanAt H v p) (e : Same H H') : PlanAt H' v p := by
  obtain ⟨a, b, h1, h2, h3⟩ := h
  exact ⟨a, b, h1, e _ _ h2, h3.mono e⟩
theorem TripAt.mono {H H' : Hp} {v : V} {t : Tr} (h : TripAt H v t) (e : Same H H') : TripAt H' v t := by
  obtain ⟨a, h1, h2⟩ := h
  exact ⟨a, h1, e _ _ h2⟩
theorem signs_len (n : Nat) : (signs n).length ≤ 4 := by
  unfold signs
  rw [List.length_take]
  exact Nat.min_le_right ..
/-! ### kinds of values -/
theorem ty_int {K : PySem.W.Frag} {H : Hp} {i : Int} : TyX K H (.int i) (.type "int") := .base (.int i)
theorem ty_str {K : PySem.W.Frag} {H : Hp} {i : Str} : TyX K H (.str i) (.type "str") := .base (.str i)
theorem ty_tup {K : PySem.W.Frag} {H : Hp} {a : Addr} {xs : List V} (h : H a = some (.tup xs)) : TyX K H (.ref a) (.type "tuple") := .base (.tup h)
theorem ty_lst {K : PySem.W.Frag} {H : Hp} {a : Addr} {xs : List V} (h : H a = some (.lst xs)) : TyX K H (.ref a) (.type "list") := .base (.lst h)
theorem ty_non {K : PySem.W.Frag} {H : Hp} : TyX K H .non (.type "NoneType") := .base .non
theorem ty_bl {K : PySem.W.Frag} {H : Hp} {b : Bool} : TyX K H (.bl b) (.type "bool") := .base (.bl b)
theorem k_int_int : kitB "int" "int" = some true := by decide +kernel
theorem k_int_bool : kitB "int" "bool" = some false := by decide +kernel
theorem k_int_tup : kitB "int" "tuple" = some false := by decide +kernel
theorem k_int_lst : kitB "int" "list" = some false := by decide +kernel
theorem k_str_str : kitB "str" "str" = some true := by decide +kernel
theorem k_str_bool : kitB "str" "bool" = some false := by decide +kernel
theorem k_str_int : kitB "str" "int" = some false := by decide +kernel
theorem k_tup_tup : kitB "tuple" "tuple" = some true := by decide +kernel
theorem k_tup_int : kitB "tuple" "int" = some false := by decide +kernel
theorem k_tup_bool : kitB "tuple" "bool" = some false := by decide +kernel
theorem k_tup_str : kitB "tuple" "str" = some false := by decide +kernel
theorem k_tup_lst : kitB "tuple" "list" = some false := by decide +kernel
theorem k_lst_lst : kitB "list" "list" = some true := by decide +kernel
theorem k_lst_tup : kitB "list" "tuple" = some false := by decide +kernel
theorem k_lst_int : kitB "list" "int" = some false := by decide +kernel
theorem k_lst_bool : kitB "list" "bool" = some false := by decide +kernel
theorem k_lst_str : kitB "list" "str" = some false := by decide +kernel
theorem k_bool_bool : kitB "bool" "bool" = some true := by decide +kernel
theorem k_bool_int : kitB "bool" "int" = some true := by decide +kernel
theorem b_isi : bootBuiltins "isinstance" = some (.builtin "isinstance") := by decide +kernel
theorem b_all : bootBuiltins "all" = some (.builtin "all") := by decide +kernel
theorem b_max : bootBuiltins "max" = some (.builtin "max") := by decide +kernel
theorem b_min : bootBuiltins "min" = some (.builtin "min") := by decide +kernel
theorem b_bool : bootBuiltins "bool" = some (.type "bool") := by decide +kernel
theorem b_int : bootBuiltins "int" = some (.type "int") := by decide +kernel
theorem b_str : bootBuiltins "str" = some (.type "str") := by decide +kernel
theorem b_tuple : bootBuiltins "tuple" = some (.type "tuple") := by decide +kernel
theorem b_list : bootBuiltins "list" = some (.type "list") := by decide +kernel
theorem s_empty : ("" : Str) = tx [] := by decide +kernel
theorem s_minus : ("-" : Str) = tx [45] := by decide +kernel
theorem s_abcd : ("abcd" : Str) = tx [97, 98, 99, 100] := by decide +kernel
/-! ### promises of the program's defs -/
/-- hands back this value, all that stood stands -/
def giv (v : V) (H : Hp) (Q : VK) : Prop := ∀ H', Same H H' → Q v H'
def spSigns : Sp := fun vs H Q _ => ∃ v p, vs = [v] ∧ PlanAt H v p ∧ p.Ok ∧ giv (.str (tx (signs p.many))) H Q
def spNum : Sp := fun vs H Q _ => ∃ i lo hi : Int, vs = [.int i, .int lo, .int hi] ∧ giv (.bl (decide (lo ≤ i ∧ i ≤ hi))) H Q
def spTextOf : Sp := fun vs H Q _ => ∃ l sg : List Nat, vs = [.str (tx l), .str (tx sg)] ∧ l.length ≤ 10000 ∧ giv (.bl (decide (∀ c ∈ l, c ∈ sg))) H Q
def spChPlan : Sp := fun vs H Q _ => ∃ v p, vs = [v] ∧ PlanAt H v p ∧ p.Ok ∧ giv .non H Q
def spPrices : Sp := fun vs H Q _ => ∃ b p, vs = [.ref b, .int (p : Pl).many] ∧ PrAt H b p ∧ p.Ok ∧ giv (.bl true) H Q
def spChStack : Sp := fun vs H Q _ => ∃ v p l, vs = [v, .str (tx l)] ∧ PlanAt H v p ∧ p.Ok ∧ l.length ≤ p.room ∧ (∀ c ∈ l, c ∈ signs p.many) ∧ giv .non H Q
def spIsStack : Sp := fun vs H Q _ => ∃ v p l, vs = [v, .str (tx l)] ∧ PlanAt H v p ∧ p.Ok ∧ l.length ≤ p.room ∧ (∀ c ∈ l, c ∈ signs p.many) ∧ giv (.bl true) H Q
def spChSteps : Sp := fun vs H Q _ => ∃ v p l, vs = [v, .str (tx l)] ∧ PlanAt H v p ∧ p.Ok ∧ l.length ≤ 10000 ∧ (∀ c ∈ l, c = 45 ∨ c ∈ signs p.many) ∧ giv .non H Q
def spChTriple : Sp := fun vs H Q _ => ∃ v p u t, vs = [v, u] ∧ PlanAt H v p ∧ p.Ok ∧ TripAt H u t ∧ TrOk p.room p.many t ∧ giv .non H Q
def spIsTriple : Sp := fun vs H Q _ => ∃ v p u t, vs = [v, u] ∧ PlanAt H v p ∧ p.Ok ∧ TripAt H u t ∧ TrOk p.room p.many t ∧ giv (.bl true) H Q
/-- a new triple -/
def givT (t : Tr) (H : Hp) (Q : VK) : Prop := ∀ H' v, Same H H' → TripAt H' v t → Q v H'
def spWithout : Sp := fun vs H Q _ => ∃ (l : List Nat) (n : Nat), vs = [.str (tx l), .int n] ∧ l.length ≤ 10000 ∧ giv (.str (tx (ct n l))) H Q
def spTop : Sp := fun vs H Q _ => ∃ (l : List Nat) (n : Nat), vs = [.str (tx l), .int n] ∧ l.length ≤ 10000 ∧ giv (.str (tx (tp n l))) H Q
def spBehind : Sp := fun vs H Q _ => ∃ u t l, vs = [u, .str (tx l)] ∧ TripAt H u t ∧ l.length ≤ 1000 ∧ (t : Tr).l.length ≤ 1000 ∧ giv (.str (tx (tby t l))) H Q
def spTidied : Sp := fun vs H Q _ => ∃ (g k : Nat) (l : List Nat), vs = [.int g, .int k, .str (tx l)] ∧ givT (tidy g k l) H Q
def spJoin : Sp := fun vs H Q _ => ∃ a b t u, vs = [a, b] ∧ TripAt H a t ∧ TripAt H b u ∧ (t : Tr).l.length ≤ 1000 ∧ (u : Tr).l.length ≤ 1000 ∧ givT (tjoin t u) H Q
def spUnt : Sp := fun vs H Q _ => ∃ v p, vs = [v] ∧ PlanAt H v p ∧ givT (tunt p.room) H Q
def spTStep : Sp := fun vs H Q _ => ∃ v p c, vs = [v, .str (tx [c])] ∧ PlanAt H v p ∧ p.Ok ∧ givT (tstep p.room c) H Q
def spTSteps : Sp := fun vs H Q _ => ∃ v p l, vs = [v, .str (tx l)] ∧ PlanAt H v p ∧ p.Ok ∧ (∀ c ∈ l, c = 45 ∨ c ∈ signs p.many) ∧ givT (ttold p.room l) H Q
def spToldSteps : Sp := fun vs H Q _ => ∃ v p l, vs = [v, .str (tx l)] ∧ PlanAt H v p ∧ p.Ok ∧ l.length ≤ 10000 ∧ (∀ c ∈ l, c = 45 ∨ c ∈ signs p.many) ∧ givT (ttold p.room l) H Q
def spDone : Sp := fun vs H Q _ => ∃ v p u t l, vs = [v, u, .str (tx l)] ∧ PlanAt H v p ∧ p.Ok ∧ TripAt H u t ∧ TrOk p.room p.many t ∧ l.length ≤ p.room ∧ (∀ c ∈ l, c ∈ signs p.many) ∧ giv (.str (tx (tby t l))) H Q
end SK
namespace SK
open PySem PySem.Spec PyProof.Rows L2
/-! ### the box of draws -/
structure BoxAt (H : Hp) (p q : Addr) (ns : List Int) (z : Int) : Prop where
  b : H p = some (.lst [.ref q, .int z])
  l : H q = some (.lst (ns.map V.int))
  ne : p ≠ q
/-- all but the box stands -/
def Keep (p q : Addr) (H H' : Hp) : Prop := ∀ b o, H b = some o → b ≠ p → b ≠ q → H' b = some o
theorem Keep.refl (p q : Addr) (H : Hp) : Keep p q H H := fun _ _ h _ _ => h
theorem Keep.trans {p q : Addr} {H H1 H2 : Hp} (a : Keep p q H H1) (b : Keep p q H1 H2) : Keep p q H H2 := fun c o h h1 h2 => b c o (a c o h h1 h2) h1 h2
theorem Keep.of {p q : Addr} {H H' : Hp} (s : Same H H') : Keep p q H H' := fun b o h _ _ => s b o h
theorem BoxAt.mono {H H' : Hp} {p q : Addr} {ns : List Int} {z : Int} (h : BoxAt H p q ns z) (s : Same H H') : BoxAt H' p q ns z := ⟨s _ _ h.b, s _ _ h.l, h.ne⟩
theorem BoxAt.no {H : Hp} {p q : Addr} {ns : List Int} {z : Int} (h : BoxAt H p q ns z) {b : Addr} {o : HO} (e : H b = some o) (ho : ∀ xs, o ≠ .lst xs) : b ≠ p ∧ b ≠ q :=
  ⟨ne_of e h.b (ho _), ne_of e h.l (ho _)⟩
theorem Keep.tup {p q : Addr} {H H' : Hp} {ns : List Int} {z : Int} (k : Keep p q H H') (h : BoxAt H p q ns z) {a : Addr} {xs : List V} (e : H a = some (.tup xs)) : H' a = some (.tup xs) :=
  k a _ e (h.no e fun _ => by intro z; cases z).1 (h.no e fun _ => by intro z; cases z).2
theorem PlanAt.keep {p q : Addr} {H H' : Hp} {ns : List Int} {z : Int} {v : V} {pl : Pl} (h : PlanAt H v pl) (b : BoxAt H p q ns z) (k : Keep p q H H') : PlanAt H' v pl := by
  obtain ⟨a, c, e, h1, h2⟩ := h
  obtain ⟨ob, h3, h4⟩ := h2
  exact ⟨a, c, e, k.tup b h1, ob, h3, k _ _ h4 (b.no h4 fun _ => by intro z; cases z).1 (b.no h4 fun _ => by intro z; cases z).2⟩
theorem TripAt.keep {p q : Addr} {H H' : Hp} {ns : List Int} {z : Int} {v : V} {t : Tr} (h : TripAt H v t) (b : BoxAt H p q ns z) (k : Keep p q H H') : TripAt H' v t := by
  obtain ⟨a, e, h1⟩ := h
  exact ⟨a, e, k.tup b h1⟩
/-- a list made later than the box -/
theorem BoxAt.fresh {H : Hp} {p q D : Addr} {ns : List Int} {z : Int} (h : BoxAt H p q ns z) (e : H D = none) : D ≠ p ∧ D ≠ q := by
  constructor
  · intro x
    subst x
    rw [h.b] at e
    cases e
  · intro x
    subst x
    rw [h.l] at e
    cases e
/-- a draw -/
def spTake : Sp := fun vs H Q _ => ∃ (p q : Addr) (ns : List Int) (z n : Int), vs = [.ref p, .int n] ∧ BoxAt H p q ns z ∧ 0 < n ∧ n < 2 ^ 9000 ∧
  ∀ (r : Int) (ns' : List Int) (z' : Int) (H' : Hp), 0 ≤ r → r < n → BoxAt H' p q ns' z' → Keep p q H H' → Q (.int r) H'
theorem shp : ∀ ns : List Int, SeqAt.shaped (.list (ns.map PyData.int)) = true := by
  have h1 : ∀ ns : List Int, PyData.canLayAll0 (ns.map PyData.int) = true := fun ns => by
    induction ns with
    | nil => rfl
    | cons n r ih =>
      show (PyData.canLay0 (.int n) && PyData.canLayAll0 (r.map PyData.int)) = true
      rw [ih]
      rfl
  have h2 : ∀ ns : List Int, PyData.depthAll (ns.map PyData.int) = 0 := fun ns => by
    induction ns with
    | nil => rfl
    | cons n r ih =>
      show max (PyData.depth (.int n)) (PyData.depthAll (r.map PyData.int)) = 0
      rw [ih]
      rfl
  intro ns
  show (PyData.canLayAll0 (ns.map PyData.int) && decide (PyData.depthAll (ns.map PyData.int) + 1 ≤ 64)) = true
  rw [h1, h2]
  rfl
theorem dpAll {K : PySem.W.Frag} {H : Hp} : ∀ ns : List Int, DpAll K H (ns.map V.int) (ns.map PyData.int)
  | [] => .nil
  | n :: r => .cons (.int n) (dpAll r)
theorem fmod_in {x n : Int} (h : 0 < n) : 0 ≤ x.fmod n ∧ x.fmod n < n := by
  rw [Int.fmod_eq_emod_of_nonneg _ (by omega)]
  exact ⟨Int.emod_nonneg _ (by omega), Int.emod_lt_of_pos _ h⟩
theorem divW {i j : Int} (h : 0 < j) (h2 : j < 2 ^ 9000) : CDivW i j := wide_div (b := 9000) h (by
  have e : ((j.natAbs : Nat) : Int) = j := Int.natAbs_of_nonneg (by omega)
  have e2 : ((j.natAbs : Nat) : Int) < ((2 ^ 9000 : Nat) : Int) := by
    rw [e]
    exact_mod_cast h2
  exact Int.ofNat_lt.mp e2) (by decide) (by decide)
theorem p9 {n : Int} (h : n ≤ 2000000000000000000) : n < 2 ^ 9000 := Int.lt_of_le_of_lt h (by decide +kernel)
theorem at0 {x : V} {r : List V} : atI (x :: r) 0 = some x := atI_nat (j := 0) rfl
theorem ix0 {x : V} {r : List V} : ixN (x :: r).length 0 = some 0 := by
  unfold ixN
  simp
theorem sq0 {x : V} {r : List V} : seqIndex? 0 (x :: r).length = some 0 := by
  unfold seqIndex?
  simp
/-! ### what is alike -/
def Sc : V → Prop
  | .non => True
  | .bl _ => True
  | .int _ => True
  | .str _ => True
  | _ => False
def Alk (H : Hp) : Nat → V → V → Prop
  | 0, _, _ => False
  | n + 1, v, w => (v = w ∧ Sc v) ∨ ∃ (a b : Addr) (xs ys : List V), v = .ref a ∧ w = .ref b ∧ ((H a = some (.tup xs) ∧ H b = some (.tup ys)) ∨ (H a = some (.lst xs) ∧ H b = some (.lst ys))) ∧ xs.length = ys.length ∧ ys.length ≤ 10000 ∧
      ∀ (i : Nat) (x y : V), xs[i]? = some x → ys[i]? = some y → Alk H n x y
theorem Alk.mono {H H' : Hp} (s : Same H H') : ∀ {n : Nat} {v w : V}, Alk H n v w → Alk H' n v w
  | 0, _, _, h => h
  | n + 1, v, w, h => by
    rcases h with h | ⟨a, b, xs, ys, h1, h2, h3, h4, h5, h6⟩
    · exact .inl h
    · refine .inr ⟨a, b, xs, ys, h1, h2, ?_, h4, h5, fun i x y e1 e2 => Alk.mono s (h6 i x y e1 e2)⟩
      rcases h3 with ⟨u1, u2⟩ | ⟨u1, u2⟩
      · exact .inl ⟨s _ _ u1, s _ _ u2⟩
      · exact .inr ⟨s _ _ u1, s _ _ u2⟩
def spAlike (n : Nat) : Sp := fun vs H Q _ => ∃ v w, vs = [v, w] ∧ Alk H n v w ∧ giv (.bl true) H Q
theorem alk_trip {H : Hp} {n : Nat} {v w : V} {t : Tr} (hv : TripAt H v t) (hw : TripAt H w t) : Alk H (n + 2) v w := by
  obtain ⟨a, rfl, ha⟩ := hv
  obtain ⟨b, rfl, hb⟩ := hw
  refine .inr ⟨a, b, _, _, rfl, rfl, .inl ⟨ha, hb⟩, rfl, by show 3 ≤ 10000; decide, fun i x y e1 e2 => ?_⟩
  have e : x = y := Option.some.inj (e1.symm.trans e2)
  subst e
  refine .inl ⟨rfl, ?_⟩
  match i, e1 with
  | 0, e1 => cases e1; trivial
  | 1, e1 => cases e1; trivial
  | 2, e1 => cases e1; trivial
/-! ### the law's own promises -/
def spLStep : Sp := fun vs H Q _ => ∃ v p l c, vs = [v, .str (tx l), .str (tx [c])] ∧ PlanAt H v p ∧ p.Ok ∧ l.length ≤ 1000 ∧ giv (.str (tx (step p.room l c))) H Q
def spLGone : Sp := fun vs H Q _ => ∃ v p l s, vs = [v, .str (tx l), .str (tx s)] ∧ PlanAt H v p ∧ p.Ok ∧ l.length ≤ p.room ∧ giv (.str (tx (gone p.room l s))) H Q
def spLPlan : Sp := fun vs H Q _ => ∃ (p q : Addr) (ns : List Int) (z : Int) (r s : Nat), vs = [.ref p, .int r, .int s] ∧ BoxAt H p q ns z ∧ 1 ≤ r ∧ r ≤ 9 ∧ 1 ≤ s ∧ s ≤ 4 ∧
  ∀ (pl : Pl) (v : V) (ns' : List Int) (z' : Int) (H' : Hp), pl.Ok → pl.room ≤ r → pl.many ≤ s → PlanAt H' v pl → BoxAt H' p q ns' z' → Keep p q H H' → Q v H'
def spLSteps : Sp := fun vs H Q _ => ∃ (p q : Addr) (ns : List Int) (z : Int) (v : V) (pl : Pl) (n : Nat), vs = [.ref p, v, .int n] ∧ BoxAt H p q ns z ∧ PlanAt H v pl ∧ pl.Ok ∧ n ≤ 1000 ∧
  ∀ (l : List Nat) (ns' : List Int) (z' : Int) (H' : Hp), l.length ≤ n → (∀ c ∈ l, c = 45 ∨ c ∈ signs pl.many) → BoxAt H' p q ns' z' → Keep p q H H' → Q (.str (tx l)) H'
def spLSigns : Sp := fun vs H Q _ => ∃ (p q : Addr) (ns : List Int) (z : Int) (v : V) (pl : Pl) (n : Nat), vs = [.ref p, v, .int n] ∧ BoxAt H p q ns z ∧ PlanAt H v pl ∧ pl.Ok ∧ n ≤ 1000 ∧
  ∀ (l : List Nat) (ns' : List Int) (z' : Int) (H' : Hp), l.length ≤ n → (∀ c ∈ l, c ∈ signs pl.many) → BoxAt H' p q ns' z' → Keep p q H H' → Q (.str (tx l)) H'
def spLTriple : Sp := fun vs H Q _ => ∃ (p q : Addr) (ns : List Int) (z : Int) (v : V) (pl : Pl), vs = [.ref p, v] ∧ BoxAt H p q ns z ∧ PlanAt H v pl ∧ pl.Ok ∧
  ∀ (t : Tr) (u : V) (ns' : List Int) (z' : Int) (H' : Hp), TrOk pl.room pl.many t → TripAt H' u t → BoxAt H' p q ns' z' → Keep p q H H' → Q u H'
def spLBy : Sp := fun vs H Q _ => ∃ u t l, vs = [u, .str (tx l)] ∧ TripAt H u t ∧ l.length ≤ 1000 ∧ (t : Tr).l.length ≤ 1000 ∧ giv (.str (tx (tby t l))) H Q
def spLBegun (K : PySem.W.Frag) : Sp := fun vs H Q _ => ∃ (a : Addr) (ns : List Int), vs = [.ref a] ∧ SqL K H a (ns.map V.int) ∧ ns.length ≤ 63 ∧
  ∀ (p q : Addr) (z : Int) (H' : Hp), Same H H' → BoxAt H' p q ns z → H p = none → H q = none → Q (.ref p) H'
/-- all texts of so many signs, in turn; all stacks -/
def lay (many : Nat) : Nat → List (List Nat)
  | 0 => [[]]
  | n + 1 => (lay many n).flatMap fun l => (signs many).map fun c => l ++ [c]
def stk (many : Nat) : Nat → List (List Nat)
  | 0 => [[]]
  | n + 1 => stk many n ++ lay many (n + 1)
def spLStacks : Sp := fun vs H Q _ => ∃ v p, vs = [v] ∧ PlanAt H v p ∧ p.Ok ∧ ∀ (D : Addr) (H' : Hp), Same H H' → H D = none → H' D = some (.lst ((stk p.many p.room).map fun l => V.str (tx l))) → Q (.ref D) H'
def spLaw (K : PySem.W.Frag) : Sp := fun vs H Q _ => ∃ (a : Addr) (ns : List Int), vs = [.ref a] ∧ SqL K H a (ns.map V.int) ∧ ns.length ≤ 63 ∧ ∀ H', Q (.bl true) H'
theorem lay_len (many : Nat) : ∀ n, (lay many n).length = (signs many).length ^ n
  | 0 => rfl
  | n + 1 => by
    have h : ∀ xs : List (List Nat), (xs.flatMap fun l => (signs many).map fun c => l ++ [c]).length = xs.length * (signs many).length := fun xs => by
      induction xs with
      | nil => simp
      | cons x r ih =>
        rw [List.flatMap_cons, List.length_append, ih, List.length_map, List.length_cons, Nat.succ_mul, Nat.add_comm]
    show ((lay many n).flatMap _).length = _
    rw [h, lay_len many n, Nat.pow_succ]
theorem lay_le (many : Nat) {n : Nat} (h : n ≤ 9) : (lay many n).length ≤ 262144 := by
  rw [lay_len]
  have h1 := signs_len many
  calc (signs many).length ^ n ≤ 4 ^ n := Nat.pow_le_pow_left h1 n
    _ ≤ 4 ^ 9 := Nat.pow_le_pow_right (by decide) h
    _ = 262144 := by decide
theorem stk_le (many : Nat) : ∀ {n : Nat}, n ≤ 9 → (stk many n).length ≤ (n + 1) * 262144
  | 0, _ => by show 1 ≤ _; omega
  | n + 1, h => by
    have h1 := stk_le many (n := n) (by omega)
    have h2 := lay_le many h
    show (stk many n ++ lay many (n + 1)).length ≤ _
    rw [List.length_append]
    omega
theorem lay_mem {many : Nat} : ∀ {n : Nat} {l : List Nat}, l ∈ lay many n → l.length = n ∧ ∀ c ∈ l, c ∈ signs many
  | 0, l, h => by
    have e : l = [] := by simpa [lay] using h
    subst e
    exact ⟨rfl, fun c hc => by simp at hc⟩
  | n + 1, l, h => by
    obtain ⟨k, hk, h2⟩ := List.mem_flatMap.mp (show l ∈ (lay many n).flatMap _ from h)
    obtain ⟨c, hc, rfl⟩ := List.mem_map.mp h2
    obtain ⟨h3, h4⟩ := lay_mem hk
    refine ⟨by simp [h3], fun d hd => ?_⟩
    rcases List.mem_append.mp hd with h5 | h5
    · exact h4 d h5
    · have : d = c := by simpa using h5
      subst this
      exact hc
theorem stk_mem {many : Nat} : ∀ {n : Nat} {l : List Nat}, l ∈ stk many n → l.length ≤ n ∧ ∀ c ∈ l, c ∈ signs many
  | 0, l, h => by
    have := lay_mem (many := many) (n := 0) h
    exact ⟨Nat.le_of_eq this.1, this.2⟩
  | n + 1, l, h => by
    rcases List.mem_append.mp (show l ∈ stk many n ++ lay many (n + 1) from h) with h1 | h1
    · have := stk_mem h1
      exact ⟨by omega, this.2⟩
    · have := lay_mem h1
      exact ⟨Nat.le_of_eq this.1, this.2⟩
end SK
/-! works, their triples, their steps; the mathematics -/
namespace SK
/-! ### triples are told apart by what they do -/
theorem len_tby (t : Tr) (x : List Nat) : (tby t x).length = min t.k (x.length - t.g) + t.l.length := by
  simp only [tby]
  rw [List.length_append, len_tp, len_ct]
theorem tr_ext {room many : Nat} {t u : Tr} (a : TrOk room many t) (b : TrOk room many u) {c : Nat} (h : ∀ s, s ≤ room → tby t (List.replicate s c) = tby u (List.replicate s c)) : t = u := by
  have h0 := h 0 (Nat.zero_le _)
  have hl : t.l = u.l := by
    simp only [tby, List.replicate_zero, ct, tp, List.length_nil, List.take_nil, List.drop_nil, List.nil_append] at h0
    exact h0
  have hn : ∀ s, s ≤ room → min t.k (s - t.g) = min u.k (s - u.g) := fun s hs => by
    have e := congrArg List.length (h s hs)
    rw [len_tby, len_tby, List.length_replicate, hl] at e
    omega
  have := a.gk
  have := b.gk
  have ht := a.z
  have hu := b.z
  have hk : t.k = u.k := by
    have e := hn room (Nat.le_refl _)
    omega
  have hg : t.g = u.g := by
    by_cases h1 : t.k = 0
    · have := ht h1
      have := hu (by omega)
      omega
    · have e1 := hn (t.g + 1) (by omega)
      have e2 := hn (u.g + 1) (by omega)
      omega
  cases t
  cases u
  simp only at hl hk hg
  subst hl hk hg
  rfl
theorem tjoin_assoc {room many : Nat} {t u v : Tr} (a : TrOk room many t) (b : TrOk room many u) (c : TrOk room many v) : tjoin (tjoin t u) v = tjoin t (tjoin u v) :=
  tr_ext (c := 97) (tjoin_ok (tjoin_ok a b) c) (tjoin_ok a (tjoin_ok b c)) fun s _ => by rw [tby_join, tby_join, tby_join, tby_join]
theorem tby_len {room many : Nat} {t : Tr} (a : TrOk room many t) (x : List Nat) : (tby t x).length ≤ room := by
  rw [len_tby]
  have := a.kl
  omega
theorem tunt_left {room many : Nat} {t : Tr} (a : TrOk room many t) : tjoin (tunt room) t = t :=
  tr_ext (c := 97) (tjoin_ok tunt_ok a) a fun s hs => by rw [tby_join, tby_unt (by rw [List.length_replicate]; exact hs)]
theorem tunt_right {room many : Nat} {t : Tr} (a : TrOk room many t) : tjoin t (tunt room) = t :=
  tr_ext (c := 97) (tjoin_ok a tunt_ok) a fun s hs => by rw [tby_join, tby_unt (tby_len a _)]
/-- done so often -/
def tpw (room : Nat) (t : Tr) : Nat → Tr
  | 0 => tunt room
  | n + 1 => tjoin (tpw room t n) t
theorem tpw_ok {room many : Nat} {t : Tr} (a : TrOk room many t) : ∀ n, TrOk room many (tpw room t n)
  | 0 => tunt_ok
  | n + 1 => tjoin_ok (tpw_ok a n) a
theorem tpw_add {room many : Nat} {t : Tr} (a : TrOk room many t) (m : Nat) : ∀ n, tpw room t (m + n) = tjoin (tpw room t m) (tpw room t n)
  | 0 => (tunt_right (tpw_ok a m)).symm
  | n + 1 => by
    show tjoin (tpw room t (m + n)) t = tjoin (tpw room t m) (tjoin (tpw room t n) t)
    rw [tpw_add a m n, tjoin_assoc (tpw_ok a m) (tpw_ok a n) a]
theorem tpw_one {room many : Nat} {t : Tr} (a : TrOk room many t) : tpw room t 1 = t := tunt_left a
theorem tpw_two {room many : Nat} {t : Tr} (a : TrOk room many t) : ∀ n, tpw room (tjoin t t) n = tpw room t (2 * n)
  | 0 => rfl
  | n + 1 => by
    have e : 2 * (n + 1) = 2 * n + 2 := by omega
    have e2 : tpw room t 2 = tjoin t t := by
      show tjoin (tpw room t 1) t = _
      rw [tpw_one a]
    rw [e, tpw_add a, e2]
    show tjoin (tpw room (tjoin t t) n) (tjoin t t) = _
    rw [tpw_two a n]
/-- one turn of the doubling -/
theorem tpw_odd {room many : Nat} {t u : Tr} {n : Nat} (a : TrOk room many t) (b : TrOk room many u) (h : n % 2 = 1) : tjoin u (tpw room t n) = tjoin (tjoin u t) (tpw room (tjoin t t) (n / 2)) := by
  have e : n = 1 + 2 * (n / 2) := by omega
  rw [tpw_two a, tjoin_assoc b a (tpw_ok a _)]
  congr 1
  have e3 : tpw room t n = tpw room t (1 + 2 * (n / 2)) := by rw [← e]
  rw [e3, tpw_add a, tpw_one a]
theorem tpw_even {room many : Nat} {t u : Tr} {n : Nat} (a : TrOk room many t) (h : n % 2 = 0) : tjoin u (tpw room t n) = tjoin u (tpw room (tjoin t t) (n / 2)) := by
  rw [tpw_two a]
  have e : n = 2 * (n / 2) := by omega
  have e3 : tpw room t n = tpw room t (2 * (n / 2)) := by rw [← e]
  rw [e3]
/-! ### steps one behind another -/
theorem ttold_from {room many : Nat} {u : Tr} (hr : 1 ≤ room) (b : TrOk room many u) : ∀ (s : List Nat), (∀ c ∈ s, c = 45 ∨ c ∈ signs many) → ∀ t, TrOk room many t → s.foldl (fun t c => tjoin t (tstep room c)) (tjoin u t) = tjoin u (s.foldl (fun t c => tjoin t (tstep room c)) t)
  | [], _, _, _ => rfl
  | c :: r, hs, t, a => by
    have hc := tstep_ok (room := room) (many := many) hr (hs c (List.mem_cons_self ..))
    have ih := ttold_from hr b r (fun d hd => hs d (List.mem_cons_of_mem _ hd)) (tjoin t (tstep room c)) (tjoin_ok a hc)
    show r.foldl _ (tjoin (tjoin u t) (tstep room c)) = tjoin u (r.foldl _ (tjoin t (tstep room c)))
    rw [tjoin_assoc b a hc, ih]
theorem ttold_ok' {room many : Nat} (hr : 1 ≤ room) {s : List Nat} (hs : ∀ c ∈ s, c = 45 ∨ c ∈ signs many) : TrOk room many (ttold room s) := ttold_ok hr s _ tunt_ok hs
theorem ttold_app {room many : Nat} (hr : 1 ≤ room) {a b : List Nat} (ha : ∀ c ∈ a, c = 45 ∨ c ∈ signs many) (hb : ∀ c ∈ b, c = 45 ∨ c ∈ signs many) : ttold room (a ++ b) = tjoin (ttold room a) (ttold room b) := by
  have e : ttold room (a ++ b) = b.foldl (fun t c => tjoin t (tstep room c)) (ttold room a) := by
    unfold ttold
    rw [List.foldl_append]
  have h := ttold_from hr (ttold_ok' hr ha) b hb (tunt room) tunt_ok
  rw [tunt_right (ttold_ok' hr ha)] at h
  rw [e, h]
  rfl
theorem ttold_one {room many c : Nat} (hr : 1 ≤ room) (hc : c = 45 ∨ c ∈ signs many) : ttold room [c] = tstep room c := by
  show tjoin (tunt room) (tstep room c) = _
  exact tunt_left (tstep_ok (many := many) hr hc)
/-! ### works -/
mutual
inductive W where
  | push (c : Nat)
  | pop
  | row (ws : Ws)
  | times (n : Nat) (w : W)
inductive Ws where
  | nil
  | cons (w : W) (r : Ws)
end
mutual
def W.siz : W → Nat
  | .push _ => 1
  | .pop => 1
  | .row ws => 1 + ws.siz
  | .times _ w => 1 + w.siz
def Ws.siz : Ws → Nat
  | .nil => 0
  | .cons w r => w.siz + r.siz
end
mutual
def W.dep : W → Nat
  | .push _ => 1
  | .pop => 1
  | .row ws => 1 + ws.dep
  | .times _ w => 1 + w.dep
def Ws.dep : Ws → Nat
  | .nil => 0
  | .cons w r => max w.dep r.dep
end
mutual
def W.lng : W → List Nat
  | .push c => [c]
  | .pop => [45]
  | .row ws => ws.lng
  | .times n w => (List.replicate n w.lng).flatten
def Ws.lng : Ws → List Nat
  | .nil => []
  | .cons w r => w.lng ++ r.lng
end
mutual
/-- how many steps -/
def W.cnt : W → Nat
  | .push _ => 1
  | .pop => 1
  | .row ws => ws.cnt
  | .times n w => n * w.cnt
def Ws.cnt : Ws → Nat
  | .nil => 0
  | .cons w r => w.cnt + r.cnt
end
mutual
def W.prc (f : Nat → Int) : W → Int
  | .push c => f c
  | .pop => f 45
  | .row ws => ws.prc f
  | .times n w => (n : Int) * w.prc f
def Ws.prc (f : Nat → Int) : Ws → Int
  | .nil => 0
  | .cons w r => w.prc f + r.prc f
end
mutual
def W.tri (room : Nat) : W → Tr
  | .push c => tstep room c
  | .pop => tstep room 45
  | .row ws => ws.tri room (tunt room)
  | .times n w => tpw room (w.tri room) n
def Ws.tri (room : Nat) : Ws → Tr → Tr
  | .nil, t => t
  | .cons w r, t => r.tri room (tjoin t (w.tri room))
end
def Ws.len : Ws → Nat
  | .nil => 0
  | .cons _ r => r.len + 1
mutual
/-- can be: signs of the plan, counts to 10 ** 18 -/
def W.Can (many : Nat) : W → Prop
  | .push c => c ∈ signs many
  | .pop => True
  | .row ws => ws.len ≤ 1000 ∧ ws.Can many
  | .times n w => n ≤ 1000000000000000000 ∧ w.Can many
def Ws.Can (many : Nat) : Ws → Prop
  | .nil => True
  | .cons w r => w.Can many ∧ r.Can many
end
mutual
/-- few in a row, nothing done more often than so -/
def W.Tm (t : Nat) : W → Prop
  | .push _ => True
  | .pop => True
  | .row ws => ws.len ≤ 3 ∧ ws.Tm t
  | .times n w => n ≤ t ∧ w.Tm t
def Ws.Tm (t : Nat) : Ws → Prop
  | .nil => True
  | .cons w r => w.Tm t ∧ r.Tm t
end
mutual
theorem W.cnt_le : ∀ w : W, w.Tm 4 → w.cnt ≤ 4 ^ w.dep
  | .push _, _ => by show 1 ≤ 4 ^ 1; decide
  | .pop, _ => by show 1 ≤ 4 ^ 1; decide
  | .row ws, h => by
    have e := Ws.cnt_le ws h.2
    have e2 : ws.len * 4 ^ ws.dep ≤ 3 * 4 ^ ws.dep := Nat.mul_le_mul_right _ h.1
    show ws.cnt ≤ 4 ^ (1 + ws.dep)
    rw [Nat.pow_add]
    omega
  | .times n w, h => by
    have e := W.cnt_le w h.2
    show n * w.cnt ≤ 4 ^ (1 + w.dep)
    rw [Nat.pow_add]
    exact Nat.mul_le_mul h.1 e
theorem Ws.cnt_le : ∀ ws : Ws, ws.Tm 4 → ws.cnt ≤ ws.len * 4 ^ ws.dep
  | .nil, _ => Nat.zero_le _
  | .cons w r, h => by
    have e1 := W.cnt_le w h.1
    have e2 := Ws.cnt_le r h.2
    show w.cnt + r.cnt ≤ (r.len + 1) * 4 ^ (max w.dep r.dep)
    have p1 : 4 ^ w.dep ≤ 4 ^ (max w.dep r.dep) := Nat.pow_le_pow_right (by decide) (Nat.le_max_left ..)
    have p2 : r.len * 4 ^ r.dep ≤ r.len * 4 ^ (max w.dep r.dep) := Nat.mul_le_mul_left _ (Nat.pow_le_pow_right (by decide) (Nat.le_max_right ..))
    rw [Nat.succ_mul]
    omega
end
mutual
theorem W.siz_pos : ∀ w : W, 1 ≤ w.siz
  | .push _ => Nat.le_refl _
  | .pop => Nat.le_refl _
  | .row ws => by show 1 ≤ 1 + ws.siz; omega
  | .times _ w => by show 1 ≤ 1 + w.siz; omega
end
mutual
theorem W.dep_pos : ∀ w : W, 1 ≤ w.dep
  | .push _ => Nat.le_refl _
  | .pop => Nat.le_refl _
  | .row ws => by show 1 ≤ 1 + ws.dep; omega
  | .times _ w => by show 1 ≤ 1 + w.dep; omega
end
mutual
theorem W.tri_ok {room many : Nat} (hr : 1 ≤ room) : ∀ w : W, w.Can many → TrOk room many (w.tri room)
  | .push c, h => tstep_ok hr (.inr h)
  | .pop, _ => tstep_ok hr (.inl rfl)
  | .row ws, h => Ws.tri_ok hr ws _ h.2 tunt_ok
  | .times n w, h => tpw_ok (W.tri_ok hr w h.2) n
theorem Ws.tri_ok {room many : Nat} (hr : 1 ≤ room) : ∀ (ws : Ws) (t : Tr), ws.Can many → TrOk room many t → TrOk room many (ws.tri room t)
  | .nil, _, _, a => a
  | .cons w r, t, h, a => Ws.tri_ok hr r _ h.2 (tjoin_ok a (W.tri_ok hr w h.1))
end
mutual
theorem W.lng_in {many : Nat} : ∀ w : W, w.Can many → ∀ c ∈ w.lng, c = 45 ∨ c ∈ signs many
  | .push c, h, d, hd => by
    have e : d = c := by simpa [W.lng] using hd
    subst e
    exact .inr h
  | .pop, _, d, hd => .inl (by simpa [W.lng] using hd)
  | .row ws, h, d, hd => Ws.lng_in ws h.2 d hd
  | .times n w, h, d, hd => by
    obtain ⟨l, hl, hd⟩ := List.mem_flatten.mp (show d ∈ (List.replicate n w.lng).flatten from hd)
    have e := List.eq_of_mem_replicate hl
    subst e
    exact W.lng_in w h.2 d hd
theorem Ws.lng_in {many : Nat} : ∀ ws : Ws, ws.Can many → ∀ c ∈ ws.lng, c = 45 ∨ c ∈ signs many
  | .nil, _, d, hd => by simp [Ws.lng] at hd
  | .cons w r, h, d, hd => by
    rcases List.mem_append.mp (show d ∈ w.lng ++ r.lng from hd) with h1 | h1
    · exact W.lng_in w h.1 d h1
    · exact Ws.lng_in r h.2 d h1
end
mutual
theorem W.tri_lng {room many : Nat} (hr : 1 ≤ room) : ∀ w : W, w.Can many → w.tri room = ttold room w.lng
  | .push c, h => (ttold_one (many := many) hr (.inr h)).symm
  | .pop, _ => (ttold_one (many := many) hr (.inl rfl)).symm
  | .row ws, h => by
    have e := Ws.tri_lng (many := many) hr ws (tunt room) h.2 tunt_ok
    rw [tunt_left (ttold_ok' hr (Ws.lng_in ws h.2))] at e
    exact e
  | .times n w, h => by
    have e := W.tri_lng hr w h.2
    have hin := W.lng_in w h.2
    have hok := W.tri_ok (room := room) hr w h.2
    show tpw room (w.tri room) n = ttold room (List.replicate n w.lng).flatten
    have k : ∀ n, tpw room (w.tri room) n = ttold room (List.replicate n w.lng).flatten ∧ ∀ c ∈ (List.replicate n w.lng).flatten, c = 45 ∨ c ∈ signs many := fun n => by
      induction n with
      | zero => exact ⟨rfl, fun c hc => by simp at hc⟩
      | succ n ih =>
        have e2 : (List.replicate (n + 1) w.lng).flatten = (List.replicate n w.lng).flatten ++ w.lng := by
          rw [List.replicate_succ', List.flatten_append]
          simp
        have h2 : ∀ c ∈ (List.replicate (n + 1) w.lng).flatten, c = 45 ∨ c ∈ signs many := fun c hc => by
          rw [e2] at hc
          rcases List.mem_append.mp hc with h3 | h3
          · exact ih.2 c h3
          · exact hin c h3
        refine ⟨?_, h2⟩
        show tjoin (tpw room (w.tri room) n) (w.tri room) = _
        rw [e2, ttold_app (many := many) hr ih.2 hin, ih.1, ← e]
    exact (k n).1
theorem Ws.tri_lng {room many : Nat} (hr : 1 ≤ room) : ∀ (ws : Ws) (t : Tr), ws.Can many → TrOk room many t → ws.tri room t = tjoin t (ttold room ws.lng)
  | .nil, t, _, a => (tunt_right a).symm
  | .cons w r, t, h, a => by
    have e1 := W.tri_lng (many := many) hr w h.1
    have o1 := W.tri_ok (room := room) hr w h.1
    have e2 := Ws.tri_lng hr r (tjoin t (w.tri room)) h.2 (tjoin_ok a o1)
    show r.tri room (tjoin t (w.tri room)) = tjoin t (ttold room (w.lng ++ r.lng))
    rw [e2, ttold_app (many := many) hr (W.lng_in w h.1) (Ws.lng_in r h.2), ← e1, tjoin_assoc a o1 (ttold_ok' hr (Ws.lng_in r h.2))]
end
mutual
theorem W.cnt_lng : ∀ w : W, w.cnt = w.lng.length
  | .push _ => rfl
  | .pop => rfl
  | .row ws => Ws.cnt_lng ws
  | .times n w => by
    have e := W.cnt_lng w
    show n * w.cnt = (List.replicate n w.lng).flatten.length
    rw [List.length_flatten, List.map_replicate, List.sum_replicate_nat, e]
theorem Ws.cnt_lng : ∀ ws : Ws, ws.cnt = ws.lng.length
  | .nil => rfl
  | .cons w r => by
    have e1 := W.cnt_lng w
    have e2 := Ws.cnt_lng r
    show w.cnt + r.cnt = (w.lng ++ r.lng).length
    rw [List.length_append, e1, e2]
end
/-- what steps cost -/
def sprc (f : Nat → Int) (l : List Nat) : Int := (l.map f).sum
theorem sprc_app (f : Nat → Int) (a b : List Nat) : sprc f (a ++ b) = sprc f a + sprc f b := by
  unfold sprc
  rw [List.map_append, List.sum_append]
mutual
theorem W.prc_lng (f : Nat → Int) : ∀ w : W, w.prc f = sprc f w.lng
  | .push c => by simp [W.prc, W.lng, sprc]
  | .pop => by simp [W.prc, W.lng, sprc]
  | .row ws => Ws.prc_lng f ws
  | .times n w => by
    have e := W.prc_lng f w
    show (n : Int) * w.prc f = sprc f (List.replicate n w.lng).flatten
    have k : ∀ n : Nat, (n : Int) * w.prc f = sprc f (List.replicate n w.lng).flatten := fun n => by
      induction n with
      | zero => simp [sprc]
      | succ n ih =>
        rw [List.replicate_succ, List.flatten_cons, sprc_app, ← ih, ← e, Int.natCast_succ, Int.add_mul, Int.one_mul, Int.add_comm]
    exact k n
theorem Ws.prc_lng (f : Nat → Int) : ∀ ws : Ws, ws.prc f = sprc f ws.lng
  | .nil => rfl
  | .cons w r => by
    have e1 := W.prc_lng f w
    have e2 := Ws.prc_lng f r
    show w.prc f + r.prc f = sprc f (w.lng ++ r.lng)
    rw [sprc_app, e1, e2]
end
end SK
namespace SK
open PySem PySem.Spec PyProof.Rows L2
/-! ### two rules: list(text), text * int -/
theorem call_listS {X : Cx} (hc : X.calm = true) : CallR X (.type "list") (fun xs H Q => ∃ z : Str, xs = [.str z] ∧ z.length ≤ sizeLine ∧ ∀ l, H l = none → Q (.ref l) (upd H l (.lst (z.cps.toList.map fun c => V.str ⟨#[c]⟩)))) := by
  intro pins s σ H xs us Q I r h
  obtain ⟨z, rfl, hz, q⟩ := h
  obtain ⟨u, rfl, rx⟩ := vals1 r
  obtain ⟨t, rfl⟩ := rx
  have hn : z.cps.size ≤ sizeLine := hz
  refine PySem.call_list_str (I.ok.hd hc) z t (fun h' tk acc' c' kp e hi => ?_) hn
  have hlen : z.cps.toList.length = z.cps.size := Array.length_toList
  have rv : Vals (z.cps.toList.map fun c => V.str ⟨#[c]⟩) acc'.toList := by
    obtain ⟨h1, h2⟩ := hi
    have hx : ∀ (cs : List Nat) (as : List Value), as.length = cs.length → (∀ (j : Nat) (v : Value), as[j]? = some v → ∃ c u, cs[j]? = some c ∧ v = .str ⟨#[c]⟩ u) → Vals (cs.map fun c => V.str ⟨#[c]⟩) as := by
      intro cs
      induction cs with
      | nil =>
        intro as hl _
        have e : as = [] := List.length_eq_zero_iff.mp hl
        subst e
        exact .nil
      | cons c r ih =>
        intro as hl ha
        cases as with
        | nil => cases hl
        | cons v vs =>
          obtain ⟨c', u, e1, e2⟩ := ha 0 v rfl
          cases e1
          subst e2
          exact .cons ⟨u, rfl⟩ (ih vs (Nat.succ.inj hl) fun j v hj => ha (j + 1) v hj)
    refine hx _ _ ?_ fun j v hj => ?_
    · rw [Array.length_toList, h1, hlen]
    · rw [Array.getElem?_toList] at hj
      obtain ⟨c, u, e1, e2⟩ := h2 j v hj
      exact ⟨c, u, by rw [Array.getElem?_toList]; exact e1, e2⟩
  exact ⟨.ref s.heap.objs.size, _, I.laid (t' := tk) kp (Nat.le_refl _) (show ObjOk X.prog X.w _ h' _ (.lst _) from ⟨by rw [List.length_map, hlen]; exact hn, acc'.toList, c', rv, by simpa using e⟩), rfl, q _ (I.hok.fresh (Nat.le_refl _))⟩
theorem mulOk {z : Str} {n : Nat} (h : z.length * n ≤ 16777216) (hn : n ≤ 1000000000000000000) : MulOk z (n : Int) := by
  have hp : (2 : Int) ^ 63 = 9223372036854775808 := by decide
  refine ⟨?_, fun h1 h2 => ?_, fun h1 h2 => ?_⟩
  · rw [hp]
    rw [Bool.or_eq_false_iff]
    exact ⟨decide_eq_false (by omega), decide_eq_false (by omega)⟩
  · rw [hp]
    have h' : (z.length : Int) * (n : Int) ≤ 16777216 := by
      have h0 := Int.ofNat_le.mpr h
      rw [Int.natCast_mul] at h0
      exact h0
    have h3 : (z.length : Int) ≤ (9223372036854775808 - 1 : Int) / (n : Int) := Int.le_ediv_of_mul_le (by omega) (by omega)
    omega
  · rw [Int.toNat_natCast]
    unfold Builtin.Str.tooLong
    have h4 : z.length * n ≤ sizeLine := h
    simp only [gt_iff_lt, decide_eq_false_iff_not]
    omega
theorem foldl_reps (l : List Nat) : ∀ (n : Nat) (acc : Array Nat), (List.replicate n l.toArray).foldl (· ++ ·) acc = acc ++ ((List.replicate n l).flatten).toArray
  | 0, acc => by simp
  | n + 1, acc => by
    rw [List.replicate_succ, List.foldl_cons, foldl_reps l n, List.replicate_succ, List.flatten_cons]
    simp
theorem mul_tx (l : List Nat) (n : Nat) : Txt.mul (tx l) (n : Int) = tx (List.replicate n l).flatten := by
  unfold Txt.mul
  by_cases h : (n : Int) < 1
  · have e : n = 0 := by omega
    subst e
    rw [if_pos h]
    rfl
  · rw [if_neg h]
    by_cases h2 : ((n : Int) == 1 || (tx l).length == 0) = true
    · rw [if_pos h2]
      rw [Bool.or_eq_true] at h2
      rcases h2 with h2 | h2
      · have e : n = 1 := by
          have := eq_of_beq h2
          omega
        subst e
        simp
      · have e : l = [] := by
          have := eq_of_beq h2
          rw [tx_len] at this
          exact List.length_eq_zero_iff.mp this
        subst e
        simp
    · rw [if_neg h2]
      have e := foldl_reps l n #[]
      show (⟨(List.replicate (n : Int).toNat l.toArray).foldl (· ++ ·) #[]⟩ : Str) = _
      rw [Int.toNat_natCast, e]
      simp [tx]
/-- text * int -/
def rMulS : R2 := fun x y H Q => ∃ (l : List Nat) (n : Nat), x = .str (tx l) ∧ y = .int n ∧ l.length * n ≤ 16777216 ∧ n ≤ 1000000000000000000 ∧ Q (.str (tx (List.replicate n l).flatten)) H
theorem op_mulS {X : Cx} : OpR X (binaryOp .Mult) rMulS := by
  intro pins s σ H x y v u Q I rx ry h
  obtain ⟨l, n, rfl, rfl, hz, hn, q⟩ := h
  obtain ⟨t, rfl⟩ := rx
  obtain ⟨t', rfl⟩ := ry
  refine SB.mul (mulOk (by rw [tx_len]; exact hz) hn) fun t'' k => ?_
  rw [mul_tx]
  exact ⟨.str (tx (List.replicate n l).flatten), H, I.tok _, ⟨_, rfl⟩, q⟩
theorem join_tx (ls : List (List Nat)) : Txt.join (tx []) (ls.map tx) = tx ls.flatten := by
  have h : ∀ (r : List (List Nat)) (acc : Array Nat), (r.map tx).foldl (fun (acc : Array Nat) (p : Str) => acc ++ (tx []).cps ++ p.cps) acc = acc ++ r.flatten.toArray := by
    intro r
    induction r with
    | nil =>
      intro acc
      simp
    | cons x r ih =>
      intro acc
      rw [List.map_cons, List.foldl_cons, ih, List.flatten_cons]
      simp [tx]
  show Builtin.Str.glued (tx []) (ls.map tx) = _
  unfold Builtin.Str.glued
  cases ls with
  | nil => rfl
  | cons x r =>
    have e := h r x.toArray
    show (⟨(r.map tx).foldl (fun (acc : Array Nat) (p : Str) => acc ++ (tx []).cps ++ p.cps) x.toArray⟩ : Str) = _
    rw [e]
    simp [tx]
theorem b_sum : bootBuiltins "sum" = some (.builtin "sum") := by decide +kernel
/-! ### tuples stand -/
structure Tups (H H' : Hp) : Prop where
  t : ∀ (b : Addr) (xs : List V), H b = some (.tup xs) → H' b = some (.tup xs)
  f : ∀ (b : Addr) (o : Obj) (xs : List V), H b = some (.frz o (.tup xs)) → H' b = some (.frz o (.tup xs))
instance {H H' : Hp} : CoeFun (Tups H H') (fun _ => ∀ (b : Addr) (xs : List V), H b = some (.tup xs) → H' b = some (.tup xs)) := ⟨Tups.t⟩
theorem Tups.refl (H : Hp) : Tups H H := ⟨fun _ _ h => h, fun _ _ _ h => h⟩
theorem Tups.of {H H' : Hp} (s : Same H H') : Tups H H' := ⟨fun b xs h => s b _ h, fun b o xs h => s b _ h⟩
theorem Tups.trans {H H1 H2 : Hp} (a : Tups H H1) (b : Tups H1 H2) : Tups H H2 := ⟨fun c xs h => b.t c xs (a.t c xs h), fun c o xs h => b.f c o xs (a.f c o xs h)⟩
theorem Keep.tups {p q : Addr} {H H' : Hp} {ns : List Int} {z : Int} (k : Keep p q H H') (B : BoxAt H p q ns z) : Tups H H' := ⟨fun _ _ h => k.tup B h, fun b o xs h => k _ _ h (B.no h fun _ => by intro z; cases z).1 (B.no h fun _ => by intro z; cases z).2⟩
theorem Tups.lst {H : Hp} {a : Addr} {xs ys : List V} (h : H a = some (.lst xs)) : Tups H (upd H a (.lst ys)) := ⟨fun b zs e => by
  rw [upd_ne (ne_of e h (by intro z; cases z))]
  exact e, fun b o zs e => by
  rw [upd_ne (ne_of e h (by intro z; cases z))]
  exact e⟩
theorem PlanAt.tups {H H' : Hp} {v : V} {p : Pl} (h : PlanAt H v p) (e : Tups H H') : PlanAt H' v p := by
  obtain ⟨a, b, h1, h2, ob, h3, h4⟩ := h
  exact ⟨a, b, h1, e.t _ _ h2, ob, h3, e.f _ _ _ h4⟩
theorem TripAt.tups {H H' : Hp} {v : V} {t : Tr} (h : TripAt H v t) (e : Tups H H') : TripAt H' v t := by
  obtain ⟨a, h1, h2⟩ := h
  exact ⟨a, h1, e _ _ h2⟩
/-! ### works as they stand in the heap -/
mutual
def WAt (H : Hp) : W → V → Prop
  | .push c, v => ∃ a, v = .ref a ∧ H a = some (.tup [.str "push", .str (tx [c])])
  | .pop, v => ∃ a, v = .ref a ∧ H a = some (.tup [.str "pop"])
  | .row ws, v => ∃ a b vs, v = .ref a ∧ H a = some (.tup [.str "row", .ref b]) ∧ H b = some (.tup vs) ∧ WsAt H ws vs
  | .times n w, v => ∃ a u, v = .ref a ∧ H a = some (.tup [.str "times", .int (n : Int), u]) ∧ WAt H w u
def WsAt (H : Hp) : Ws → List V → Prop
  | .nil, vs => vs = []
  | .cons w r, vs => ∃ v s, vs = v :: s ∧ WAt H w v ∧ WsAt H r s
end
mutual
theorem WAt.tups {H H' : Hp} (e : Tups H H') : ∀ {w : W} {v : V}, WAt H w v → WAt H' w v
  | .push c, v, h => by
    obtain ⟨a, h1, h2⟩ := h
    exact ⟨a, h1, e _ _ h2⟩
  | .pop, v, h => by
    obtain ⟨a, h1, h2⟩ := h
    exact ⟨a, h1, e _ _ h2⟩
  | .row ws, v, h => by
    obtain ⟨a, b, vs, h1, h2, h3, h4⟩ := h
    exact ⟨a, b, vs, h1, e _ _ h2, e _ _ h3, WsAt.tups e h4⟩
  | .times n w, v, h => by
    obtain ⟨a, u, h1, h2, h3⟩ := h
    exact ⟨a, u, h1, e _ _ h2, WAt.tups e h3⟩
theorem WsAt.tups {H H' : Hp} (e : Tups H H') : ∀ {ws : Ws} {vs : List V}, WsAt H ws vs → WsAt H' ws vs
  | .nil, vs, h => h
  | .cons w r, vs, h => by
    obtain ⟨v, s, h1, h2, h3⟩ := h
    exact ⟨v, s, h1, WAt.tups e h2, WsAt.tups e h3⟩
end
def Ws.list : Ws → List W
  | .nil => []
  | .cons w r => w :: r.list
theorem Ws.len_list : ∀ ws : Ws, ws.list.length = ws.len
  | .nil => rfl
  | .cons w r => by
    show r.list.length + 1 = r.len + 1
    rw [r.len_list]
theorem WsAt.len {H : Hp} : ∀ {ws : Ws} {vs : List V}, WsAt H ws vs → vs.length = ws.list.length
  | .nil, vs, h => by
    cases h
    rfl
  | .cons w r, vs, h => by
    obtain ⟨v, s, rfl, h2, h3⟩ := h
    show s.length + 1 = r.list.length + 1
    rw [h3.len]
theorem WsAt.get {H : Hp} : ∀ {ws : Ws} {vs : List V}, WsAt H ws vs → ∀ {i : Nat} {x : V}, vs[i]? = some x → ∃ w, ws.list[i]? = some w ∧ WAt H w x
  | .nil, vs, h, i, x, e => by
    cases h
    cases e
  | .cons w r, vs, h, i, x, e => by
    obtain ⟨v, s, rfl, h2, h3⟩ := h
    cases i with
    | zero =>
      cases e
      exact ⟨w, rfl, h2⟩
    | succ i => exact h3.get (i := i) e
theorem Ws.siz_list : ∀ ws : Ws, ws.siz = (ws.list.map W.siz).sum
  | .nil => rfl
  | .cons w r => by
    show w.siz + r.siz = (w.siz :: r.list.map W.siz).sum
    rw [List.sum_cons, r.siz_list]
theorem Ws.cnt_list : ∀ ws : Ws, ws.cnt = (ws.list.map W.cnt).sum
  | .nil => rfl
  | .cons w r => by
    show w.cnt + r.cnt = (w.cnt :: r.list.map W.cnt).sum
    rw [List.sum_cons, r.cnt_list]
theorem Ws.prc_list (f : Nat → Int) : ∀ ws : Ws, ws.prc f = (ws.list.map (W.prc f)).sum
  | .nil => rfl
  | .cons w r => by
    show w.prc f + r.prc f = (w.prc f :: r.list.map (W.prc f)).sum
    rw [List.sum_cons, r.prc_list]
theorem Ws.lng_list : ∀ ws : Ws, ws.lng = (ws.list.map W.lng).flatten
  | .nil => rfl
  | .cons w r => by
    show w.lng ++ r.lng = (w.lng :: r.list.map W.lng).flatten
    rw [List.flatten_cons, r.lng_list]
theorem Ws.tri_list (room : Nat) : ∀ (ws : Ws) (t : Tr), ws.tri room t = ws.list.foldl (fun t w => tjoin t (w.tri room)) t
  | .nil, _ => rfl
  | .cons w r, t => r.tri_list room (tjoin t (w.tri room))
theorem Ws.dep_mem : ∀ {ws : Ws} {w : W}, w ∈ ws.list → w.dep ≤ ws.dep
  | .nil, w, h => by cases h
  | .cons w' r, w, h => by
    show w.dep ≤ max w'.dep r.dep
    rcases List.mem_cons.mp h with h | h
    · subst h
      exact Nat.le_max_left ..
    · exact Nat.le_trans (Ws.dep_mem h) (Nat.le_max_right ..)
theorem Ws.can_mem {many : Nat} : ∀ {ws : Ws} {w : W}, ws.Can many → w ∈ ws.list → w.Can many
  | .nil, w, _, h => by cases h
  | .cons w' r, w, c, h => by
    rcases List.mem_cons.mp h with h | h
    · subst h
      exact c.1
    · exact Ws.can_mem c.2 h
theorem Ws.tm_mem {t : Nat} : ∀ {ws : Ws} {w : W}, ws.Tm t → w ∈ ws.list → w.Tm t
  | .nil, w, _, h => by cases h
  | .cons w' r, w, c, h => by
    rcases List.mem_cons.mp h with h | h
    · subst h
      exact c.1
    · exact Ws.tm_mem c.2 h
theorem Ws.cnt_mem : ∀ {ws : Ws} {w : W}, w ∈ ws.list → w.cnt ≤ ws.cnt
  | .nil, w, h => by cases h
  | .cons w' r, w, h => by
    show w.cnt ≤ w'.cnt + r.cnt
    rcases List.mem_cons.mp h with h | h
    · subst h
      omega
    · have := Ws.cnt_mem h
      omega
theorem s_push : ¬ (("push" : Str) = "pop") := by decide +kernel
theorem s_pu_ro : ¬ (("push" : Str) = "row") := by decide +kernel
theorem s_pu_ti : ¬ (("push" : Str) = "times") := by decide +kernel
theorem s_po_pu : ¬ (("pop" : Str) = "push") := by decide +kernel
theorem s_po_ro : ¬ (("pop" : Str) = "row") := by decide +kernel
theorem s_po_ti : ¬ (("pop" : Str) = "times") := by decide +kernel
theorem s_ro_pu : ¬ (("row" : Str) = "push") := by decide +kernel
theorem s_ro_po : ¬ (("row" : Str) = "pop") := by decide +kernel
theorem s_ro_ti : ¬ (("row" : Str) = "times") := by decide +kernel
theorem s_ti_pu : ¬ (("times" : Str) = "push") := by decide +kernel
theorem s_ti_po : ¬ (("times" : Str) = "pop") := by decide +kernel
theorem s_ti_ro : ¬ (("times" : Str) = "row") := by decide +kernel
theorem vne {a b : Str} (h : ¬ a = b) : ¬ (V.str a = V.str b) := fun z => by
  injection z with z
  exact h z
theorem sign_at {M : Nat} {r : Int} (hm : M ≤ 4) (r0 : 0 ≤ r) (r1 : r < (M : Int)) : ∃ c : Nat, c ∈ signs M ∧ atI (("abcd" : Str).cps.toList) r = some c := by
  obtain ⟨R, rfl⟩ : ∃ R : Nat, r = (R : Int) := ⟨r.toNat, by omega⟩
  have hR : R < M := by omega
  have h3 : R < ([97, 98, 99, 100] : List Nat).length := by show R < 4; omega
  refine ⟨([97, 98, 99, 100] : List Nat)[R], ?_, ?_⟩
  · unfold signs
    exact List.mem_take_iff_getElem.mpr ⟨R, by rw [Nat.lt_min]; exact ⟨hR, h3⟩, rfl⟩
  · exact atI_nat (by rw [s_abcd]; exact List.getElem?_eq_getElem h3)
/-- what a work is made of -/
def W.within : W → Ws
  | .push _ => .nil
  | .pop => .nil
  | .row ws => ws
  | .times _ w => .cons w .nil
structure WOk (many : Nat) (w : W) : Prop where
  can : w.Can many
  siz : w.siz ≤ 60
  dep : w.dep ≤ 8
/-- what a step costs -/
def cst (p : Pl) (c : Nat) : Int := if c = 45 then p.pop else p.pr.getD (c - 97) 0
/-! ### promises -/
def spAlone : Sp := fun vs H Q _ => ∃ (w : W) (v : V) (D : Addr) (many : Nat), vs = [v, .ref D] ∧ WAt H w v ∧ H D = some (.lst ((signs many).map fun c => V.str (tx [c]))) ∧ w.Can many ∧ giv (.bl true) H Q
def spWithin : Sp := fun vs H Q _ => ∃ (w : W) (v : V), vs = [v] ∧ WAt H w v ∧ ∀ (H' : Hp) (u : Addr) (xs : List V), Same H H' → H' u = some (.tup xs) → WsAt H' w.within xs → Q (.ref u) H'
def spChWork : Sp := fun vs H Q _ => ∃ v p u w, vs = [v, u] ∧ PlanAt H v p ∧ p.Ok ∧ WAt H w u ∧ WOk p.many w ∧ giv .non H Q
def spTri (n : Nat) : Sp := fun vs H Q _ => ∃ v p u w, vs = [v, u] ∧ PlanAt H v p ∧ p.Ok ∧ WAt H w u ∧ w.Can p.many ∧ w.dep ≤ n ∧ givT (w.tri p.room) H Q
def spPower : Sp := fun vs H Q _ => ∃ (v : V) (p : Pl) (u : V) (t : Tr) (n : Nat), vs = [v, u, .int n] ∧ PlanAt H v p ∧ p.Ok ∧ TripAt H u t ∧ TrOk p.room p.many t ∧ n ≤ 1000000000000000000 ∧ givT (tpw p.room t n) H Q
def spTold : Sp := fun vs H Q _ => ∃ v p u w, vs = [v, u] ∧ PlanAt H v p ∧ p.Ok ∧ WAt H w u ∧ WOk p.many w ∧ givT (w.tri p.room) H Q
def spRun : Sp := fun vs H Q _ => ∃ v p u w l, vs = [v, u, .str (tx l)] ∧ PlanAt H v p ∧ p.Ok ∧ WAt H w u ∧ WOk p.many w ∧ l.length ≤ p.room ∧ (∀ c ∈ l, c ∈ signs p.many) ∧ giv (.str (tx (tby (w.tri p.room) l))) H Q
def spPStep : Sp := fun vs H Q _ => ∃ v p c, vs = [v, .str (tx [c])] ∧ PlanAt H v p ∧ p.Ok ∧ (c = 45 ∨ c ∈ signs p.many) ∧ giv (.int (cst p c)) H Q
def spPWork (n : Nat) : Sp := fun vs H Q _ => ∃ v p u w, vs = [v, u] ∧ PlanAt H v p ∧ p.Ok ∧ WAt H w u ∧ w.Can p.many ∧ w.dep ≤ n ∧ giv (.int (w.prc (cst p))) H Q
def spCost : Sp := fun vs H Q _ => ∃ v p u w, vs = [v, u] ∧ PlanAt H v p ∧ p.Ok ∧ WAt H w u ∧ WOk p.many w ∧ giv (.int (w.prc (cst p))) H Q
def spLTuples (n : Nat) : Sp := fun vs H Q _ => ∃ u w many, vs = [u] ∧ WAt H w u ∧ (w : W).Can many ∧ w.dep ≤ n ∧ giv (.int ((w : W).siz : Int)) H Q
def spLCount (n : Nat) : Sp := fun vs H Q _ => ∃ u w many, vs = [u] ∧ WAt H w u ∧ (w : W).Can many ∧ w.dep ≤ n ∧ giv (.int ((w : W).cnt : Int)) H Q
def spLLong (n : Nat) : Sp := fun vs H Q _ => ∃ u w many, vs = [u] ∧ WAt H w u ∧ (w : W).Can many ∧ w.dep ≤ n ∧ w.Tm 4 ∧ w.dep ≤ 8 ∧ giv (.str (tx w.lng)) H Q
def spLWork (n : Nat) : Sp := fun vs H Q _ => ∃ (p q : Addr) (ns : List Int) (z : Int) (v : V) (pl : Pl) (m tm : Nat), vs = [.ref p, v, .int (m : Int), .int (tm : Int)] ∧ BoxAt H p q ns z ∧ PlanAt H v pl ∧ pl.Ok ∧ 1 ≤ m ∧ m ≤ n ∧ tm ≤ 1000000000000000000 ∧
  ∀ (w : W) (u : V) (ns' : List Int) (z' : Int) (H' : Hp), w.Can pl.many → w.dep ≤ m → w.Tm tm → WAt H' w u → BoxAt H' p q ns' z' → Keep p q H H' → Q u H'
def spLSome (n : Nat) : Sp := fun vs H Q _ => ∃ (p q : Addr) (ns : List Int) (z : Int) (v : V) (pl : Pl) (m tm lim : Nat), vs = [.ref p, v, .int (m : Int), .int (tm : Int), .int (lim : Int)] ∧ BoxAt H p q ns z ∧ PlanAt H v pl ∧ pl.Ok ∧ 1 ≤ m ∧ m ≤ n ∧ 2 ≤ m ∧ 2 ≤ tm ∧ tm ≤ 1000000000000000000 ∧ 2 ≤ lim ∧
  ∀ (w : W) (u : V) (ns' : List Int) (z' : Int) (H' : Hp), w.Can pl.many → w.dep ≤ m → w.siz ≤ lim → w.Tm tm → WAt H' w u → BoxAt H' p q ns' z' → Keep p q H H' → Q u H'
def ofL : List W → Ws
  | [] => .nil
  | w :: r => .cons w (ofL r)
theorem ofL_len : ∀ l : List W, (ofL l).len = l.length
  | [] => rfl
  | w :: r => by
    show (ofL r).len + 1 = r.length + 1
    rw [ofL_len r]
theorem ofL_can {many : Nat} : ∀ l : List W, (∀ w ∈ l, w.Can many) → (ofL l).Can many
  | [], _ => trivial
  | w :: r, h => ⟨h w (List.mem_cons_self ..), ofL_can r fun x hx => h x (List.mem_cons_of_mem _ hx)⟩
theorem ofL_tm {t : Nat} : ∀ l : List W, (∀ w ∈ l, w.Tm t) → (ofL l).Tm t
  | [], _ => trivial
  | w :: r, h => ⟨h w (List.mem_cons_self ..), ofL_tm r fun x hx => h x (List.mem_cons_of_mem _ hx)⟩
theorem ofL_dep {n : Nat} : ∀ l : List W, (∀ w ∈ l, w.dep ≤ n) → (ofL l).dep ≤ n
  | [], _ => Nat.zero_le _
  | w :: r, h => by
    show max w.dep (ofL r).dep ≤ n
    exact Nat.max_le.mpr ⟨h w (List.mem_cons_self ..), ofL_dep r fun x hx => h x (List.mem_cons_of_mem _ hx)⟩
/-- works and their values, one by one -/
def W2 (H : Hp) : List W → List V → Prop
  | [], vs => vs = []
  | w :: r, vs => ∃ v s, vs = v :: s ∧ WAt H w v ∧ W2 H r s
theorem W2.ws {H : Hp} : ∀ {l : List W} {vs : List V}, W2 H l vs → WsAt H (ofL l) vs
  | [], _, h => h
  | _ :: _, _, h => by
    obtain ⟨v, s, h1, h2, h3⟩ := h
    exact ⟨v, s, h1, h2, h3.ws⟩
theorem W2.tups {H H' : Hp} (e : Tups H H') : ∀ {l : List W} {vs : List V}, W2 H l vs → W2 H' l vs
  | [], _, h => h
  | _ :: _, _, h => by
    obtain ⟨v, s, h1, h2, h3⟩ := h
    exact ⟨v, s, h1, h2.tups e, h3.tups e⟩
theorem W2.snoc {H : Hp} {w : W} {u : V} (hu : WAt H w u) : ∀ {l : List W} {vs : List V}, W2 H l vs → W2 H (l ++ [w]) (vs ++ [u])
  | [], _, h => by
    cases h
    exact ⟨u, [], rfl, hu, rfl⟩
  | _ :: _, _, h => by
    obtain ⟨v, s, rfl, h2, h3⟩ := h
    exact ⟨v, s ++ [u], rfl, h2, h3.snoc hu⟩
theorem W2.len {H : Hp} : ∀ {l : List W} {vs : List V}, W2 H l vs → vs.length = l.length
  | [], _, h => by
    cases h
    rfl
  | _ :: r, _, h => by
    obtain ⟨v, s, rfl, h2, h3⟩ := h
    show s.length + 1 = r.length + 1
    rw [h3.len]
theorem tx1_len : ∀ l : List Nat, ((l.map fun c => tx [c]).map (·.length)).sum = l.length
  | [] => rfl
  | c :: r => by
    show 1 + ((r.map fun c => tx [c]).map (·.length)).sum = r.length + 1
    rw [tx1_len r, Nat.add_comm]
theorem flat1 : ∀ l : List Nat, (l.map fun c => [c]).flatten = l
  | [] => rfl
  | c :: r => by
    show c :: (r.map fun c => [c]).flatten = c :: r
    rw [flat1 r]
end SK
namespace SK
theorem tpw_comm {room many : Nat} {t : Tr} (a : TrOk room many t) (n : Nat) : tpw room t (n + 1) = tjoin t (tpw room t n) := by
  have e := tpw_add a 1 n
  rw [tpw_one a, Nat.add_comm] at e
  exact e
/-- where nothing stays, whatever goes ahead -/
theorem tjoin_const {room many : Nat} {t u : Tr} (a : TrOk room many t) (b : TrOk room many u) (h : u.k = 0) : tjoin t u = u := by
  have hc : ∀ x, tby u x = u.l := fun x => by
    simp only [tby, h, tp_zero, List.nil_append]
  exact tr_ext (c := 97) (tjoin_ok a b) b fun s _ => by rw [tby_join, hc, hc]
theorem tidy_eq {g k : Nat} {l : List Nat} (h : k ≠ 0) : tidy g k l = ⟨g, k, l⟩ := by
  unfold tidy
  rw [if_neg h]
theorem tidy_k (g k : Nat) (l : List Nat) : (tidy g k l).k = k := by
  unfold tidy
  by_cases h : k = 0
  · rw [if_pos h]
    exact h.symm
  · rw [if_neg h]
theorem tjoin_k (t u : Tr) : (tjoin t u).k = min (t.k - (u.g - t.l.length)) (u.k - (ct u.g t.l).length) := tidy_k _ _ _
theorem tpw_k_le {room many : Nat} {t : Tr} (a : TrOk room many t) (n : Nat) : (tpw room t (n + 1)).k ≤ (tpw room t n).k := by
  show (tjoin (tpw room t n) t).k ≤ _
  rw [tjoin_k]
  omega
theorem tpw_same {room many : Nat} {t : Tr} (a : TrOk room many t) {n : Nat} (h : (tpw room t (n + 1)).k = (tpw room t n).k) (h0 : (tpw room t n).k ≠ 0) : tpw room t (n + 1) = tpw room t n := by
  have b := tpw_ok a n
  have e1 : tpw room t (n + 1) = tjoin (tpw room t n) t := rfl
  have e2 := tpw_comm a n
  generalize tpw room t n = u at h h0 b e1 e2
  have k1 : (tjoin u t).k = u.k := by rw [← e1]; exact h
  have k2 : (tjoin t u).k = u.k := by rw [← e2]; exact h
  rw [tjoin_k, len_ct] at k1 k2
  have g1 : t.g - u.l.length = 0 := by omega
  have g2 : t.l.length - u.g = 0 := by omega
  have x1 : tjoin u t = ⟨u.g, u.k, tp t.k (ct t.g u.l) ++ t.l⟩ := by
    unfold tjoin
    rw [tidy_eq (by rw [len_ct]; omega)]
    have e3 : min (u.k - (t.g - u.l.length)) (t.k - (ct t.g u.l).length) = u.k := by rw [len_ct]; exact k1
    rw [e3, g1, Nat.add_zero]
  have x2 : (tjoin t u).l = u.l := by
    unfold tjoin
    rw [tidy_eq (by rw [len_ct]; omega)]
    have e3 : ct u.g t.l = [] := ct_all (by omega)
    show tp u.k (ct u.g t.l) ++ u.l = u.l
    rw [e3]
    simp [tp]
  have x3 : tp t.k (ct t.g u.l) ++ t.l = u.l := by
    have e4 : tjoin u t = tjoin t u := e1.symm.trans e2
    rw [← e4, x1] at x2
    exact x2
  rw [e1, x1, x3]
theorem tpw_low {room many : Nat} {t : Tr} (a : TrOk room many t) (hr : 1 ≤ room) : ∀ n, 1 ≤ n → tpw room t (n + 1) = tpw room t n ∨ (tpw room t n).k + n ≤ room
  | 0, h => absurd h (by omega)
  | 1, _ => by
    by_cases h : t.k = room
    · refine .inl ?_
      have hg : t.g = 0 := by have := a.gk; omega
      have hl : t.l = [] := List.length_eq_zero_iff.mp (by have := a.kl; omega)
      have e : t = tunt room := by
        cases t
        simp only at h hg hl
        subst h hg hl
        rfl
      show tjoin (tpw room t 1) t = tpw room t 1
      rw [tpw_one a]
      have e5 : tjoin (tunt room) t = t := tunt_left a
      rw [← e] at e5
      exact e5
    · refine .inr ?_
      rw [tpw_one a]
      have := a.gk
      omega
  | n + 2, _ => by
    rcases tpw_low a hr (n + 1) (by omega) with h | h
    · refine .inl ?_
      show tjoin (tpw room t (n + 2)) t = tpw room t (n + 2)
      have h' : tpw room t (n + 2) = tpw room t (n + 1) := h
      rw [h']
      exact h'
    · have hle := tpw_k_le a (n + 1)
      have hle' : (tpw room t (n + 2)).k ≤ (tpw room t (n + 1)).k := hle
      by_cases h0 : (tpw room t (n + 1)).k = 0
      · refine .inl ?_
        have c1 : tpw room t (n + 2) = tpw room t (n + 1) := by
          rw [tpw_comm a (n + 1)]
          exact tjoin_const a (tpw_ok a _) h0
        show tjoin (tpw room t (n + 2)) t = tpw room t (n + 2)
        rw [c1]
        exact c1
      · by_cases h1 : (tpw room t (n + 2)).k = (tpw room t (n + 1)).k
        · refine .inl ?_
          have c1 : tpw room t (n + 2) = tpw room t (n + 1) := tpw_same a h1 h0
          show tjoin (tpw room t (n + 2)) t = tpw room t (n + 2)
          rw [c1]
          exact c1
        · exact .inr (by omega)
theorem tpw_next {room many : Nat} {t : Tr} (a : TrOk room many t) (hr : 1 ≤ room) {n : Nat} (h : room ≤ n) : tpw room t (n + 1) = tpw room t n := by
  rcases tpw_low a hr n (by omega) with e | e
  · exact e
  · rw [tpw_comm a n]
    exact tjoin_const a (tpw_ok a _) (by omega)
/-- from as many as there's room on -/
theorem tpw_far {room many : Nat} {t : Tr} (a : TrOk room many t) (hr : 1 ≤ room) : ∀ m, tpw room t (room + m) = tpw room t room
  | 0 => rfl
  | m + 1 => by
    have e := tpw_next a hr (n := room + m) (by omega)
    rw [tpw_far a hr m] at e
    exact e
theorem tpw_mul {room many : Nat} {t : Tr} (a : TrOk room many t) (m : Nat) : ∀ n, tpw room (tpw room t m) n = tpw room t (m * n)
  | 0 => rfl
  | n + 1 => by
    show tjoin (tpw room (tpw room t m) n) (tpw room t m) = _
    rw [tpw_mul a m n, Nat.mul_succ, tpw_add a]
end SK
namespace SK
open PySem PySem.Spec PyProof.Rows L2
/-! ### triples compared -/
def trD (t : Tr) : PyData := .tuple [.int t.g, .int t.k, .str (tx t.l)]
theorem dp_trip {K : PySem.W.Frag} {H : Hp} {v : V} {t : Tr} (h : TripAt H v t) : Dp K H v (trD t) := by
  obtain ⟨a, rfl, ha⟩ := h
  exact .tup (SqT.of ha) (.cons (.int _) (.cons (.int _) (.cons (.str _) .nil)))
theorem signs_lt {many c : Nat} (h : c ∈ signs many) : c < 1114112 := by
  have h4 := List.mem_of_mem_take (show c ∈ List.take many [97, 98, 99, 100] from h)
  have : c = 97 ∨ c = 98 ∨ c = 99 ∨ c = 100 := by simpa using h4
  omega
theorem strOk_tx {l : List Nat} (h : ∀ c ∈ l, c < 1114112) : PyData.strOk (tx l) = true := by
  show l.toArray.all (· < 0x110000) = true
  rw [Array.all_eq_true']
  intro c hc
  exact decide_eq_true (h c (by simpa using hc))
theorem trD_can {room many : Nat} {t : Tr} (a : TrOk room many t) : PyData.canLay0 (trD t) = true := by
  show (true && (true && (PyData.strOk (tx t.l) && true))) = true
  rw [strOk_tx fun c hc => signs_lt (a.s c hc)]
  rfl
theorem trD_shaped {room many : Nat} {t : Tr} (a : TrOk room many t) : SeqAt.shaped (trD t) = true := by
  show (PyData.canLay0 (trD t) && decide (PyData.depth (trD t) ≤ 64)) = true
  rw [trD_can a]
  rfl
theorem trD_eqv {room many : Nat} {t : Tr} (a : TrOk room many t) : PyData.eqv (trD t) (trD t) = true := SeqAt.eqv_refl _ (trD_can a)
/-- t != u of the same triple -/
theorem ne_trip {K : PySem.W.Frag} {H : Hp} {Q : VK} {v u : V} {room many : Nat} {t : Tr} (a : TrOk room many t) (hv : TripAt H v t) (hu : TripAt H u t) (q : Q (.bl false) H) : rNeD K v u H Q := by
  refine ⟨trD t, trD t, dp_trip hv, dp_trip hu, trD_shaped a, trD_shaped a, ?_⟩
  rw [trD_eqv a]
  exact q
def spTimes : Sp := fun vs H Q _ => ∃ n : Nat, vs = [.int (n : Int)] ∧ n ≤ 1000000000000000000 ∧ giv .non H Q
def spJoined : Sp := fun vs H Q _ => ∃ v p a b t u, vs = [v, a, b] ∧ PlanAt H v p ∧ p.Ok ∧ TripAt H a t ∧ TrOk p.room p.many t ∧ TripAt H b u ∧ TrOk p.room p.many u ∧ givT (tjoin t u) H Q
end SK
namespace SK
open PySem PySem.Spec PyProof.Rows L2
/-! ### the least stack that parts two triples -/
theorem tp_min {k j : Nat} {l : List Nat} (h : min k l.length = min j l.length) : tp k l = tp j l := by
  unfold tp
  congr 1
  omega
theorem same_upto {room many : Nat} {t u : Tr} (a : TrOk room many t) (b : TrOk room many u) {c : Nat} (st : List Nat) (h : ∀ s, s ≤ st.length → tby t (List.replicate s c) = tby u (List.replicate s c)) : tby t st = tby u st := by
  have h0 := h 0 (Nat.zero_le _)
  have hl : t.l = u.l := by
    simp only [tby, List.replicate_zero, ct, tp, List.length_nil, List.take_nil, List.drop_nil, List.nil_append] at h0
    exact h0
  have hn : ∀ s, s ≤ st.length → min t.k (s - t.g) = min u.k (s - u.g) := fun s hs => by
    have e := congrArg List.length (h s hs)
    rw [len_tby, len_tby, List.length_replicate, hl] at e
    omega
  have hv := hn st.length (Nat.le_refl _)
  simp only [tby]
  rw [hl]
  congr 1
  by_cases z : min t.k (st.length - t.g) = 0
  · have e1 : tp t.k (ct t.g st) = [] := List.length_eq_zero_iff.mp (by rw [len_tp, len_ct]; exact z)
    have e2 : tp u.k (ct u.g st) = [] := List.length_eq_zero_iff.mp (by rw [len_tp, len_ct]; omega)
    rw [e1, e2]
  · have x1 := hn (t.g + 1) (by omega)
    have x2 := hn (u.g + 1) (by omega)
    have hg : t.g = u.g := by omega
    rw [hg]
    refine tp_min ?_
    rw [len_ct]
    rw [hg] at hv
    exact hv
theorem rep_lay {many : Nat} (hm : 97 ∈ signs many) : ∀ n, ∃ r, lay many n = List.replicate n 97 :: r
  | 0 => ⟨[], rfl⟩
  | n + 1 => by
    obtain ⟨r, e⟩ := rep_lay hm n
    have hs : ∃ s, signs many = 97 :: s := by
      cases many with
      | zero => simp [signs] at hm
      | succ m => exact ⟨_, List.take_succ_cons ..⟩
    obtain ⟨s, es⟩ := hs
    refine ⟨(s.map fun c => List.replicate n 97 ++ [c]) ++ r.flatMap fun l => (signs many).map fun c => l ++ [c], ?_⟩
    show (lay many n).flatMap (fun l => (signs many).map fun c => l ++ [c]) = _
    rw [e, List.flatMap_cons, es, List.map_cons, List.cons_append, List.replicate_succ']
theorem rep_stk {many : Nat} (hm : 97 ∈ signs many) : ∀ {n s : Nat}, s ≤ n → List.replicate s 97 ∈ stk many n
  | 0, s, h => by
    have e : s = 0 := by omega
    subst e
    exact List.mem_singleton.mpr rfl
  | n + 1, s, h => by
    by_cases e : s = n + 1
    · subst e
      obtain ⟨r, er⟩ := rep_lay hm (n + 1)
      refine List.mem_append.mpr (.inr ?_)
      rw [er]
      exact List.mem_cons_self ..
    · exact List.mem_append.mpr (.inl (rep_stk hm (by omega)))
/-- the stacks ahead of the least of a size -/
theorem stk_split {many : Nat} (hm : 97 ∈ signs many) : ∀ {n s : Nat}, s ≤ n → ∃ a b, stk many n = a ++ List.replicate s 97 :: b ∧ ∀ x ∈ a, x.length < s
  | 0, s, h => by
    have e : s = 0 := by omega
    subst e
    exact ⟨[], [], rfl, fun x hx => by simp at hx⟩
  | n + 1, s, h => by
    by_cases e : s = n + 1
    · subst e
      obtain ⟨r, er⟩ := rep_lay hm (n + 1)
      refine ⟨stk many n, r, ?_, fun x hx => Nat.lt_succ_of_le (stk_mem hx).1⟩
      show stk many n ++ lay many (n + 1) = _
      rw [er]
    · obtain ⟨a, b, e1, e2⟩ := stk_split hm (n := n) (s := s) (by omega)
      refine ⟨a, b ++ lay many (n + 1), ?_, e2⟩
      show stk many n ++ lay many (n + 1) = _
      rw [e1]
      simp
def Unl (t u : Tr) (st : List Nat) : Bool := decide (tby t st ≠ tby u st)
theorem unl_first {room many : Nat} {t u : Tr} (a : TrOk room many t) (b : TrOk room many u) (hm : 97 ∈ signs many) {s : Nat} (hs : s ≤ room) (h1 : tby t (List.replicate s 97) ≠ tby u (List.replicate s 97))
    (h2 : ∀ s', s' < s → tby t (List.replicate s' 97) = tby u (List.replicate s' 97)) : ∃ r, (stk many room).filter (Unl t u) = List.replicate s 97 :: r := by
  obtain ⟨x, y, e1, e2⟩ := stk_split hm hs
  refine ⟨y.filter (Unl t u), ?_⟩
  rw [e1, List.filter_append]
  have e3 : x.filter (Unl t u) = [] := by
    rw [List.filter_eq_nil_iff]
    intro st hst
    have e4 := same_upto a b (c := 97) st fun s' hs' => h2 s' (by have := e2 st hst; omega)
    simp [Unl, e4]
  rw [e3, List.nil_append, List.filter_cons_of_pos]
  exact decide_eq_true h1
theorem unl_none {room many : Nat} {t u : Tr} (a : TrOk room many t) (b : TrOk room many u) (h : ∀ s, s ≤ room → tby t (List.replicate s 97) = tby u (List.replicate s 97)) : t = u := tr_ext (c := 97) a b h
theorem unl_nil {room many : Nat} {t u : Tr} (a : TrOk room many t) (b : TrOk room many u) (hm : 97 ∈ signs many) : (stk many room).filter (Unl t u) = [] ↔ t = u := by
  constructor
  · intro h
    refine tr_ext (c := 97) a b fun s hs => ?_
    by_cases e : tby t (List.replicate s 97) = tby u (List.replicate s 97)
    · exact e
    · have h2 := List.filter_eq_nil_iff.mp h _ (rep_stk hm hs)
      exact absurd (decide_eq_true e) h2
  · intro h
    subst h
    rw [List.filter_eq_nil_iff]
    intro st _
    simp [Unl]
/-! ### values compared -/
theorem eqv_trD {t u : Tr} : PyData.eqv (trD t) (trD u) = true ↔ t = u := by
  have e : PyData.eqv (trD t) (trD u) = (((t.g : Int) == (u.g : Int)) && (((t.k : Int) == (u.k : Int)) && ((tx t.l == tx u.l) && true))) := by
    simp [trD, PyData.eqv, PyData.eqvAll]
  rw [e]
  constructor
  · intro h
    simp only [Bool.and_eq_true, beq_iff_eq, Bool.and_true] at h
    obtain ⟨h1, h2, h3⟩ := h
    have h4 := str_inj.mp h3
    cases t
    cases u
    simp only at h1 h2 h4
    have h1' := Int.ofNat.inj h1
    have h2' := Int.ofNat.inj h2
    subst h1' h2' h4
    rfl
  · intro h
    subst h
    simp
theorem dpTx {K : PySem.W.Frag} {H : Hp} : ∀ ls : List (List Nat), DpAll K H (ls.map fun l => V.str (tx l)) (ls.map fun l => PyData.str (tx l))
  | [] => .nil
  | l :: r => .cons (.str _) (dpTx r)
theorem shTx : ∀ ls : List (List Nat), (∀ l ∈ ls, ∀ c ∈ l, c < 1114112) → SeqAt.shaped (.list (ls.map fun l => PyData.str (tx l))) = true := fun ls h => by
  have h1 : ∀ ls : List (List Nat), (∀ l ∈ ls, ∀ c ∈ l, c < 1114112) → PyData.canLayAll0 (ls.map fun l => PyData.str (tx l)) = true := fun ls h => by
    induction ls with
    | nil => rfl
    | cons l r ih =>
      show (PyData.strOk (tx l) && PyData.canLayAll0 (r.map _)) = true
      rw [strOk_tx (h l (List.mem_cons_self ..)), ih fun x hx => h x (List.mem_cons_of_mem _ hx)]
      rfl
  have h2 : ∀ ls : List (List Nat), PyData.depthAll (ls.map fun l => PyData.str (tx l)) = 0 := fun ls => by
    induction ls with
    | nil => rfl
    | cons l r ih =>
      show max 0 (PyData.depthAll (r.map _)) = 0
      rw [ih]
      rfl
  show (PyData.canLayAll0 _ && decide (PyData.depthAll _ + 1 ≤ 64)) = true
  rw [h1 ls h, h2]
  rfl
theorem eqNil {ls : List (List Nat)} : PyData.eqv (.list (ls.map fun l => PyData.str (tx l))) (.list []) = decide (ls = []) := by
  cases ls with
  | nil => rfl
  | cons l r =>
    show PyData.eqvAll _ _ = _
    simp [PyData.eqvAll]
/-- a list of texts == [] -/
theorem eq_nil {K : PySem.W.Frag} {H : Hp} {Q : VK} {a b : Addr} {ls : List (List Nat)} (ha : H a = some (.lst (ls.map fun l => V.str (tx l)))) (hb : H b = some (.lst [])) (hc : ∀ l ∈ ls, ∀ c ∈ l, c < 1114112) (q : Q (.bl (decide (ls = []))) H) : rEqD K (.ref a) (.ref b) H Q := by
  refine ⟨_, .list [], .lst (SqL.of ha) (dpTx ls), .lst (SqL.of hb) .nil, shTx ls hc, rfl, ?_⟩
  rw [eqNil]
  exact q
theorem ne_nil {K : PySem.W.Frag} {H : Hp} {Q : VK} {a b : Addr} {ls : List (List Nat)} (ha : H a = some (.lst (ls.map fun l => V.str (tx l)))) (hb : H b = some (.lst [])) (hc : ∀ l ∈ ls, ∀ c ∈ l, c < 1114112) (q : Q (.bl (!decide (ls = []))) H) : rNeD K (.ref a) (.ref b) H Q := by
  refine ⟨_, .list [], .lst (SqL.of ha) (dpTx ls), .lst (SqL.of hb) .nil, shTx ls hc, rfl, ?_⟩
  rw [eqNil]
  exact q
theorem eq_trip {K : PySem.W.Frag} {H : Hp} {Q : VK} {v u : V} {room many : Nat} {t s : Tr} (a : TrOk room many t) (b : TrOk room many s) (hv : TripAt H v t) (hu : TripAt H u s) (q : ∀ k : Bool, (k = true ↔ t = s) → Q (.bl k) H) : rEqD K v u H Q :=
  ⟨trD t, trD s, dp_trip hv, dp_trip hu, trD_shaped a, trD_shaped b, q _ eqv_trD⟩
/-! ### promises -/
def spAlikeW : Sp := fun vs H Q _ => ∃ v p a b t u, vs = [v, a, b] ∧ PlanAt H v p ∧ p.Ok ∧ WAt H t a ∧ WOk p.many t ∧ WAt H u b ∧ WOk p.many u ∧ ∀ (k : Bool) (H' : Hp), Same H H' → (k = true ↔ t.tri p.room = u.tri p.room) → Q (.bl k) H'
def spParting : Sp := fun vs H Q _ => ∃ v p a b t u, vs = [v, a, b] ∧ PlanAt H v p ∧ p.Ok ∧ WAt H t a ∧ WOk p.many t ∧ WAt H u b ∧ WOk p.many u ∧
  (∀ (s : Nat) (H' : Hp), Same H H' → s ≤ p.room → tby (t.tri p.room) (List.replicate s 97) ≠ tby (u.tri p.room) (List.replicate s 97) → (∀ s', s' < s → tby (t.tri p.room) (List.replicate s' 97) = tby (u.tri p.room) (List.replicate s' 97)) → Q (.str (tx (List.replicate s 97))) H') ∧
  (∀ H', Same H H' → (∀ s, s ≤ p.room → tby (t.tri p.room) (List.replicate s 97) = tby (u.tri p.room) (List.replicate s 97)) → Q .non H')
def asWork (s : List Nat) : List W := s.map fun c => if c = 45 then .pop else .push c
def spAsWork : Sp := fun vs H Q _ => ∃ l, vs = [.str (tx l)] ∧ l.length ≤ 40 ∧ ∀ (u : V) (H' : Hp), Same H H' → WAt H' (.row (ofL (asWork l))) u → Q u H'
end SK
/-! the least price of steps that do what a triple does; the mathematics -/
namespace SK
structure Pay (many : Nat) (m q : Int) (f : Nat → Int) : Prop where
  f45 : f 45 = q
  lo : ∀ c ∈ signs many, m ≤ f c
  m0 : 0 ≤ m
  q0 : 0 ≤ q
/-- how many are filled where something is kept -/
def phi (room : Nat) (t : Tr) : Nat := room - t.k - max t.g t.l.length
def wprice (m q : Int) (f : Nat → Int) (l : List Nat) (w : Nat × Nat) : Int := (w.1 : Int) * q + (sprc f l + (w.2 : Int) * (m + q))
def ways (room : Nat) (t : Tr) : List (Nat × Nat) := if t.k = 0 then [(0, room - t.l.length), (room, 0)] else [(t.g, phi room t)]
/-- the least price -/
def LB (room : Nat) (m q : Int) (f : Nat → Int) (t : Tr) : Int := if t.k = 0 then min (wprice m q f t.l (0, room - t.l.length)) (wprice m q f t.l (room, 0)) else wprice m q f t.l (t.g, phi room t)
theorem mulr {a b : Nat} {z : Int} (h : a ≤ b) (hz : 0 ≤ z) : (a : Int) * z ≤ (b : Int) * z := Int.mul_le_mul_of_nonneg_right (Int.ofNat_le.mpr h) hz
theorem muls (a : Nat) (z : Int) : ((a + 1 : Nat) : Int) * z = (a : Int) * z + z := by
  rw [Int.natCast_succ, Int.add_mul, Int.one_mul]
theorem mul0 {a : Nat} {z : Int} (hz : 0 ≤ z) : 0 ≤ (a : Int) * z := Int.mul_nonneg (Int.natCast_nonneg a) hz
theorem sprc_nn {many : Nat} {m q : Int} {f : Nat → Int} (P : Pay many m q f) : ∀ {l : List Nat}, (∀ c ∈ l, c ∈ signs many) → 0 ≤ sprc f l
  | [], _ => by simp [sprc]
  | c :: r, h => by
    have h1 := sprc_nn P (l := r) fun d hd => h d (List.mem_cons_of_mem _ hd)
    have h2 := P.lo c (h c (List.mem_cons_self ..))
    have := P.m0
    have e : sprc f (c :: r) = f c + sprc f r := by simp [sprc]
    omega
theorem sprc_one (f : Nat → Int) (c : Nat) : sprc f [c] = f c := by simp [sprc]
theorem LB_nn {room many : Nat} {m q : Int} {f : Nat → Int} (P : Pay many m q f) {t : Tr} (a : TrOk room many t) : 0 ≤ LB room m q f t := by
  have h1 := sprc_nn P a.s
  have h2 := P.m0
  have h3 := P.q0
  have h4 : 0 ≤ m + q := by omega
  unfold LB wprice
  split
  · have e1 := mul0 (a := room - t.l.length) h4
    have e2 := mul0 (a := room) h3
    simp only
    omega
  · have e1 := mul0 (a := phi room t) h4
    have e2 := mul0 (a := t.g) h3
    simp only
    omega
theorem LB_of0 {room : Nat} {m q : Int} {f : Nat → Int} {t : Tr} (h : t.k = 0) : LB room m q f t = min ((sprc f t.l + ((room - t.l.length : Nat) : Int) * (m + q))) ((room : Int) * q + sprc f t.l) := by
  unfold LB wprice
  rw [if_pos h]
  simp
theorem LB_ofk {room : Nat} {m q : Int} {f : Nat → Int} {t : Tr} (h : t.k ≠ 0) : LB room m q f t = (t.g : Int) * q + (sprc f t.l + ((phi room t : Nat) : Int) * (m + q)) := by
  unfold LB wprice
  rw [if_neg h]
theorem ct_one_price {many : Nat} {m q : Int} {f : Nat → Int} (P : Pay many m q f) {l : List Nat} (hl : ∀ c ∈ l, c ∈ signs many) (h : l ≠ []) : sprc f (ct 1 l) + m ≤ sprc f l := by
  have e : ct 1 l ++ [l.getLast h] = l := by
    unfold ct
    rw [← List.dropLast_eq_take]
    exact List.dropLast_concat_getLast h
  have h2 : sprc f l = sprc f (ct 1 l) + f (l.getLast h) := by
    have := sprc_app f (ct 1 l) [l.getLast h]
    rw [e, sprc_one] at this
    exact this
  have := P.lo _ (hl _ (List.getLast_mem h))
  omega
theorem tp_price {many : Nat} {m q : Int} {f : Nat → Int} (P : Pay many m q f) {l : List Nat} (hl : ∀ c ∈ l, c ∈ signs many) (k : Nat) : sprc f (tp k l) ≤ sprc f l := by
  have e : l.take (l.length - k) ++ tp k l = l := List.take_append_drop ..
  have h2 : sprc f l = sprc f (l.take (l.length - k)) + sprc f (tp k l) := by
    have := sprc_app f (l.take (l.length - k)) (tp k l)
    rw [e] at this
    exact this
  have := sprc_nn P (l := l.take (l.length - k)) fun c hc => hl c (List.mem_of_mem_take hc)
  omega
theorem push_join {room many c : Nat} {t : Tr} (a : TrOk room many t) (hr : 1 ≤ room) : tjoin t ⟨0, room - 1, [c]⟩ = tidy t.g (min t.k (room - 1 - t.l.length)) (tp (room - 1) t.l ++ [c]) := by
  unfold tjoin
  simp only [Nat.zero_sub, Nat.add_zero, Nat.sub_zero, ct_zero]
theorem LB_push {room many : Nat} {m q : Int} {f : Nat → Int} (P : Pay many m q f) (hr : 1 ≤ room) {t : Tr} (a : TrOk room many t) {c : Nat} (hc : c ∈ signs many) : LB room m q f (tjoin t ⟨0, room - 1, [c]⟩) ≤ LB room m q f t + f c := by
  have hm := P.m0
  have hq := P.q0
  have hz : 0 ≤ m + q := by omega
  have gk := a.gk
  have kl := a.kl
  have hp := tp_price P a.s (room - 1)
  rw [push_join a hr]
  by_cases hk : t.k = 0
  · have e : tidy t.g (min t.k (room - 1 - t.l.length)) (tp (room - 1) t.l ++ [c]) = ⟨0, 0, tp (room - 1) t.l ++ [c]⟩ := by
      rw [hk, Nat.zero_min]
      rfl
    rw [e, LB_of0 rfl, LB_of0 hk]
    simp only [sprc_app, sprc_one]
    have hl : (tp (room - 1) t.l ++ [c]).length = min (room - 1) t.l.length + 1 := by rw [List.length_append, len_tp]; rfl
    rw [hl]
    have := mulr (a := room - (min (room - 1) t.l.length + 1)) (b := room - t.l.length) (by omega) hz
    omega
  · by_cases h1 : t.k + t.l.length < room
    · have e : tidy t.g (min t.k (room - 1 - t.l.length)) (tp (room - 1) t.l ++ [c]) = ⟨t.g, t.k, t.l ++ [c]⟩ := by
        rw [Nat.min_eq_left (by omega), tidy_eq hk, tp_all (by omega)]
      rw [e, LB_ofk hk, LB_ofk (t := ⟨t.g, t.k, t.l ++ [c]⟩) hk]
      simp only [sprc_app, sprc_one]
      have := mulr (a := phi room ⟨t.g, t.k, t.l ++ [c]⟩) (b := phi room t) (by unfold phi; simp only [List.length_append, List.length_singleton]; omega) hz
      omega
    · have e : tidy t.g (min t.k (room - 1 - t.l.length)) (tp (room - 1) t.l ++ [c]) = tidy t.g (t.k - 1) (t.l ++ [c]) := by
        rw [Nat.min_eq_right (by omega), tp_all (by omega)]
        congr 1
        omega
      rw [e, LB_ofk hk]
      have h0 := mul0 (a := phi room t) hz
      have h2 := mul0 (a := t.g) hq
      by_cases hk1 : t.k = 1
      · have e2 : tidy t.g (t.k - 1) (t.l ++ [c]) = ⟨0, 0, t.l ++ [c]⟩ := by
          rw [hk1]
          rfl
        rw [e2, LB_of0 rfl]
        simp only [sprc_app, sprc_one, List.length_append, List.length_singleton]
        have e3 : room - (t.l.length + 1) = 0 := by omega
        rw [e3]
        simp only [Int.natCast_zero, Int.zero_mul]
        omega
      · rw [tidy_eq (by omega), LB_ofk (by simp only; omega)]
        simp only [sprc_app, sprc_one]
        have e3 : phi room ⟨t.g, t.k - 1, t.l ++ [c]⟩ = 0 := by
          unfold phi
          simp only [List.length_append, List.length_singleton]
          omega
        rw [e3]
        simp only [Int.natCast_zero, Int.zero_mul]
        omega
theorem pop_join {room many : Nat} {t : Tr} (a : TrOk room many t) (hr : 2 ≤ room) : tjoin t ⟨1, room - 1, []⟩ = tidy (t.g + (1 - t.l.length)) (min (t.k - (1 - t.l.length)) (room - 1 - (t.l.length - 1))) (ct 1 t.l) := by
  have kl := a.kl
  unfold tjoin
  simp only [len_ct, List.append_nil]
  rw [tp_all (by rw [len_ct]; omega)]
theorem LB_pop {room many : Nat} {m q : Int} {f : Nat → Int} (P : Pay many m q f) (hr : 1 ≤ room) {t : Tr} (a : TrOk room many t) : LB room m q f (tjoin t (tidy 1 (room - 1) [])) ≤ LB room m q f t + q := by
  have hm := P.m0
  have hq := P.q0
  have hz : 0 ≤ m + q := by omega
  have gk := a.gk
  have kl := a.kl
  have nn := LB_nn P a
  by_cases h1 : room = 1
  · subst h1
    have e : tjoin t (tidy 1 (1 - 1) []) = ⟨0, 0, []⟩ := by
      show tidy _ (min _ (0 - _)) (tp 0 _ ++ []) = _
      rw [Nat.zero_sub, Nat.min_zero, tp_zero]
      rfl
    rw [e, LB_of0 rfl]
    simp only [sprc, List.map_nil, List.sum_nil, List.length_nil]
    omega
  · rw [tidy_eq (by omega), pop_join a (by omega)]
    by_cases hl : t.l = []
    · have e : tidy (t.g + (1 - t.l.length)) (min (t.k - (1 - t.l.length)) (room - 1 - (t.l.length - 1))) (ct 1 t.l) = tidy (t.g + 1) (t.k - 1) [] := by
        rw [hl]
        simp only [List.length_nil, ct_all (l := []) (g := 1) (by simp)]
        congr 1
        omega
      rw [e]
      by_cases hk : t.k ≤ 1
      · have e2 : tidy (t.g + 1) (t.k - 1) [] = ⟨0, 0, []⟩ := by
          rw [Nat.sub_eq_zero_of_le hk]
          rfl
        rw [e2, LB_of0 rfl]
        simp only [sprc, List.map_nil, List.sum_nil, List.length_nil]
        by_cases hk0 : t.k = 0
        · rw [LB_of0 hk0, hl]
          simp only [sprc, List.map_nil, List.sum_nil, List.length_nil]
          omega
        · rw [LB_ofk hk0, hl]
          simp only [sprc, List.map_nil, List.sum_nil]
          have e3 : phi room t = room - 1 - t.g := by
            unfold phi
            rw [hl]
            simp only [List.length_nil]
            omega
          have h5 : ((phi room t : Nat) : Int) * q ≤ ((phi room t : Nat) : Int) * (m + q) := Int.mul_le_mul_of_nonneg_left (by omega) (Int.natCast_nonneg _)
          have h6 : (room : Int) * q = (t.g : Int) * q + ((phi room t : Nat) : Int) * q + q := by
            have e7 : (room : Int) = (t.g : Int) + ((phi room t : Nat) : Int) + 1 := by omega
            rw [e7, Int.add_mul, Int.add_mul, Int.one_mul]
          omega
      · rw [tidy_eq (by omega), LB_ofk (by simp only; omega), LB_ofk (by omega), hl]
        have e3 : phi room ⟨t.g + 1, t.k - 1, []⟩ = phi room t := by
          unfold phi
          rw [hl]
          simp only [List.length_nil]
          omega
        rw [e3]
        simp only [muls]
        omega
    · have hl1 : 1 ≤ t.l.length := List.length_pos_iff.mpr hl
      have e : tidy (t.g + (1 - t.l.length)) (min (t.k - (1 - t.l.length)) (room - 1 - (t.l.length - 1))) (ct 1 t.l) = tidy t.g t.k (ct 1 t.l) := by
        congr 1
        · omega
        · omega
      have hpr := ct_one_price P a.s hl
      rw [e]
      by_cases hk : t.k = 0
      · have e2 : tidy t.g t.k (ct 1 t.l) = ⟨0, 0, ct 1 t.l⟩ := by
          rw [hk]
          rfl
        rw [e2, LB_of0 rfl, LB_of0 hk]
        simp only [len_ct]
        have e3 : room - (t.l.length - 1) = (room - t.l.length) + 1 := by omega
        rw [e3, muls]
        omega
      · rw [tidy_eq hk, LB_ofk hk, LB_ofk (t := ⟨t.g, t.k, ct 1 t.l⟩) hk]
        have h5 := mulr (a := phi room ⟨t.g, t.k, ct 1 t.l⟩) (b := phi room t + 1) (by unfold phi; simp only [len_ct]; omega) hz
        rw [muls] at h5
        simp only
        omega
theorem LB_step {room many : Nat} {m q : Int} {f : Nat → Int} (P : Pay many m q f) (hr : 1 ≤ room) {t : Tr} (a : TrOk room many t) {c : Nat} (hc : c = 45 ∨ c ∈ signs many) : LB room m q f (tjoin t (tstep room c)) ≤ LB room m q f t + f c := by
  unfold tstep
  by_cases h : c = 45
  · rw [if_pos h, h, P.f45]
    exact LB_pop P hr a
  · rw [if_neg h]
    exact LB_push P hr a (hc.resolve_left h)
theorem LB_unt {room many : Nat} {m q : Int} {f : Nat → Int} (P : Pay many m q f) (hr : 1 ≤ room) : LB room m q f (tunt room) = 0 := by
  rw [LB_ofk (by show room ≠ 0; omega)]
  have e : phi room (tunt room) = 0 := by
    show room - room - _ = 0
    omega
  rw [e]
  simp [tunt, sprc]
theorem LB_steps {room many : Nat} {m q : Int} {f : Nat → Int} (P : Pay many m q f) (hr : 1 ≤ room) : ∀ (s : List Nat) (t : Tr), TrOk room many t → (∀ c ∈ s, c = 45 ∨ c ∈ signs many) → LB room m q f (s.foldl (fun t c => tjoin t (tstep room c)) t) ≤ LB room m q f t + sprc f s
  | [], t, _, _ => by simp [sprc]
  | c :: r, t, a, h => by
    have hc := h c (List.mem_cons_self ..)
    have h1 := LB_step P hr a hc
    have h2 := LB_steps P hr r _ (tjoin_ok a (tstep_ok hr hc)) fun d hd => h d (List.mem_cons_of_mem _ hd)
    have e : sprc f (c :: r) = f c + sprc f r := by simp [sprc]
    show LB room m q f (r.foldl _ (tjoin t (tstep room c))) ≤ _
    omega
/-- steps cost at least so much -/
theorem LB_told {room many : Nat} {m q : Int} {f : Nat → Int} (P : Pay many m q f) (hr : 1 ≤ room) {s : List Nat} (h : ∀ c ∈ s, c = 45 ∨ c ∈ signs many) : LB room m q f (ttold room s) ≤ sprc f s := by
  have := LB_steps P hr s (tunt room) tunt_ok h
  rw [LB_unt P hr] at this
  unfold ttold
  omega
/-! ### steps of a way -/
theorem gone_pops (room : Nat) : ∀ (p : Nat) (x : List Nat), gone room x (List.replicate p 45) = ct p x
  | 0, x => (ct_zero x).symm
  | p + 1, x => by
    rw [List.replicate_succ]
    show gone room (step room x 45) (List.replicate p 45) = _
    rw [gone_pops room p]
    show ct p (ct 1 x) = _
    rw [ct_ct]
    congr 1
    omega
theorem tp_tp_app (room : Nat) (y z : List Nat) : tp room (tp room y ++ z) = tp room (y ++ z) := by
  rw [tp_app, tp_app room y z, tp_tp]
  congr 2
  omega
theorem gone_signs (room : Nat) : ∀ (l x : List Nat), (∀ c ∈ l, c ≠ 45) → x.length ≤ room → gone room x l = tp room (x ++ l)
  | [], x, _, h => by
    rw [List.append_nil, tp_all h]
    rfl
  | c :: r, x, hl, h => by
    show gone room (step room x c) r = _
    have e : step room x c = tp room (x ++ [c]) := if_neg (hl c (List.mem_cons_self ..))
    rw [e, gone_signs room r _ (fun d hd => hl d (List.mem_cons_of_mem _ hd)) (by rw [len_tp]; omega), tp_tp_app, List.append_assoc]
    rfl
theorem gone_app (room : Nat) (x a b : List Nat) : gone room x (a ++ b) = gone room (gone room x a) b := by
  unfold gone
  rw [List.foldl_append]
theorem sign_not {many c : Nat} (h : c ∈ signs many) : c ≠ 45 := by
  have h1 := List.mem_of_mem_take h
  simp at h1
  omega
/-- the steps of a way -/
def wayS (c0 : Nat) (w : Nat × Nat) (l : List Nat) : List Nat :=
  if l.length ≤ w.1 then List.replicate w.2 c0 ++ List.replicate w.2 45 ++ List.replicate w.1 45 ++ l
  else List.replicate w.1 45 ++ l ++ (List.replicate w.2 c0 ++ List.replicate w.2 45)
theorem way_gone {room many c0 g k : Nat} {l x : List Nat} (gk : g + k ≤ room) (kl : k + l.length ≤ room) (hc : c0 ∈ signs many) (hl : ∀ c ∈ l, c ∈ signs many) (hx : x.length ≤ room) :
    gone room x (wayS c0 (g, room - k - max g l.length) l) = tp k (ct g x) ++ l := by
  have hl' : ∀ c ∈ l, c ≠ 45 := fun c h => sign_not (hl c h)
  have hr' : ∀ n, ∀ c ∈ List.replicate n c0, c ≠ 45 := fun n c h => by
    rw [List.eq_of_mem_replicate h]
    exact sign_not hc
  unfold wayS
  by_cases h : l.length ≤ g
  · rw [if_pos h, Nat.max_eq_left h]
    simp only
    rw [gone_app, gone_app, gone_app, gone_signs room _ x (hr' _) hx, gone_pops, gone_pops, ct_ct, ct_tp, ct_app_ge (by rw [List.length_replicate]; omega)]
    rw [List.length_replicate]
    have e1 : room - (room - k - g + g) = k := by omega
    have e2 : room - k - g + g - (room - k - g) = g := by omega
    rw [e1, e2, gone_signs room l _ hl' (by rw [len_tp]; omega), tp_all (by rw [List.length_append, len_tp]; omega)]
  · have h' : g ≤ l.length := by omega
    rw [if_neg h, Nat.max_eq_right h']
    simp only
    rw [gone_app, gone_app, gone_app, gone_pops room g x, gone_signs room l _ hl' (by rw [len_ct]; omega), gone_signs room (List.replicate _ c0) _ (hr' _) (by rw [len_tp]; omega), gone_pops, tp_tp_app, ct_tp, ct_app_ge (by rw [List.length_replicate]; omega)]
    rw [List.length_replicate, Nat.sub_self, ct_zero]
    have e1 : room - (room - k - l.length) = k + l.length := by omega
    rw [e1, tp_app, tp_all (l := l) (by omega)]
    congr 2
    omega
theorem way_in {many c0 : Nat} {w : Nat × Nat} {l : List Nat} (hc : c0 ∈ signs many) (hl : ∀ c ∈ l, c ∈ signs many) : ∀ c ∈ wayS c0 w l, c = 45 ∨ c ∈ signs many := fun c h => by
  have k1 : ∀ n, c ∈ List.replicate n c0 → c = 45 ∨ c ∈ signs many := fun n h => by
    rw [List.eq_of_mem_replicate h]
    exact .inr hc
  have k2 : ∀ n, c ∈ List.replicate n 45 → c = 45 ∨ c ∈ signs many := fun n h => .inl (List.eq_of_mem_replicate h)
  unfold wayS at h
  split at h
  · simp only [List.mem_append] at h
    rcases h with ((h | h) | h) | h
    · exact k1 _ h
    · exact k2 _ h
    · exact k2 _ h
    · exact .inr (hl c h)
  · simp only [List.mem_append] at h
    rcases h with (h | h) | (h | h)
    · exact k2 _ h
    · exact .inr (hl c h)
    · exact k1 _ h
    · exact k2 _ h
theorem sprc_rep (f : Nat → Int) (c : Nat) : ∀ n : Nat, sprc f (List.replicate n c) = (n : Int) * f c
  | 0 => by simp [sprc]
  | n + 1 => by
    have e : sprc f (List.replicate (n + 1) c) = f c + sprc f (List.replicate n c) := by simp [sprc, List.replicate_succ]
    rw [e, sprc_rep f c n, muls]
    omega
theorem way_price {many c0 : Nat} {m q : Int} {f : Nat → Int} (P : Pay many m q f) (hm : f c0 = m) (w : Nat × Nat) (l : List Nat) : sprc f (wayS c0 w l) = wprice m q f l w := by
  unfold wayS wprice
  split
  · simp only [sprc_app, sprc_rep, P.f45, hm, Int.mul_add]
    omega
  · simp only [sprc_app, sprc_rep, P.f45, hm, Int.mul_add]
    omega
theorem way_len {c0 : Nat} (w : Nat × Nat) (l : List Nat) : (wayS c0 w l).length = w.1 + 2 * w.2 + l.length := by
  unfold wayS
  split
  · simp only [List.length_append, List.length_replicate]
    omega
  · simp only [List.length_append, List.length_replicate]
    omega
/-- the steps of each way do what the triple does -/
theorem way_told {room many c0 : Nat} {t : Tr} (hr : 1 ≤ room) (a : TrOk room many t) (hc : c0 ∈ signs many) {w : Nat × Nat} (h : w ∈ ways room t) : ttold room (wayS c0 w t.l) = t := by
  have hin := way_in (w := w) hc a.s
  refine tr_ext (c := 97) (ttold_ok' hr hin) a fun n hn => ?_
  have hx : (List.replicate n 97).length ≤ room := by rw [List.length_replicate]; exact hn
  rw [tby_told hr _ hx]
  unfold ways at h
  by_cases hk : t.k = 0
  · rw [if_pos hk] at h
    have gk := a.gk
    have kl := a.kl
    have hz := a.z hk
    rcases List.mem_cons.mp h with h | h
    · have e := way_gone (c0 := c0) (g := 0) (k := 0) (l := t.l) (x := List.replicate n 97) (by omega) (by omega) hc a.s hx
      rw [Nat.sub_zero, Nat.zero_max] at e
      rw [h, e]
      simp only [tby, hk, hz]
    · have h' : w = (room, 0) := by simpa using h
      have e := way_gone (c0 := c0) (g := room) (k := 0) (l := t.l) (x := List.replicate n 97) (by omega) (by omega) hc a.s hx
      have e2 : room - 0 - max room t.l.length = 0 := by omega
      rw [e2] at e
      rw [h', e]
      simp only [tby, hk, hz, tp_zero]
  · rw [if_neg hk] at h
    have h' : w = (t.g, phi room t) := by simpa using h
    rw [h']
    exact way_gone (c0 := c0) a.gk a.kl hc a.s hx
/-- subadditive -/
theorem LB_has {room many c0 : Nat} {m q : Int} {f : Nat → Int} (P : Pay many m q f) (hr : 1 ≤ room) (hc : c0 ∈ signs many) (hm : f c0 = m) {t : Tr} (a : TrOk room many t) : ∃ s, (∀ c ∈ s, c = 45 ∨ c ∈ signs many) ∧ ttold room s = t ∧ sprc f s = LB room m q f t := by
  by_cases hk : t.k = 0
  · by_cases h : wprice m q f t.l (0, room - t.l.length) ≤ wprice m q f t.l (room, 0)
    · refine ⟨wayS c0 (0, room - t.l.length) t.l, way_in hc a.s, way_told hr a hc (by unfold ways; rw [if_pos hk]; simp), ?_⟩
      rw [way_price P hm]
      unfold LB
      rw [if_pos hk]
      omega
    · refine ⟨wayS c0 (room, 0) t.l, way_in hc a.s, way_told hr a hc (by unfold ways; rw [if_pos hk]; simp), ?_⟩
      rw [way_price P hm]
      unfold LB
      rw [if_pos hk]
      omega
  · refine ⟨wayS c0 (t.g, phi room t) t.l, way_in hc a.s, way_told hr a hc (by unfold ways; rw [if_neg hk]; simp), ?_⟩
    rw [way_price P hm]
    unfold LB
    rw [if_neg hk]
theorem LB_join {room many c0 : Nat} {m q : Int} {f : Nat → Int} (P : Pay many m q f) (hr : 1 ≤ room) (hc : c0 ∈ signs many) (hm : f c0 = m) {t u : Tr} (a : TrOk room many t) (b : TrOk room many u) : LB room m q f (tjoin t u) ≤ LB room m q f t + LB room m q f u := by
  obtain ⟨s, h1, h2, h3⟩ := LB_has P hr hc hm a
  obtain ⟨s', h4, h5, h6⟩ := LB_has P hr hc hm b
  have h7 := LB_told P hr (s := s ++ s') fun c hc => (List.mem_append.mp hc).elim (h1 c) (h4 c)
  rw [ttold_app hr h1 h4, h2, h5, sprc_app, h3, h6] at h7
  exact h7
theorem LB_work {room many : Nat} {m q : Int} {f : Nat → Int} (P : Pay many m q f) (hr : 1 ≤ room) {w : W} (h : w.Can many) : LB room m q f (w.tri room) ≤ w.prc f := by
  rw [W.tri_lng hr w h, W.prc_lng]
  exact LB_told P hr (W.lng_in w h)
end SK
namespace SK
open PySem PySem.Spec PyProof.Rows L2 LamX NdefX
/-! ### a lambda with parameters, called -/
/-- the lambda as a function made in the running frame -/
def lamF (X : Cx) (params : Arguments) (scope : Scope) (c' : Addr) : NF := ⟨"<lambda>", X.env.qual ++ "<lambda>", params, [], scope, cloFrom X.env.cells scope.names [], c'⟩
theorem lam_run {P : Program} {w : World} {K : PySem.W.Frag} {mg : Str → Option Value} {base : Heap} {N ps fr : List Str} {F : NF} {f : Addr} {A : Around} {outer : List Env} {s : Shared} {H : Hp} {us : List Value} {vs : List V} {ws : List (Option V)} {k : Nat} {body : Expr} {pm ctv : Value} {t : TE} {Q : VK}
    (S : NScope N ps fr F.scope) (hr : Room (k + 1) A) (e0 : Env0 P w K mg base A outer s H) (ho : s.heap.get? f = some (PySem.W.kla_obj F.name F.qual F.params body F.scope F.cl pm F.c ctv)) (hc : s.heap.CodeRec (.ref F.c) F.qual)
    (hbind : bindArgs (PySem.W.kla_fn F.name F.qual F.params body F.scope F.cl pm (.ref F.c) ctv) ⟨us, []⟩ = pure (ps.zip us)) (hl : vs.length = ps.length) (r : Vals vs us) (C : CellsAt F.cl fr ws s.heap H)
    (hbody : PE (ncx C8.CX0 P w K mg base N F f A outer s H C8.E0) body t) (ht : t (startF N vs ws) H Q) :
    codeAny (model P w) A (.call (.ref f) ⟨us, []⟩) (CR C8.CX0 outer P w H s Q C8.E0) s := by
  have lim : s.heap.NoLimit := e0.mod.nolimit.keeps fun b o e => (e0.bs b o e).1
  refine PySem.W.kla_callFunE hr.depth ho rfl S.co S.gen rfl hc ?_
  rw [hbind]
  refine wpAny_pure (wpAny_newFunctionEnv S.nocell (fun ⟨n, _⟩ hy => S.par n (List.of_mem_zip hy).1) (fun h₁ hns hsb => ⟨lim.fresh _ hsb, ?_⟩) S.kind)
  show codeAny _ _ (.expr body (envF F f s.heap.objs.size)) _ _
  have kp : ∀ b o, s.heap.get? b = some o → h₁.get? b = some o := fun b o e => hsb.extBut b o (Nat.ne_of_lt (Heap.lt_size e)) (Heap.get?_push_of_some _ e)
  have J : Inv (ncx C8.CX0 P w K mg base N F f A outer s H C8.E0) [] (startF N vs ws) H { s with heap := h₁, toks := s.toks + (ps.zip us).length } := inv_startN S hr.hd e0 hl r C hns kp
  refine PySem.W.kla_codeExpr (wpAny_mono (hbody.run [] _ _ H Q J ht) (fun v s' hq => ?_) fun e s' hq => hq)
  obtain ⟨w', H', J', rv, q⟩ := hq
  exact ⟨w', H', J'.os, J'.bare, J'.base, J'.hok, rv, q⟩
theorem Room.in1 {k : Nat} {A : Around} (r : Room (k + 1) A) : Room k A.in1 := ⟨r.hd, by have := r.dp; show A.depth + 3 * k + 5 < _; omega, by have := r.un; show A.units + 1 + 16 * k + 200 < _; omega⟩
/-! ### min(xs, key=f) of a list -/
section
variable {X : Cx} {pins : List (Addr × Obj)} {σ : L2.St} {H : Hp} {s : Shared}
theorem min_key_list (hcalm : X.calm = true) (I : L2.Inv X pins σ H s) {f : Addr} {fo : Obj} (hf : s.heap.get? f = some fo) (hfc : ∀ v, fo.data ≠ .cell v) (hfn : H f = none) (hfL : f ≠ X.env.locals) (hfr : f ∉ X.fs) {a : Addr} {xs : List V} (ha : H a = some (.lst xs)) (hne : 0 < xs.length) (kf : Nat → Int) {Q : VK}
    (turn : ∀ (od : Obj) (pins' : List (Addr × Obj)) (s' : Shared) (i : Nat) (v : V) (u : Value), Inv X pins' σ (upd H a (.frz od (.lst xs))) s' → s'.heap.get? f = some fo → xs[i]? = some v → RelV v u →
      codeAny (model X.prog X.w) X.A.in1 (.call (.ref f) ⟨[u], []⟩) (CR C8.CX0 X.stack X.prog X.w (upd H a (.frz od (.lst xs))) s' (fun k H' => k = .int (kf i) ∧ H' = upd H a (.frz od (.lst xs))) C8.E0) s')
    (q : ∀ od v, xs[argBest (fun i j => decide (kf i < kf j)) (xs.length - 1)]? = some v → Q v (upd H a (.frz od (.lst xs)))) :
    wpAny (model X.prog X.w) X.A (call (.builtin "min") [.ref a] [(Str.ofString "key", .ref f)]) (EP X pins σ Q) X.xe s := by
  obtain ⟨od, I0⟩ := I.lock ha (by trivial)
  have hfn0 : upd H a (.frz od (.lst xs)) f = none := by
    rw [upd_ne (fun z => by rw [z, ha] at hfn; cases hfn)]
    exact hfn
  have I1 : L2.Inv X (pins ++ [(f, fo)]) σ (upd H a (.frz od (.lst xs))) s := I0.pins_of fun p hp => by
    rcases List.mem_append.mp hp with z | z
    · exact I0.pin p (List.mem_append_right _ z)
    · have e : p = (f, fo) := by simpa using z
      subst e
      exact ⟨hf, hfn0, hfL, hfr, hfc⟩
  have haz : upd H a (.frz od (.lst xs)) a = some (.frz od (.lst xs)) := upd_same
  obtain ⟨e1, hz, its, n, rv, hob⟩ := I1.hok a _ haz
  rw [e1] at hob
  cases hob
  have hlen := rv.length
  have hlt : a < s.heap.objs.size := Heap.lt_size e1
  have dl : ∀ {s' : Shared} {pins' : List (Addr × Obj)}, Inv X pins' σ (upd H a (.frz (seqObj "list" its.toArray n) (.lst xs))) s' → s'.heap.get? a = some (seqObj "list" its.toArray n) := fun J => (J.hok a _ haz).1
  have isl : ∀ {h : Heap}, h.get? a = some (seqObj "list" its.toArray n) → h.IsList a its.toArray := fun e => ⟨_, e, rfl, n, rfl⟩
  have hd : X.A.in1.handled = none := I.ok.hd hcalm
  refine call_min_walkK (wpAny_pyIter_list (isl e1) ?_)
  have W := (Walks.list (prog := X.prog) (w := X.w) (A := X.A.in1) hd s.heap.objs.size a (Nat.ne_of_lt hlt) its.toArray).toS
  have hI : (s.heap.push { cls := .type "list_iterator", data := .fields #[.ref a, .int 0 0] }).objs.size = s.heap.objs.size + 1 := size_push' ..
  have gI : (s.heap.push { cls := .type "list_iterator", data := .fields #[.ref a, .int 0 0] }).get? s.heap.objs.size = some { cls := .type "list_iterator", data := .fields #[.ref a, .int 0 0] } := Heap.get?_push_size _ rfl
  have J0 : L2.Inv X (pins ++ [(f, fo)]) σ (upd H a (.frz (seqObj "list" its.toArray n) (.lst xs))) { s with heap := s.heap.push { cls := .type "list_iterator", data := .fields #[.ref a, .int 0 0] } } := I1.kept (t' := s.toks) fun b o e => Heap.get?_push_of_some _ e
  have fpI : FpOk X (pins ++ [(f, fo)]) (upd H a (.frz (seqObj "list" its.toArray n) (.lst xs))) s.heap.objs.size := I1.fpOk (Nat.le_refl _) (I1.hok.fresh (Nat.le_refl _))
  have fpS : FpOk X (pins ++ [(f, fo)]) (upd H a (.frz (seqObj "list" its.toArray n) (.lst xs))) (s.heap.objs.size + 1) := I1.fpOk (Nat.le_succ _) (I1.hok.fresh (Nat.le_succ _))
  refine ⟨s.heap.objs.size, _, _, _, its.toArray.size, _, _, fun s' => Inv X (pins ++ [(f, fo)]) σ (upd H a (.frz (seqObj "list" its.toArray n) (.lst xs))) s', fun i k _ => ∃ t, k = .int (kf i) t, fun i j => decide (kf i < kf j), rfl, W, ⟨⟨_, gI, rfl, rfl⟩, isl (Heap.get?_push_of_some _ e1)⟩, fun b hb => ?_, ?_, ?_, J0, fun v s' hv hJ => ?_⟩
  · show b < (s.heap.push _).objs.size
    rw [hI]
    have hb' : b = s.heap.objs.size ∨ b = a := by simpa using hb
    rcases hb' with z | z
    · rw [z]
      exact Nat.lt_succ_self _
    · rw [z]
      exact Nat.lt_succ_of_lt hlt
  · rw [List.size_toArray, ← hlen]
    exact hne
  · refine ⟨fun s1 s2 hJ hm => ?_, fun i k s1 s2 hv _ => hv, fun i v s1 o Q1 E1 hi hP hJ hst hS hQ => ?_, fun i j ki kj s1 Q1 E1 hJ hi hj hQ => ?_⟩
    · obtain ⟨m1, m2, m3, m4, m5⟩ := hm
      obtain ⟨hh, g, d, t, os'⟩ := s2
      obtain rfl : g = s1.gens := m2
      obtain rfl : d = s1.drawn := m3
      obtain rfl : os' = s1.os := m4
      refine L2.Inv.turnedL hJ (ch := (s.heap.push { cls := .type "list_iterator", data := .fields #[.ref a, .int 0 0] }).objs.size :: [s.heap.objs.size]) m1 fun b hb => ?_
      rw [hI] at hb
      rcases List.mem_cons.mp hb with z | z
      · rw [z]
        exact fpS
      · have z' : b = s.heap.objs.size := by simpa using z
        rw [z']
        exact fpI
    · have hv : its.toArray[i]? = some v := hP
      have hi' : i < xs.length := by
        rw [List.size_toArray] at hi
        omega
      have hx : xs[i]? = some xs[i] := List.getElem?_eq_getElem hi'
      have rx : RelV xs[i] v := by
        obtain ⟨u, hu, ru⟩ := rv.get hx
        have e : its.toArray[i]? = some u := by simpa using hu
        rw [hv] at e
        cases e
        exact ru
      obtain ⟨⟨oI, hoI, hoc, hod⟩, hls⟩ := hst
      rw [hI] at hS
      have nfr : ∀ b, b ≠ X.env.locals → b ∉ X.fs → b ∉ frs X.stack := fun b h1 h2 z => by
        rcases List.mem_cons.mp (hJ.stkSub b z) with e | e
        · exact h1 e
        · exact h2 e
      have hf1 : s1.heap.get? f = some fo := (hJ.pin (f, fo) (List.mem_append_right _ (List.mem_append_right _ (by simp)))).1
      refine wpAny_call (codeAny_mono (turn _ _ s1 i xs[i] v hJ hf1 hx rx) fun r s2 hq => ?_)
      cases r with
      | error e => exact False.elim hq
      | ok fl =>
        cases fl with
        | next => exact False.elim hq
        | brk => exact False.elim hq
        | cont => exact False.elim hq
        | ret u =>
          obtain ⟨k', H', os, bare, un, hok, ru, rfl, rfl⟩ := hq
          obtain ⟨t, rfl⟩ := ru
          have J2 : L2.Inv X (pins ++ [(f, fo)]) σ (upd H a (.frz (seqObj "list" its.toArray n) (.lst xs))) s2 := hJ.call' os un hok bare (fun b z => absurd z (by simp))
          refine hQ _ s2 J2 ⟨⟨oI, un.keep _ _ hoI fpI.1 (nfr _ fpI.2.1 fpI.2.2.1) (by simp), hoc, hod⟩, isl (dl J2)⟩ ?_ ⟨t, rfl⟩ fun j k' h => h
          rw [hI]
          exact un.keep _ _ hS fpS.1 (nfr _ fpS.2.1 fpS.2.2.1) (by simp)
    · obtain ⟨t1, rfl⟩ := hi
      obtain ⟨t2, rfl⟩ := hj
      exact CmpOf.ints_lt (prog := X.prog) (w := X.w) (A := X.A.in1) (P := fun i v => ∃ t, v = .int (kf i) t) kf (fun i v h => h) i j _ _ _ _ _ ⟨t1, rfl⟩ ⟨t2, rfl⟩ hQ
  · have hv' : its.toArray[argBest (fun i j => decide (kf i < kf j)) (its.toArray.size - 1)]? = some v := hv
    rw [List.size_toArray, ← hlen] at hv'
    have hb : argBest (fun i j => decide (kf i < kf j)) (xs.length - 1) < its.length := by
      obtain ⟨h1, _⟩ := Array.getElem?_eq_some_iff.mp hv'
      simpa using h1
    have hx : xs[argBest (fun i j => decide (kf i < kf j)) (xs.length - 1)]? = some (xs[argBest (fun i j => decide (kf i < kf j)) (xs.length - 1)]'(by omega)) := List.getElem?_eq_getElem (by omega)
    obtain ⟨u, hu, ru⟩ := rv.get hx
    have e : its.toArray[argBest (fun i j => decide (kf i < kf j)) (xs.length - 1)]? = some u := by simpa using hu
    rw [hv'] at e
    cases e
    exact ⟨_, _, hJ.unpinned, ru, q _ _ hx⟩
/-! ### min(e, key=lambda ..) -/
theorem Tabs.upd {T : List (Addr × Str)} {H : Hp} {a : Addr} {xs : List V} {o : HO} (t : Tabs T H) (h : H a = some (.lst xs)) : Tabs T (upd H a o) := fun p hp => by
  obtain ⟨ps, h1, h2, h3⟩ := t p hp
  refine ⟨ps, ?_, h2, fun pos cv hc => ?_⟩
  · rw [upd_ne (ne_of h1 h (by intro z; cases z))]
    exact h1
  · obtain ⟨c, e1, e2⟩ := h3 pos cv hc
    refine ⟨c, e1, ?_⟩
    rw [upd_ne (ne_of e2 h (by intro z; unfold CodeO at z; cases z))]
    exact e2
theorem Tups.ofN {H H' : Hp} (e : ExtN H H') : Tups H H' := ⟨fun b xs h => e b _ h (by intro ps z; cases z), fun b o xs h => e b _ h (by intro ps z; cases z)⟩
def bestN (kf : Nat → Int) (n : Nat) : Nat := argBest (fun i j => decide (kf i < kf j)) (n - 1)
def tMinKey (T : List (Addr × Str)) (ta : TA) (js : List Nat) (N : List Str) (tb : TE) : TE := fun σ H Q => ta σ H fun vs H1 => Tabs T H1 ∧ ∃ (a : Addr) (xs : List V) (kf : Nat → Int), vs = [.ref a] ∧ H1 a = some (.lst xs) ∧ 0 < xs.length ∧
  (∀ (H2 : Hp) (i : Nat) (x : V) (Q' : VK), Tups H1 H2 → xs[i]? = some x → Q' (.int (kf i)) H2 → tb (startF N [x] (js.map (slotAt σ))) H2 Q') ∧
  ∀ (H2 : Hp) (od : Obj) (x : V), ExtN H1 H2 → Tabs T H2 → xs[bestN kf xs.length]? = some x → Q x (L2.upd H2 a (.frz od (.lst xs)))
theorem pe_minkey {T : List (Addr × Str)} {c P : Addr} {p pos kpos lpos : Pos} {e : Expr} {ta : TA} {tb : TE} {params : Arguments} {body : Expr} {scope : Scope} {N ps fr : List Str} {js : List Nat} {k : Nat}
    (hcalm : X.calm = true) (hg : Gl X "min") (hm : X.mg "min" = none) (ha : PA X [e] ta)
    (TB : TabB X.base X.mg c P) (hcode : X.env.code = .ref c) (hmT : (P, X.env.qual ++ "<lambda>") ∈ T) (hu : ∀ p ∈ T, p.1 = P → p.2 = X.env.qual ++ "<lambda>") (hr : Room (k + 2) X.A)
    (S : NScope N ps fr scope) (hps : ps.length = 1) (hfree : ∀ y ∈ scope.names, y.2 = .free → X.env.scope.names.lookup y.1 = some .cell ∨ X.env.scope.names.lookup y.1 = some .free) (hfr : ∀ y ∈ fr, (y, NameKind.free) ∈ scope.names) (hjs : js.map (fun j => X.N[j]?) = fr.map some)
    (hdef : defaultsOf params X.env = ([], [])) (hbind : ∀ (q : Str) (cl : List (Str × Addr)) (pm cv ctv u : Value), bindArgs (PySem.W.kla_fn "<lambda>" q params body scope cl pm cv ctv) ⟨[u], []⟩ = pure (ps.zip [u]))
    (hbody : ∀ (c' f : Addr) (A : Around) (outer : List Env) (s : Shared) (H : Hp), PE (ncx C8.CX0 X.prog X.w X.K X.mg X.base N (lamF X params scope c') f A outer s H C8.E0) body tb)
    (he : backTo pos (starEach [e] X.env) = (false, eval e X.env) :: backTo pos (starEach [] X.env) := by rfl) (hpl : (backTo pos (starEach [e] X.env)).any (·.1) = false := by rfl) :
    PE X (.Call (.Name "min" p) [e] [⟨some "key", .Lambda params body scope lpos, kpos⟩] pos) (tMinKey T ta js N tb) := by
  refine ⟨fun pins s σ H Q I h => ?_⟩
  refine wpAny_Call_Name_kw (ld_blt I hg hm b_min ?_ (by decide) (by decide))
  refine PyProof.Rows.callWith_kw (thn (ha.run pos pins s σ H _ I h) fun us s1 ⟨vs, H1, I1, r1, q1⟩ => ?_) he hpl rfl rfl
  obtain ⟨hT, a, xs, kf, rfl, hax, hne, hb, hq⟩ := q1
  obtain rfl := Vals.ref1 r1
  show wpAny _ _ (evalAll ((do let v ← eval (.Lambda params body scope lpos) X.env; standAt pos; pure v) :: [])) _ _ _
  refine wpAny_evalAll_cons (wpAny_bind (lam_make2 I1 TB hcode hmT hu hT hdef (fun y hy e => (hfree y hy e).elim (fun z => I1.ok.has _ (.inl z)) fun z => I1.ok.has _ (.inr z)) fun f c' pm' ctv H2 s' I2 eN T2 hf hfn hfr' hco => wpAny_bind (wpAny_standAt (wpAny_pure (wpAny_evalAll_nil ?_)))))
  have hax2 : H2 a = some (.lst xs) := eN _ _ hax (by intro ps z; cases z)
  have hfL : f ≠ X.env.locals := fun z => by
    obtain ⟨m, ⟨o, es, ep, ho, hd, _⟩, _⟩ := I2.loc
    rw [z, ho] at hf
    cases hf
    cases hd
  have hfs : f ∉ X.fs := fun z => hfr' (by
    rcases I2.ok.stk with e | ⟨e, hfm⟩
    · rw [e]
      exact z
    · rw [e]
      unfold frs at *
      simp only [List.filterMap_cons]
      split
      · exact z
      · exact List.mem_cons_of_mem _ z)
  show wpAny _ _ (call (.builtin "min") [.ref a] [(Str.ofString "key", .ref f)]) _ _ _
  refine min_key_list hcalm I2 hf (fun v z => by cases z) hfn hfL hfs hax2 hne kf (fun od pins' s3 i v u J hf3 hx rx => ?_) fun od v hv => hq H2 od v eN T2 hv
  have hco' : L2.upd H2 a (.frz od (.lst xs)) c' = some (CodeO c' (X.env.qual ++ "<lambda>")) := by
    rw [upd_ne (ne_of hco hax2 (by intro z; unfold CodeO at z; cases z))]
    exact hco
  refine lam_run (F := lamF X params scope c') (k := k) (ps := ps) S hr.in1 J.env0.in1 hf3 (codeO_at J.hok hco') (hbind _ _ _ _ _ u) (by rw [hps]; rfl) (.cons rx .nil) (cells_of J (Caps.made J.ok hfree hfr hjs)) (hbody _ _ _ _ _ _) ?_
  exact hb _ i v _ ((Tups.ofN eN).trans ⟨fun b ys e => by
    rw [upd_ne (ne_of e hax2 (by intro z; cases z))]
    exact e, fun b o ys e => by
    rw [upd_ne (ne_of e hax2 (by intro z; cases z))]
    exact e⟩) hx ⟨rfl, rfl⟩
end
/-! ### a def whose code object is known -/
structure DnL (K : PySem.W.Frag) (mg : Str → Option Value) (x : Str) (st : Stmt) (ps : List Str) (c : Addr) : Prop where
  ex : ∃ (f : Addr) (oc : Value) (od : Option Addr) (kV doc pm : Value) (an : Option Addr) (ct : Value) (osl : Array (Option Value)),
    K.lookup f = some ⟨oc, od, .func (PySem.W.fnOf x x (defArgs st) (defBody st) (defScope st) .none kV doc pm an (.ref c) ct), osl⟩ ∧ PySem.W.codeIn K (.ref c) x = true ∧ PySem.W.keepIn K (.ref f) = true ∧ mg x = some (.ref f) ∧ Binds K (PySem.W.fnOf x x (defArgs st) (defBody st) (defScope st) .none kV doc pm an (.ref c) ct) ps []
theorem DnL.cal {P : Program} {w : World} {K : PySem.W.Frag} {mg : Str → Option Value} {base : Heap} {x : Str} {st : Stmt} {N ps : List Str} {k : Nat} {sp : Sp} {c : Addr} (D : DnL K mg x st ps c) (S : FnScope N ps (defScope st)) (len : ∀ vs H Q E, sp vs H Q E → vs.length = ps.length)
    (hbody : ∀ (f : Addr) (A : Around) (outer : List Env) (s : Shared) (H : Hp) (vs : List V) (Q : VK) (E : XK), Room k (A.deeper (envOfC x (defScope st) s.heap.objs.size f (.ref c))) → sp vs H Q E →
      ∃ t, PSs (cxOf CX0 P w K mg base N x (defScope st) f (.ref c) A outer s H E).nox (defBody st) t ∧ t { nx := fun _ H' => Q .non H', rt := Q } (start N vs) H) : C8.Cal P w K mg base (k + 1) x sp [] := by
  obtain ⟨f, oc, od, kV, doc, pm, an, ct, osl, lk, hcd, hk, hm, hb⟩ := D.ex
  exact ⟨f, _, ps, [], fn_of lk hcd S len fun A outer s H vs Q E hr hsp => by
    obtain ⟨t, h, q⟩ := hbody f A outer s H vs Q E hr hsp
    exact ⟨t, h.nox, q⟩, hm, hk, hb, .nil⟩
theorem dnL_mk {K : PySem.W.Frag} {mg : Str → Option Value} {x : Str} {st : Stmt} {ps : List Str} {h : Heap} {f c : Addr} {oc : Value} {od an : Option Addr} {osl : Array (Option Value)} {kV doc pm ct : Value} (X : K.In h) (G : h.Ns mainGlobals mg)
    (a : PySem.W.nsIn K mainGlobals x = some (some (.ref f))) (l : K.lookup f = some ⟨oc, od, .func (PySem.W.fnOf x x (defArgs st) (defBody st) (defScope st) .none kV doc pm an (.ref c) ct), osl⟩)
    (hc : PySem.W.codeIn K (.ref c) x = true) (k : PySem.W.keepIn K (.ref f) = true)
    (hb : ∀ (kV doc pm : Value) (an : Option Addr) (cdv ct : Value) (us : List Value), us.length = ps.length → bindArgs (PySem.W.fnOf x x (defArgs st) (defBody st) (defScope st) .none kV doc pm an cdv ct) ⟨us, []⟩ = pure (ps.zip us)) : DnL K mg x st ps c :=
  ⟨f, oc, od, kV, doc, pm, an, ct, osl, l, hc, k, PySem.W.mg_of X G a, .all (hb kV doc pm an (.ref c) ct)⟩
def lamQ : Str := (("cheapest_way" : Str) ++ ".<locals>.") ++ "<lambda>"
end SK
namespace SK
open PySem PySem.Spec PyProof.Rows L2 LamX NdefX
section
variable {X : Cx}
/-- min(t) of a tuple of ints -/
def rMinT (K : PySem.W.Frag) : List V → Hp → VK → Prop := fun vs H Q => ∃ (a : Addr) (ns : List Int), vs = [V.ref a] ∧ SqT K H a (ns.map V.int) ∧ 0 < ns.length ∧ ∀ m, m ∈ ns → (∀ y, y ∈ ns → m ≤ y) → Q (.int m) H
theorem cr_minT (hc : X.calm = true) : CallR X (.builtin "min") (rMinT X.K) := by
  intro pins s σ H vs us Q I r h
  obtain ⟨a, ns, rfl, hs, hne, q⟩ := h
  obtain ⟨its, rv, hl, _⟩ := I.tuple hs
  rw [Vals.ref1 r]
  have hi := rv.ints
  obtain ⟨xs, e⟩ := hi.allInts.items
  have hn : numsOf (intItems xs).toList = ns := by rw [← e]; exact hi.numsOf
  rw [nums_intItems] at hn
  subst hn
  rw [e] at hl
  have hsz : 0 < xs.size := by simpa using hne
  obtain ⟨ob, hob, hcl, n, hd⟩ := id hl
  have hlt : a < s.heap.objs.size := Heap.lt_size hob
  have hT : s.heap.IsTuple a (intItems xs) := hl
  refine call_min_walk (wpAny_pyIter_tuple hT ?_)
  refine ⟨_, _, _, _, _, _, _, rfl, Walks.tuple (A := X.A.in1) (I.ok.hd hc) _ a (Nat.ne_of_lt hlt) (intItems xs), ⟨⟨_, Heap.get?_push_size _ rfl, rfl, rfl⟩, hT.push _⟩, fun b hb => ?_, by simpa [intItems] using hsz, CmpOf.ints_lt (numAt xs) (fun _ _ => intItems_at), fun v h' tk hP hk => ?_⟩
  · show b < (s.heap.push _).objs.size
    rw [Heap.size_push]
    rcases List.mem_cons.mp hb with rfl | hb
    · exact Nat.lt_succ_self _
    · rcases List.mem_cons.mp hb with rfl | hb
      · exact Nat.lt_succ_of_lt hlt
      · cases hb
  · have hv : (intItems xs)[argBest (fun i j => decide (numAt xs i < numAt xs j)) (xs.size - 1)]? = some v := by simpa [intItems] using hP
    obtain ⟨t, rfl⟩ := intItems_at hv
    obtain ⟨h1, h2⟩ := argBest_lt (numAt xs) (xs.size - 1)
    have hk' : ∀ b o, s.heap.get? b = some o → h'.get? b = some o := fun b o e => by
      refine hk b o (fun hm => ?_) (Heap.get?_push_of_some _ e)
      rcases List.mem_cons.mp hm with e1 | hm
      · exact absurd (e1 ▸ Heap.lt_size e) (Nat.lt_irrefl _)
      · cases hm
    refine ⟨.int _, H, I.kept hk', ⟨_, rfl⟩, q _ ?_ fun y ha => ?_⟩
    · rw [numAt_eq]; exact PySem.getD_mem (by rw [List.length_map, Array.length_toList]; omega)
    · obtain ⟨j, hj, rfl⟩ := mem_getD ha
      rw [List.length_map, Array.length_toList] at hj
      rw [← numAt_eq]; exact h2 j (by omega)
/-- t.index(i), the first place, of ints -/
def rTIdx (K : PySem.W.Frag) : V → List V → Hp → VK → Prop := fun x xs H Q => ∃ p, ∃ ys : List Int, ∃ z j, x = .ref p ∧ xs = [.int z] ∧ SqT K H p (ys.map V.int) ∧ ys[j]? = some z ∧ (∀ m, m < j → ys[m]? ≠ some z) ∧ Q (.int (j : Nat)) H
theorem flat_ints (ys : List Int) : (ys.map V.int).all flatV = true := by
  rw [List.all_map]
  exact List.all_eq_true.mpr fun _ _ => rfl
theorem mt_tup_indexI : MtR X "tuple.index" (rTIdx X.K) := by
  intro pins s σ H x xs v us Q I rx rs h
  obtain ⟨p, ys, z, j, rfl, rfl, hq, hy, hno, q⟩ := h
  cases rx
  obtain ⟨u, rfl, t, rfl⟩ := vals1 rs
  obtain ⟨its, r, pl, hz⟩ := I.tuple hq
  obtain ⟨⟨cls, dd, dt, sl⟩, ho, hc, n, hd⟩ := pl
  simp only at hc hd
  subst hc
  subst hd
  have hl : its.toArray.size = ys.length := by rw [List.size_toArray, ← r.length, List.length_map]
  have hj : j < its.toArray.size := by rw [hl]; exact (List.getElem?_eq_some_iff.mp hy).1
  have at' : ∀ (m : Nat) (hm : m < its.toArray.size), ∃ y t', ys[m]? = some y ∧ its.toArray[m] = Value.int y t' := fun m hm => by
    have hm' : m < ys.length := by rw [← hl]; exact hm
    obtain ⟨w, hw, t', hw'⟩ := r.get (i := m) (x := .int ys[m]) (by simp [hm'])
    refine ⟨ys[m], t', List.getElem?_eq_getElem hm', ?_⟩
    have e := (List.getElem?_eq_some_iff.mp hw).2
    rw [← hw', ← e]
    simp
  have mt : ∀ (m : Nat) (hm : m < its.toArray.size), ∀ y, ys[m]? = some y → eqU (.int z) its.toArray[m] = eqV (.int y) (.int z) := fun m hm y h1 => by
    obtain ⟨y', t', h2, h3⟩ := at' m hm
    rw [h1] at h2
    cases h2
    rw [h3]
    exact eqU_of (show RelV (.int y) (Value.int y t') from ⟨t', rfl⟩) rfl
  refine call_meets PySem.F.slot_tuple_index ⟨_, ho, rfl⟩ PySem.F.entry_tuple_index (PySem.F.args_tuple_index_2 _ _) (TI.tuple_indexAt p its.toArray n dd sl (.int z t) (eqU (.int z)) j hj ?_ ?_)
    ⟨ho, fun w hw => mem_eqAt (x := .int z) ⟨t, rfl⟩ rfl r (flat_ints ys) w (by simpa using hw), ⟨.int (j : Nat), H, I.tok _, ⟨_, rfl⟩, q⟩⟩
  · rw [mt j hj z hy]
    show (z == z) = true
    exact beq_self_eq_true z
  · intro m hm hmj
    obtain ⟨y, t', h1, h2⟩ := at' m hm
    rw [mt m hm y h1]
    show (y == z) = false
    exact beq_eq_false_iff_ne.mpr fun e => hno m hmj (e ▸ h1)
end
theorem b_abs : bootBuiltins "abs" = some (.builtin "abs") := by decide +kernel
end SK
namespace SK
open PySem PySem.Spec PyProof.Rows L2 LamX
/-! ### the least price, the cheapest sign, the cheapest way -/
def mnI : List Int → Int
  | [] => 0
  | [x] => x
  | x :: y :: r => min x (mnI (y :: r))
theorem mnI_le : ∀ (l : List Int), ∀ y ∈ l, mnI l ≤ y
  | [], y, h => by cases h
  | [x], y, h => by
    have e : y = x := by simpa using h
    rw [e]
    exact Int.le_refl _
  | x :: z :: r, y, h => by
    have ih := mnI_le (z :: r)
    show min x (mnI (z :: r)) ≤ y
    rcases List.mem_cons.mp h with e | e
    · omega
    · have := ih y e
      omega
theorem mnI_mem : ∀ (l : List Int), l ≠ [] → mnI l ∈ l
  | [], h => absurd rfl h
  | [x], _ => by simp [mnI]
  | x :: z :: r, _ => by
    have ih := mnI_mem (z :: r) (by simp)
    show min x (mnI (z :: r)) ∈ x :: z :: r
    by_cases h : x ≤ mnI (z :: r)
    · rw [Int.min_eq_left h]
      exact List.mem_cons_self ..
    · rw [Int.min_eq_right (by omega)]
      exact List.mem_cons_of_mem _ ih
theorem mnI_of {l : List Int} {m : Int} (h1 : m ∈ l) (h2 : ∀ y ∈ l, m ≤ y) : m = mnI l := by
  have a := h2 _ (mnI_mem l (by intro z; rw [z] at h1; cases h1))
  have b := mnI_le l m h1
  omega
def csg (p : Pl) : Nat := 97 + p.pr.idxOf (mnI p.pr)
theorem signs_mem {many c : Nat} (hm : many ≤ 4) : c ∈ signs many ↔ 97 ≤ c ∧ c < 97 + many := by
  have h : many = 0 ∨ many = 1 ∨ many = 2 ∨ many = 3 ∨ many = 4 := by omega
  rcases h with h | h | h | h | h <;> subst h <;> simp [signs] <;> omega
theorem Pl.Ok.ne {p : Pl} (ok : p.Ok) : p.pr ≠ [] := fun z => by
  have h1 := ok.pl
  have h2 := ok.m1
  rw [z] at h1
  simp at h1
  omega
theorem csg_lt {p : Pl} (ok : p.Ok) : p.pr.idxOf (mnI p.pr) < p.many := by
  rw [← ok.pl]
  exact List.idxOf_lt_length_iff.mpr (mnI_mem _ ok.ne)
theorem csg_in {p : Pl} (ok : p.Ok) : csg p ∈ signs p.many := by
  have := csg_lt ok
  exact (signs_mem ok.m4).mpr ⟨by unfold csg; omega, by unfold csg; omega⟩
theorem cst_csg {p : Pl} (ok : p.Ok) : cst p (csg p) = mnI p.pr := by
  have h := csg_lt ok
  have h2 : p.pr.idxOf (mnI p.pr) < p.pr.length := by rw [ok.pl]; exact h
  unfold cst csg
  rw [if_neg (by omega), Nat.add_sub_cancel_left]
  simp [List.getD, List.getElem?_eq_getElem h2, List.getElem_idxOf h2]
theorem mn_in {p : Pl} (ok : p.Ok) : 1 ≤ mnI p.pr ∧ mnI p.pr ≤ 99 := ok.pr _ (mnI_mem _ ok.ne)
theorem cst_sign {p : Pl} (ok : p.Ok) {c : Nat} (h : c ∈ signs p.many) : cst p c ∈ p.pr := by
  have h' := (signs_mem ok.m4).mp h
  unfold cst
  rw [if_neg (by omega)]
  have h2 : c - 97 < p.pr.length := by rw [ok.pl]; omega
  simp [List.getD, List.getElem?_eq_getElem h2]
theorem cst_in {p : Pl} (ok : p.Ok) {c : Nat} (h : c = 45 ∨ c ∈ signs p.many) : 1 ≤ cst p c ∧ cst p c ≤ 99 := by
  by_cases e : c = 45
  · unfold cst
    rw [if_pos e]
    exact ⟨ok.q1, ok.q9⟩
  · exact ok.pr _ (cst_sign ok (h.resolve_left e))
theorem pay_p {p : Pl} (ok : p.Ok) : Pay p.many (mnI p.pr) p.pop (cst p) := by
  have := mn_in ok
  have := ok.q1
  exact ⟨by unfold cst; rw [if_pos rfl], fun c hc => mnI_le _ _ (cst_sign ok hc), by omega, by omega⟩
theorem pay_1 (many : Nat) : Pay many 1 1 (fun _ => 1) := ⟨rfl, fun _ _ => Int.le_refl _, by decide, by decide⟩
def wkey (p : Pl) (w : Nat × Nat) : Int := (w.1 : Int) * p.pop + (w.2 : Int) * (mnI p.pr + p.pop)
def chW (p : Pl) (t : Tr) : Nat × Nat := (ways p.room t).getD (bestN (fun i => wkey p ((ways p.room t).getD i (0, 0))) (ways p.room t).length) (0, 0)
theorem chW_k {p : Pl} {t : Tr} (h : t.k ≠ 0) : chW p t = (t.g, phi p.room t) := by
  unfold chW ways
  rw [if_neg h]
  rfl
theorem chW_0 {p : Pl} {t : Tr} (h : t.k = 0) : chW p t = if wkey p (p.room, 0) < wkey p (0, p.room - t.l.length) then (p.room, 0) else (0, p.room - t.l.length) := by
  unfold chW ways
  rw [if_pos h]
  show [(0, p.room - t.l.length), (p.room, 0)].getD (if decide (wkey p (p.room, 0) < wkey p (0, p.room - t.l.length)) = true then 1 else 0) (0, 0) = _
  by_cases c : wkey p (p.room, 0) < wkey p (0, p.room - t.l.length)
  · rw [decide_eq_true c, if_pos rfl, if_pos c]
    rfl
  · rw [decide_eq_false c, if_neg (by decide), if_neg c]
    rfl
theorem chW_mem (p : Pl) (t : Tr) : chW p t ∈ ways p.room t := by
  by_cases h : t.k = 0
  · rw [chW_0 h]
    unfold ways
    rw [if_pos h]
    split <;> simp
  · rw [chW_k h]
    unfold ways
    rw [if_neg h]
    simp
theorem wprice_key (p : Pl) (t : Tr) (w : Nat × Nat) : wprice (mnI p.pr) p.pop (cst p) t.l w = wkey p w + sprc (cst p) t.l := by
  unfold wprice wkey
  omega
theorem chW_LB (p : Pl) (t : Tr) : wprice (mnI p.pr) p.pop (cst p) t.l (chW p t) = LB p.room (mnI p.pr) p.pop (cst p) t := by
  unfold LB
  by_cases h : t.k = 0
  · rw [if_pos h, chW_0 h]
    simp only [wprice_key]
    split <;> omega
  · rw [if_neg h, chW_k h]
theorem ways_le {p : Pl} (ok : p.Ok) {t : Tr} (a : TrOk p.room p.many t) {w : Nat × Nat} (h : w ∈ ways p.room t) : w.1 ≤ 9 ∧ w.2 ≤ 9 := by
  have := ok.r9
  have := a.gk
  unfold ways at h
  split at h
  · rcases List.mem_cons.mp h with e | e
    · rw [e]
      exact ⟨by omega, by show p.room - _ ≤ 9; omega⟩
    · have e' : w = (p.room, 0) := by simpa using e
      rw [e']
      exact ⟨by show p.room ≤ 9; omega, by show 0 ≤ 9; omega⟩
  · have e' : w = (t.g, phi p.room t) := by simpa using h
    rw [e']
    exact ⟨by show t.g ≤ 9; omega, by show phi p.room t ≤ 9; unfold phi; omega⟩
/-- the cheapest steps -/
def chS (p : Pl) (t : Tr) : List Nat := wayS (csg p) (chW p t) t.l
theorem chS_in {p : Pl} (ok : p.Ok) {t : Tr} (a : TrOk p.room p.many t) : ∀ c ∈ chS p t, c = 45 ∨ c ∈ signs p.many := way_in (csg_in ok) a.s
theorem chS_told {p : Pl} (ok : p.Ok) {t : Tr} (a : TrOk p.room p.many t) : ttold p.room (chS p t) = t := way_told ok.r1 a (csg_in ok) (chW_mem p t)
theorem chS_price {p : Pl} (ok : p.Ok) (t : Tr) : sprc (cst p) (chS p t) = LB p.room (mnI p.pr) p.pop (cst p) t := by
  unfold chS
  rw [way_price (pay_p ok) (cst_csg ok), chW_LB]
theorem chS_len {p : Pl} (ok : p.Ok) {t : Tr} (a : TrOk p.room p.many t) : (chS p t).length ≤ 40 := by
  have h := ways_le ok a (chW_mem p t)
  have := ok.r9
  have := a.kl
  unfold chS
  rw [way_len]
  omega
def few (p : Pl) (t : Tr) : Int := LB p.room 1 1 (fun _ => 1) t
theorem sprc_1 (l : List Nat) : sprc (fun _ => 1) l = (l.length : Int) := by
  induction l with
  | nil => rfl
  | cons c r ih =>
    have e : sprc (fun _ => 1) (c :: r) = 1 + sprc (fun _ => 1) r := by simp [sprc]
    rw [e, ih]
    simp
    omega
/-! ### pairs of ints in the heap -/
def PairsAt (H : Hp) : List (Nat × Nat) → List V → Prop
  | [], vs => vs = []
  | w :: r, vs => ∃ a s, vs = .ref a :: s ∧ H a = some (.tup [.int (w.1 : Int), .int (w.2 : Int)]) ∧ PairsAt H r s
theorem PairsAt.tups {H H' : Hp} (e : Tups H H') : ∀ {ws : List (Nat × Nat)} {vs : List V}, PairsAt H ws vs → PairsAt H' ws vs
  | [], _, h => h
  | _ :: _, _, ⟨a, s, h1, h2, h3⟩ => ⟨a, s, h1, e _ _ h2, h3.tups e⟩
theorem PairsAt.len {H : Hp} : ∀ {ws : List (Nat × Nat)} {vs : List V}, PairsAt H ws vs → vs.length = ws.length
  | [], _, h => by cases h; rfl
  | _ :: r, _, ⟨a, s, h1, h2, h3⟩ => by
    subst h1
    show s.length + 1 = r.length + 1
    rw [h3.len]
theorem PairsAt.get {H : Hp} : ∀ {ws : List (Nat × Nat)} {vs : List V}, PairsAt H ws vs → ∀ {i : Nat} {x : V}, vs[i]? = some x → ∃ w a, ws[i]? = some w ∧ x = .ref a ∧ H a = some (.tup [.int (w.1 : Int), .int (w.2 : Int)])
  | [], vs, h, i, x, e => by
    cases h
    cases e
  | w :: r, vs, ⟨a, s, h1, h2, h3⟩, i, x, e => by
    subst h1
    cases i with
    | zero =>
      cases e
      exact ⟨w, a, rfl, rfl, h2⟩
    | succ i => exact h3.get (i := i) e
/-! ### all but the tables stands -/
def givN (T : List (Addr × Str)) (v : V) (H : Hp) (Q : VK) : Prop := ∀ H', ExtN H H' → Tabs T H' → Q v H'
theorem ExtN.ofS {H H' : Hp} (s : Same H H') : ExtN H H' := fun b o h _ => s b o h
theorem Tabs.same {T : List (Addr × Str)} {H H' : Hp} (t : Tabs T H) (s : Same H H') : Tabs T H' := t.ext s
theorem PlanAt.ext {H H' : Hp} {v : V} {p : Pl} (h : PlanAt H v p) (e : ExtN H H') : PlanAt H' v p := h.tups (Tups.ofN e)
theorem TripAt.ext {H H' : Hp} {v : V} {t : Tr} (h : TripAt H v t) (e : ExtN H H') : TripAt H' v t := h.tups (Tups.ofN e)
theorem BoxAt.ext {H H' : Hp} {p q : Addr} {ns : List Int} {z : Int} (h : BoxAt H p q ns z) (e : ExtN H H') : BoxAt H' p q ns z := ⟨e _ _ h.b (by intro ps z; cases z), e _ _ h.l (by intro ps z; cases z), h.ne⟩
theorem Tabs.keep {T : List (Addr × Str)} {H H' : Hp} {p q : Addr} {ns : List Int} {z : Int} (t : Tabs T H) (b : BoxAt H p q ns z) (k : Keep p q H H') : Tabs T H' := fun x hx => by
  obtain ⟨ps, h1, h2, h3⟩ := t x hx
  refine ⟨ps, ?_, h2, fun pos cv hc => ?_⟩
  · exact k _ _ h1 (ne_of h1 b.b (by intro z; cases z)) (ne_of h1 b.l (by intro z; cases z))
  · obtain ⟨c, e1, e2⟩ := h3 pos cv hc
    exact ⟨c, e1, k _ _ e2 (ne_of e2 b.b (by intro z; unfold CodeO at z; cases z)) (ne_of e2 b.l (by intro z; unfold CodeO at z; cases z))⟩
/-! ### promises -/
def spPSteps : Sp := fun vs H Q _ => ∃ v p l, vs = [v, .str (tx l)] ∧ PlanAt H v p ∧ p.Ok ∧ l.length ≤ 10000 ∧ (∀ c ∈ l, c = 45 ∨ c ∈ signs p.many) ∧ giv (.int (sprc (cst p) l)) H Q
def spWays : Sp := fun vs H Q _ => ∃ v p u t, vs = [v, u] ∧ PlanAt H v p ∧ p.Ok ∧ TripAt H u t ∧ TrOk p.room p.many t ∧ ∀ (D : Addr) (H' : Hp) (xs : List V), Same H H' → H D = none → H' D = some (.lst xs) → PairsAt H' (ways p.room t) xs → Q (.ref D) H'
def spCSign : Sp := fun vs H Q _ => ∃ v p, vs = [v] ∧ PlanAt H v p ∧ p.Ok ∧ giv (.str (tx [csg p])) H Q
def spStepsW : Sp := fun vs H Q _ => ∃ v p a w l, vs = [v, .ref a, .str (tx l)] ∧ PlanAt H v p ∧ p.Ok ∧ H a = some (.tup [.int ((w : Nat × Nat).1 : Int), .int (w.2 : Int)]) ∧ w.1 ≤ 9 ∧ w.2 ≤ 9 ∧ l.length ≤ 9 ∧ giv (.str (tx (wayS (csg p) w l))) H Q
def spChWay (T : List (Addr × Str)) : Sp := fun vs H Q _ => ∃ v p u t, vs = [v, u] ∧ PlanAt H v p ∧ p.Ok ∧ TripAt H u t ∧ TrOk p.room p.many t ∧ Tabs T H ∧ ∀ (a : Addr) (H' : Hp), ExtN H H' → Tabs T H' → H' a = some (.tup [.int ((chW p t).1 : Int), .int ((chW p t).2 : Int)]) → Q (.ref a) H'
def spCheap (T : List (Addr × Str)) : Sp := fun vs H Q _ => ∃ v p u t, vs = [v, u] ∧ PlanAt H v p ∧ p.Ok ∧ TripAt H u t ∧ TrOk p.room p.many t ∧ Tabs T H ∧ ∀ (a : Addr) (H' : Hp), ExtN H H' → Tabs T H' → H' a = some (.tup [.int (LB p.room (mnI p.pr) p.pop (cst p) t), .str (tx (chS p t))]) → Q (.ref a) H'
def spFill (T : List (Addr × Str)) : Sp := fun vs H Q _ => ∃ v p u t, vs = [v, u] ∧ PlanAt H v p ∧ p.Ok ∧ TripAt H u t ∧ TrOk p.room p.many t ∧ Tabs T H ∧ givN T (.int ((chW p t).2 : Int)) H Q
def spFew : Sp := fun vs H Q _ => ∃ v p u t, vs = [v, u] ∧ PlanAt H v p ∧ p.Ok ∧ TripAt H u t ∧ TrOk p.room p.many t ∧ giv (.int (few p t)) H Q
def spJudged : Sp := fun vs H Q _ => ∃ v p u t l, vs = [v, u, .str (tx l)] ∧ PlanAt H v p ∧ p.Ok ∧ TripAt H u t ∧ TrOk p.room p.many t ∧ l.length ≤ 10000 ∧ (∀ c ∈ l, c = 45 ∨ c ∈ signs p.many) ∧ ttold p.room l = t ∧ giv (.int (sprc (cst p) l)) H Q
def spLawT (K : PySem.W.Frag) (T : List (Addr × Str)) : Sp := fun vs H Q _ => ∃ (a : Addr) (ns : List Int), vs = [.ref a] ∧ SqL K H a (ns.map V.int) ∧ ns.length ≤ 63 ∧ Tabs T H ∧ ∀ H', Q (.bl true) H'
end SK
/-! what comes ahead of a stack: the mathematics of row 7 -/
namespace SK
/-! ### all texts of one size, in turn -/
theorem lay_add (many a : Nat) : ∀ b, lay many (a + b) = (lay many a).flatMap fun x => (lay many b).map fun y => x ++ y
  | 0 => by
    show lay many a = (lay many a).flatMap fun x => [x ++ []]
    have e : (fun x : List Nat => [x ++ []]) = fun x => [x] := funext fun x => by rw [List.append_nil]
    rw [e]
    induction lay many a with
    | nil => rfl
    | cons x r ih => rw [List.flatMap_cons, ← ih]; rfl
  | b + 1 => by
    show (lay many (a + b)).flatMap (fun l => (signs many).map fun c => l ++ [c]) = _
    rw [lay_add many a b, List.flatMap_assoc]
    refine congrArg (fun f => (lay many a).flatMap f) (funext fun x => ?_)
    show _ = (((lay many b).flatMap fun l => (signs many).map fun c => l ++ [c])).map fun y => x ++ y
    rw [List.map_flatMap, List.flatMap_map]
    refine congrArg (fun f => (lay many b).flatMap f) (funext fun y => ?_)
    rw [List.map_map]
    refine congrArg (fun f => (signs many).map f) (funext fun c => ?_)
    show x ++ y ++ [c] = x ++ (y ++ [c])
    rw [List.append_assoc]
theorem lex_snoc {x y : List Nat} (h : x < y) (hl : x.length = y.length) (c d : Nat) : x ++ [c] < y ++ [d] := by
  induction x generalizing y with
  | nil =>
    cases y with
    | nil => exact absurd h (List.lt_irrefl _)
    | cons b y => cases hl
  | cons a x ih =>
    cases y with
    | nil => cases hl
    | cons b y =>
      rcases List.cons_lt_cons_iff.mp h with h1 | ⟨h1, h2⟩
      · exact List.cons_lt_cons_iff.mpr (.inl h1)
      · exact List.cons_lt_cons_iff.mpr (.inr ⟨h1, ih h2 (Nat.succ.inj hl)⟩)
theorem lex_last {x : List Nat} {c d : Nat} (h : c < d) : x ++ [c] < x ++ [d] := by
  induction x with
  | nil => exact List.cons_lt_cons_iff.mpr (.inl h)
  | cons a x ih => exact List.cons_lt_cons_iff.mpr (.inr ⟨rfl, ih⟩)
theorem signs_up (many : Nat) : (signs many).Pairwise (· < ·) := by
  unfold signs
  exact List.Pairwise.sublist (List.take_sublist _ _) (by decide)
theorem lay_up (many : Nat) : ∀ n, (lay many n).Pairwise (· < ·)
  | 0 => List.pairwise_singleton _ _
  | n + 1 => by
    show ((lay many n).flatMap fun l => (signs many).map fun c => l ++ [c]).Pairwise _
    rw [List.pairwise_flatMap]
    refine ⟨fun l _ => ?_, ?_⟩
    · rw [List.pairwise_map]
      exact (signs_up many).imp fun h => lex_last h
    · refine (List.Pairwise.and_mem.mp (lay_up many n)).imp fun {x y} h => ?_
      intro u hu v hv
      obtain ⟨c, _, rfl⟩ := List.mem_map.mp hu
      obtain ⟨d, _, rfl⟩ := List.mem_map.mp hv
      exact lex_snoc h.2.2 ((lay_mem h.1).1.trans (lay_mem h.2.1).1.symm) c d
theorem mem_lay {many : Nat} : ∀ {n : Nat} {l : List Nat}, l.length = n → (∀ c ∈ l, c ∈ signs many) → l ∈ lay many n
  | 0, l, h, _ => by
    have e := List.length_eq_zero_iff.mp h
    subst e
    exact List.mem_singleton.mpr rfl
  | n + 1, l, h, hs => by
    have hne : l ≠ [] := fun z => by
      subst z
      cases h
    show l ∈ (lay many n).flatMap fun l => (signs many).map fun c => l ++ [c]
    refine List.mem_flatMap.mpr ⟨l.dropLast, mem_lay (by rw [List.length_dropLast, h]; rfl) (fun c hc => hs c (List.dropLast_subset l hc)), ?_⟩
    refine List.mem_map.mpr ⟨l.getLast hne, hs _ (List.getLast_mem hne), List.dropLast_concat_getLast hne⟩
theorem mem_stk {many : Nat} : ∀ {n : Nat} {l : List Nat}, l.length ≤ n → (∀ c ∈ l, c ∈ signs many) → l ∈ stk many n
  | 0, l, h, hs => mem_lay (Nat.le_zero.mp h) hs
  | n + 1, l, h, hs => by
    show l ∈ stk many n ++ lay many (n + 1)
    by_cases h1 : l.length = n + 1
    · exact List.mem_append_right _ (mem_lay h1 hs)
    · exact List.mem_append_left _ (mem_stk (by omega) hs)
/-- by size, then as texts rise -/
def Bef (x y : List Nat) : Prop := x.length < y.length ∨ (x.length = y.length ∧ x < y)
theorem stk_up (many : Nat) : ∀ n, (stk many n).Pairwise Bef
  | 0 => List.pairwise_singleton _ _
  | n + 1 => by
    show (stk many n ++ lay many (n + 1)).Pairwise _
    rw [List.pairwise_append]
    refine ⟨stk_up many n, ?_, fun x hx y hy => .inl ?_⟩
    · exact (List.Pairwise.and_mem.mp (lay_up many (n + 1))).imp fun {x y} h => .inr ⟨(lay_mem h.1).1.trans (lay_mem h.2.1).1.symm, h.2.2⟩
    · have := (stk_mem hx).1
      have := (lay_mem hy).1
      omega
theorem filter_one {α : Type} {R : α → α → Prop} (irr : ∀ x, ¬ R x x) (p : α → Bool) {u : α} (hp : ∀ x, p x = true ↔ x = u) : ∀ {l : List α}, l.Pairwise R → u ∈ l → l.filter p = [u]
  | [], _, h => by cases h
  | x :: r, hw, h => by
    obtain ⟨h1, h2⟩ := List.pairwise_cons.mp hw
    by_cases hx : x = u
    · subst hx
      rw [List.filter_cons_of_pos ((hp x).mpr rfl)]
      have e : r.filter p = [] := List.filter_eq_nil_iff.mpr fun y hy hpy => by
        have := (hp y).mp hpy
        subst this
        exact irr _ (h1 _ hy)
      rw [e]
    · rw [List.filter_cons_of_neg (fun z => hx ((hp x).mp z))]
      rcases List.mem_cons.mp h with h | h
      · exact absurd h.symm hx
      · exact filter_one irr p hp h2 h
theorem lay_first (many : Nat) (h : 1 ≤ many) : ∀ n, (lay many n).head? = some (List.replicate n 97)
  | 0 => rfl
  | n + 1 => by
    have ih := lay_first many h n
    show ((lay many n).flatMap fun l => (signs many).map fun c => l ++ [c]).head? = _
    cases e : lay many n with
    | nil =>
      rw [e] at ih
      cases ih
    | cons x r =>
      rw [e] at ih
      have ex : x = List.replicate n 97 := Option.some.inj ih
      subst ex
      have es : ∃ r2, signs many = 97 :: r2 := by
        obtain ⟨m, rfl⟩ : ∃ m, many = m + 1 := ⟨many - 1, by omega⟩
        exact ⟨_, rfl⟩
      obtain ⟨r2, es⟩ := es
      rw [List.flatMap_cons, es, List.map_cons, List.cons_append, List.head?_cons, ← List.replicate_succ']
/-! ### how many -/
def tupto (many : Nat) : Nat → Nat
  | 0 => 1
  | n + 1 => tupto many n + many ^ (n + 1)
theorem signs_l {many : Nat} (h : many ≤ 4) : (signs many).length = many := by
  unfold signs
  rw [List.length_take]
  exact Nat.min_eq_left h
theorem lay_l {many : Nat} (h : many ≤ 4) (n : Nat) : (lay many n).length = many ^ n := by rw [lay_len, signs_l h]
theorem stk_l {many : Nat} (h : many ≤ 4) : ∀ n, (stk many n).length = tupto many n
  | 0 => rfl
  | n + 1 => by
    show (stk many n ++ lay many (n + 1)).length = _
    rw [List.length_append, stk_l h n, lay_l h]
    rfl
/-- the stacks that become this one -/
def bef (room many : Nat) (t : Tr) (s : List Nat) : List (List Nat) := (stk many room).filter fun x => decide (tby t x = s)
def bleft (room many g k u : Nat) : Nat := if k = 0 then tupto many room else if u = 0 then tupto many g else if u < k then many ^ g else many ^ g * tupto many (room - k - g)
def bfirst (g : Nat) (u : List Nat) : List Nat := if u = [] then [] else u ++ List.replicate g 97
theorem tby_iff {t : Tr} {u x : List Nat} : tby t x = u ++ t.l ↔ tp t.k (ct t.g x) = u := by
  unfold tby
  exact List.append_left_inj _
/-- parts of the stacks, size by size -/
theorem stk_filter_const {many : Nat} (p : List Nat → Bool) {c : Nat} {F : List (List Nat)} (h : ∀ m, m ≠ c → (lay many m).filter p = []) (hc : (lay many c).filter p = F) : ∀ n, (stk many n).filter p = if c ≤ n then F else []
  | 0 => by
    show (lay many 0).filter p = _
    by_cases h0 : c = 0
    · subst h0
      rw [if_pos (Nat.le_refl _)]
      exact hc
    · rw [if_neg (by omega)]
      exact h 0 (by omega)
  | n + 1 => by
    show (stk many n ++ lay many (n + 1)).filter p = _
    rw [List.filter_append, stk_filter_const p h hc n]
    by_cases h1 : c = n + 1
    · subst h1
      rw [if_neg (by omega), if_pos (Nat.le_refl _), List.nil_append, hc]
    · rw [h _ (fun z => h1 z.symm), List.append_nil]
      by_cases h2 : c ≤ n
      · rw [if_pos h2, if_pos (by omega)]
      · rw [if_neg h2, if_neg (by omega)]
theorem lay_filter_app {many : Nat} (p : List Nat → Bool) (a b : Nat) : (lay many (a + b)).filter p = (lay many a).flatMap fun x => ((lay many b).map fun y => x ++ y).filter p := by
  rw [lay_add, List.filter_flatMap]
theorem tp_nil_iff {k : Nat} (h : 0 < k) {x : List Nat} : tp k x = [] ↔ x = [] := by
  constructor
  · intro e
    have := congrArg List.length e
    rw [len_tp, List.length_nil] at this
    exact List.length_eq_zero_iff.mp (by omega)
  · intro e
    subst e
    exact tp_all (Nat.zero_le _)
theorem ct_nil_iff {g : Nat} {x : List Nat} : ct g x = [] ↔ x.length ≤ g := by
  constructor
  · intro e
    have := congrArg List.length e
    rw [len_ct] at this
    simp at this
    omega
  · exact ct_all
theorem ct_app_eq {g : Nat} {x y : List Nat} (h : y.length = g) : ct g (x ++ y) = x := by
  rw [ct_app_ge (by omega), h, Nat.sub_self, ct_zero]
theorem filter_all {α : Type} (p : α → Bool) (l : List α) (h : ∀ x ∈ l, p x = true) : l.filter p = l := List.filter_eq_self.mpr h
theorem filter_none {α : Type} (p : α → Bool) (l : List α) (h : ∀ x ∈ l, ¬ p x = true) : l.filter p = [] := List.filter_eq_nil_iff.mpr h
theorem flatMap_pick {α β : Type} (f : α → List β) (g : α → List β) : ∀ (l : List α), (∀ x ∈ l, f x = g x) → l.flatMap f = l.flatMap g
  | [], _ => rfl
  | x :: r, h => by
    rw [List.flatMap_cons, List.flatMap_cons, h x (List.mem_cons_self ..), flatMap_pick f g r fun y hy => h y (List.mem_cons_of_mem _ hy)]
theorem flatMap_if {α β : Type} (p : α → Bool) (g : α → List β) : ∀ (l : List α), (l.flatMap fun x => if p x = true then g x else []) = (l.filter p).flatMap g
  | [] => rfl
  | x :: r => by
    rw [List.flatMap_cons, flatMap_if p g r]
    by_cases h : p x = true
    · rw [if_pos h, List.filter_cons_of_pos h, List.flatMap_cons]
    · rw [if_neg h, List.filter_cons_of_neg h, List.nil_append]
theorem stk_filter_le {many : Nat} (g : Nat) (p : List Nat → Bool) (hp : ∀ x, p x = true ↔ x.length ≤ g) : ∀ n, (stk many n).filter p = stk many (min n g)
  | 0 => by
    show (lay many 0).filter p = _
    rw [Nat.zero_min]
    exact filter_all p _ fun x hx => (hp x).mpr (by have := (lay_mem hx).1; omega)
  | n + 1 => by
    show (stk many n ++ lay many (n + 1)).filter p = _
    rw [List.filter_append, stk_filter_le g p hp n]
    by_cases h : n + 1 ≤ g
    · rw [filter_all p (lay many (n + 1)) fun x hx => (hp x).mpr (by have := (lay_mem hx).1; omega), Nat.min_eq_left h, Nat.min_eq_left (by omega)]
      rfl
    · rw [filter_none p (lay many (n + 1)) fun x hx z => h (by have := (hp x).mp z; have := (lay_mem hx).1; omega), List.append_nil]
      congr 1
      omega
theorem stk_first (many : Nat) : ∀ n, (stk many n).head? = some []
  | 0 => rfl
  | n + 1 => by
    show (stk many n ++ lay many (n + 1)).head? = _
    rw [List.head?_append, stk_first many n]
    rfl
/-- where as many stay as can -/
theorem stk_filter_deep {many g : Nat} (hm : many ≤ 4) (h1 : 1 ≤ many) {u : List Nat} (u0 : u.length ≠ 0) (p : List Nat → Bool) (hu : ∀ c ∈ u, c ∈ signs many) (hp : ∀ x, p x = true ↔ tp u.length (ct g x) = u) : ∀ n,
    ((stk many n).filter p).length = (if n < u.length + g then 0 else many ^ g * tupto many (n - (u.length + g))) ∧ ((stk many n).filter p).head? = if n < u.length + g then none else some (u ++ List.replicate g 97) := by
  have hlow : ∀ m, m < u.length + g → (lay many m).filter p = [] := fun m hm => filter_none _ _ fun x hx z => by
    have e := congrArg List.length ((hp x).mp z)
    rw [len_tp, len_ct] at e
    have := (lay_mem hx).1
    omega
  have hat : ∀ j, (lay many (j + u.length + g)).filter p = (lay many j).flatMap fun w => (lay many g).map fun v => w ++ u ++ v := fun j => by
    rw [lay_filter_app]
    have e1 : ((lay many (j + u.length)).flatMap fun x => ((lay many g).map fun y => x ++ y).filter p) = (lay many (j + u.length)).flatMap fun x => if decide (tp u.length x = u) = true then (lay many g).map fun y => x ++ y else [] :=
      flatMap_pick _ _ _ fun x hx => by
        by_cases h : tp u.length x = u
        · rw [if_pos (decide_eq_true h)]
          refine filter_all _ _ fun z hz => ?_
          obtain ⟨y, hy, rfl⟩ := List.mem_map.mp hz
          exact (hp _).mpr (by rw [ct_app_eq (lay_mem hy).1]; exact h)
        · rw [if_neg (fun z => h (of_decide_eq_true z))]
          refine filter_none _ _ fun z hz hz2 => ?_
          obtain ⟨y, hy, rfl⟩ := List.mem_map.mp hz
          have := (hp _).mp hz2
          rw [ct_app_eq (lay_mem hy).1] at this
          exact h this
    rw [e1, flatMap_if (fun x => decide (tp u.length x = u)), lay_filter_app]
    have e2 : ((lay many j).flatMap fun x => ((lay many u.length).map fun y => x ++ y).filter fun x => decide (tp u.length x = u)) = (lay many j).flatMap fun x => [x ++ u] :=
      flatMap_pick _ _ _ fun x hx => by
        rw [List.filter_map]
        have e3 : (lay many u.length).filter ((fun x => decide (tp u.length x = u)) ∘ fun y => x ++ y) = (lay many u.length).filter fun y => decide (y = u) := List.filter_congr fun y hy => by
          have hy2 := (lay_mem hy).1
          show decide (tp u.length (x ++ y) = u) = decide (y = u)
          have e4 : tp u.length (x ++ y) = y := by
            rw [tp_app, hy2, Nat.sub_self, tp_zero, List.nil_append]
            exact tp_all (Nat.le_of_eq hy2)
          rw [e4]
        rw [e3, filter_one (R := (· < ·)) (fun x => List.lt_irrefl x) (fun y => decide (y = u)) (u := u) (fun x => decide_eq_true_iff) (lay_up many _) (mem_lay rfl hu)]
        rfl
    rw [e2, List.flatMap_assoc]
    exact flatMap_pick _ _ _ fun x hx => by simp
  have hlen : ∀ j, ((lay many (j + u.length + g)).filter p).length = many ^ j * many ^ g := fun j => by
    rw [hat]
    have : ∀ l : List (List Nat), (l.flatMap fun w => (lay many g).map fun v => w ++ u ++ v).length = l.length * many ^ g := fun l => by
      induction l with
      | nil => simp
      | cons w r ih => rw [List.flatMap_cons, List.length_append, ih, List.length_map, lay_l hm, List.length_cons, Nat.succ_mul, Nat.add_comm]
    rw [this, lay_l hm]
  intro n
  induction n with
  | zero =>
    show ((lay many 0).filter p).length = _ ∧ ((lay many 0).filter p).head? = _
    by_cases h : 0 < u.length + g
    · rw [hlow 0 h, if_pos h, if_pos h]
      exact ⟨rfl, rfl⟩
    · have e : u = [] := List.length_eq_zero_iff.mp (by omega)
      have e2 : g = 0 := by omega
      subst e e2
      rw [if_neg (by simp), if_neg (by simp)]
      have := hat 0
      simp only [List.length_nil, Nat.add_zero] at this
      rw [this]
      simp [lay, tupto]
  | succ n ih =>
    have e : (stk many (n + 1)).filter p = (stk many n).filter p ++ (lay many (n + 1)).filter p := by
      show (stk many n ++ lay many (n + 1)).filter p = _
      rw [List.filter_append]
    rw [e, List.length_append, List.head?_append, ih.1, ih.2]
    by_cases h : n + 1 < u.length + g
    · rw [if_pos h, if_pos h, if_pos (by omega), if_pos (by omega), hlow _ h]
      exact ⟨rfl, rfl⟩
    · rw [if_neg h, if_neg h]
      by_cases h2 : n < u.length + g
      · rw [if_pos h2, if_pos h2]
        have h3 : n + 1 = 0 + u.length + g := by omega
        rw [h3, hlen, hat]
        have e5 : 0 + u.length + g - (u.length + g) = 0 := by omega
        rw [e5]
        refine ⟨by simp [tupto], ?_⟩
        show (((lay many 0).flatMap fun w => (lay many g).map fun v => w ++ u ++ v)).head? = _
        show ((((lay many g).map fun v => [] ++ u ++ v)) ++ []).head? = _
        rw [List.append_nil, List.head?_map, lay_first many h1]
        simp
      · rw [if_neg h2, if_neg h2]
        have h3 : n + 1 = (n + 1 - (u.length + g)) + u.length + g := by omega
        have h4 : n + 1 - (u.length + g) = (n - (u.length + g)) + 1 := by omega
        have hl := hlen (n + 1 - (u.length + g))
        rw [← h3] at hl
        rw [hl, h4]
        refine ⟨?_, by simp⟩
        show _ = many ^ g * (tupto many (n - (u.length + g)) + many ^ (n - (u.length + g) + 1))
        rw [Nat.mul_add, Nat.mul_comm (many ^ (n - (u.length + g) + 1))]
theorem bef_is {room many : Nat} {t : Tr} (ok : TrOk room many t) (h1 : 1 ≤ many) (h4 : many ≤ 4) {u : List Nat} (hu : u.length ≤ t.k) (hs : ∀ c ∈ u, c ∈ signs many) :
    (bef room many t (u ++ t.l)).length = bleft room many t.g t.k u.length ∧ (bef room many t (u ++ t.l)).head? = some (bfirst t.g u) := by
  have gk := ok.gk
  have hz := ok.z
  unfold bef bleft
  have e0 : (stk many room).filter (fun x => decide (tby t x = u ++ t.l)) = (stk many room).filter (fun x => decide (tp t.k (ct t.g x) = u)) := List.filter_congr fun x _ => decide_eq_decide.mpr tby_iff
  rw [e0]
  by_cases k0 : t.k = 0
  · have eu : u = [] := List.length_eq_zero_iff.mp (by omega)
    subst eu
    rw [if_pos k0, filter_all _ _ fun x _ => decide_eq_true (by rw [k0, tp_zero]), stk_l h4, stk_first]
    exact ⟨rfl, rfl⟩
  · rw [if_neg k0]
    by_cases u0 : u.length = 0
    · have eu : u = [] := List.length_eq_zero_iff.mp u0
      subst eu
      rw [if_pos u0, stk_filter_le t.g _ (fun x => by rw [decide_eq_true_iff, tp_nil_iff (by omega), ct_nil_iff]), Nat.min_eq_right (by omega), stk_l h4, stk_first]
      exact ⟨rfl, rfl⟩
    · have une : u ≠ [] := fun z => u0 (by rw [z]; rfl)
      have ef : bfirst t.g u = u ++ List.replicate t.g 97 := by
        unfold bfirst
        rw [if_neg une]
      rw [if_neg u0, ef]
      by_cases uk : u.length < t.k
      · rw [if_pos uk]
        have hp : ∀ x : List Nat, tp t.k (ct t.g x) = u ↔ ct t.g x = u := fun x => by
          constructor
          · intro e
            have e2 := congrArg List.length e
            rw [len_tp] at e2
            rw [tp_all (by omega)] at e
            exact e
          · intro e
            rw [e]
            exact tp_all (by omega)
        have hF : ∀ m, m ≠ u.length + t.g → (lay many m).filter (fun x => decide (tp t.k (ct t.g x) = u)) = [] := fun m hm => filter_none _ _ fun x hx z => by
          have e := congrArg List.length ((hp x).mp (of_decide_eq_true z))
          rw [len_ct, (lay_mem hx).1] at e
          omega
        have hc : (lay many (u.length + t.g)).filter (fun x => decide (tp t.k (ct t.g x) = u)) = (lay many t.g).map fun v => u ++ v := by
          rw [lay_filter_app]
          have e1 : ((lay many u.length).flatMap fun x => ((lay many t.g).map fun y => x ++ y).filter fun x => decide (tp t.k (ct t.g x) = u)) = (lay many u.length).flatMap fun x => if decide (x = u) = true then (lay many t.g).map fun y => x ++ y else [] :=
            flatMap_pick _ _ _ fun x hx => by
              by_cases h : x = u
              · rw [if_pos (decide_eq_true h)]
                refine filter_all _ _ fun z hz => ?_
                obtain ⟨y, hy, rfl⟩ := List.mem_map.mp hz
                exact decide_eq_true ((hp _).mpr (by rw [ct_app_eq (lay_mem hy).1]; exact h))
              · rw [if_neg (fun z => h (of_decide_eq_true z))]
                refine filter_none _ _ fun z hz hz2 => ?_
                obtain ⟨y, hy, rfl⟩ := List.mem_map.mp hz
                have := (hp _).mp (of_decide_eq_true hz2)
                rw [ct_app_eq (lay_mem hy).1] at this
                exact h this
          rw [e1, flatMap_if (fun x => decide (x = u)), filter_one (R := (· < ·)) (fun x => List.lt_irrefl x) (fun y => decide (y = u)) (u := u) (fun x => decide_eq_true_iff) (lay_up many _) (mem_lay rfl hs)]
          simp
        rw [stk_filter_const _ hF hc room, if_pos (by omega), List.length_map, lay_l h4, List.head?_map, lay_first many h1]
        exact ⟨rfl, rfl⟩
      · have ek : t.k = u.length := by omega
        rw [if_neg uk]
        have d := stk_filter_deep (many := many) (g := t.g) h4 h1 u0 (fun x => decide (tp t.k (ct t.g x) = u)) hs (fun x => by rw [decide_eq_true_iff, ek]) room
        rw [if_neg (by omega), if_neg (by omega)] at d
        have e6 : room - (u.length + t.g) = room - t.k - t.g := by omega
        rw [e6] at d
        exact d
theorem bef_no {room many : Nat} {t : Tr} {s : List Nat} (h : ¬ ∃ u : List Nat, u.length ≤ t.k ∧ s = u ++ t.l) : bef room many t s = [] :=
  filter_none _ _ fun x _ z => h ⟨tp t.k (ct t.g x), by rw [len_tp]; exact Nat.min_le_left .., (of_decide_eq_true z).symm⟩
end SK
namespace SK
open PySem PySem.Spec PyProof.Rows L2
/-! ### (int, text) > (int, text) -/
theorem RcOp_gt_str {A : Around} {s : Shared} (a b : Str) (t u : Tok) : Ob.RcOp .Gt A s (.str a t) (.str b u) (decide (b.cps.toList < a.cps.toList)) := fun _ _ _ _ h => PySem.P.gt_str h
def rGtIS (K : PySem.W.Frag) : R2 := fun x y H Q => ∃ (a b : Addr) (i j : Int) (l m : List Nat), x = .ref a ∧ y = .ref b ∧ SqT K H a [.int i, .str (tx l)] ∧ SqT K H b [.int j, .str (tx m)] ∧
  Q (.bl (if i = j then (if l = m then false else decide (m < l)) else decide (j < i))) H
theorem op_gtIS {X : Cx} (hu : X.A.units < cLine) : OpR X (compareOp .Gt) (rGtIS X.K) := by
  intro pins s σ H x y v u Q I rx ry h
  obtain ⟨a, b, i, j, l, m, rfl, rfl, ha, hb, q⟩ := h
  cases rx
  cases ry
  obtain ⟨its, r1, p1, _⟩ := I.tuple ha
  obtain ⟨its2, r2, p2, _⟩ := I.tuple hb
  cases r1 with
  | cons x1 y1 =>
  cases y1 with
  | cons x2 y2 =>
  cases y2
  cases r2 with
  | cons w1 z1 =>
  cases z1 with
  | cons w2 z2 =>
  cases z2
  obtain ⟨t1, rfl⟩ := x1
  obtain ⟨t2, rfl⟩ := x2
  obtain ⟨t3, rfl⟩ := w1
  obtain ⟨t4, rfl⟩ := w2
  have R := Ob.RcOp.tuples_gt (A := X.A) (s := s) (e := fun n => if n = 0 then decide (i = j) else decide (l = m)) (r := fun n => if n = 0 then decide (j < i) else decide (m < l)) p1 p2 hu (fun n h1 h2 => by
    match n, h1, h2 with
    | 0, _, _ =>
      show SeqAt.EqAt _ _ (Value.int i t1) (.int j t3) (decide (i = j))
      have z : (i == j) = decide (i = j) := rfl
      rw [← z]
      exact SeqAt.EqAt.int_int _ _ _ _
    | 1, _, _ =>
      show SeqAt.EqAt _ _ (Value.str (tx l) t2) (.str (tx m) t4) (decide (l = m))
      have z : (tx l == tx m) = decide (l = m) := by
        by_cases e : l = m
        · subst e
          simp
        · rw [decide_eq_false e]
          exact beq_eq_false_iff_ne.mpr fun z => e (str_inj.mp z)
      rw [← z]
      exact SeqAt.EqAt.str_str _ _ _ _
    | n + 2, h1, _ => exact absurd h1 (by simp)) (fun n h1 h2 _ => by
    match n, h1, h2 with
    | 0, _, _ => exact Ob.RcOp.gt_int _ _ _ _
    | 1, _, _ => exact RcOp_gt_str _ _ _ _
    | n + 2, h1, _ => exact absurd h1 (by simp))
  refine R X.prog X.w _ _ ?_
  refine fin_bl I q ?_
  show _ = _
  simp [Ob.lexAt]
/-! ### what comes ahead -/
abbrev fz (l : List Nat) : V := V.str (tx l)
def hdV : Option (List Nat) → V
  | none => .non
  | some l => fz l
def BefAt (H : Hp) (v : V) (n : Nat) (o : Option (List Nat)) : Prop := ∃ a, v = .ref a ∧ H a = some (.tup [.int (n : Int), hdV o])
def spSize : Sp := fun vs H Q _ => ∃ many n : Nat, vs = [.int (many : Int), .int (n : Int)] ∧ many ≤ 4 ∧ n ≤ 9 ∧ giv (.int ((many ^ n : Nat) : Int)) H Q
def spUpto : Sp := fun vs H Q _ => ∃ many n : Nat, vs = [.int (many : Int), .int (n : Int)] ∧ many ≤ 4 ∧ n ≤ 9 ∧ giv (.int ((tupto many n : Nat) : Int)) H Q
def spLeft : Sp := fun vs H Q _ => ∃ (v : V) (p : Pl) (g k u : Nat), vs = [v, .int (g : Int), .int (k : Int), .int (u : Int)] ∧ PlanAt H v p ∧ p.Ok ∧ g + k ≤ p.room ∧ giv (.int ((bleft p.room p.many g k u : Nat) : Int)) H Q
def spBefores : Sp := fun vs H Q _ => ∃ v p u t l, vs = [v, u, .str (tx l)] ∧ PlanAt H v p ∧ p.Ok ∧ TripAt H u t ∧ TrOk p.room p.many t ∧ l.length ≤ p.room ∧ (∀ c ∈ l, c ∈ signs p.many) ∧
  ∀ (H' : Hp) (w : V), Same H H' → BefAt H' w (bef p.room p.many t l).length (bef p.room p.many t l).head? → Q w H'
theorem alk_bef {H : Hp} {k : Nat} {v w : V} {n : Nat} {o : Option (List Nat)} (hv : BefAt H v n o) (hw : BefAt H w n o) : Alk H (k + 2) v w := by
  obtain ⟨a, rfl, ha⟩ := hv
  obtain ⟨b, rfl, hb⟩ := hw
  refine .inr ⟨a, b, _, _, rfl, rfl, .inl ⟨ha, hb⟩, rfl, by show 2 ≤ 10000; decide, fun i x y e1 e2 => ?_⟩
  have e : x = y := Option.some.inj (e1.symm.trans e2)
  subst e
  refine .inl ⟨rfl, ?_⟩
  match i, e1 with
  | 0, e1 => cases e1; trivial
  | 1, e1 =>
    cases e1
    cases o with
    | none => trivial
    | some l => trivial
theorem mulZ {a b : Nat} (h : a ≤ 1000000000) : (-(2 ^ 64) < (a : Int) ∧ (a : Int) < 2 ^ 64) := by
  constructor <;> omega
theorem pow_le9 {many n : Nat} (h : many ≤ 4) (h9 : n ≤ 9) : many ^ n ≤ 262144 := by
  calc many ^ n ≤ 4 ^ n := Nat.pow_le_pow_left h n
    _ ≤ 4 ^ 9 := Nat.pow_le_pow_right (by decide) h9
    _ = 262144 := by decide
theorem tupto_sum (many : Nat) : ∀ n, ((List.range (n + 1)).map fun i => many ^ i).sum = tupto many n
  | 0 => by simp [tupto]
  | n + 1 => by
    rw [List.range_succ, List.map_append, List.sum_append, tupto_sum many n]
    simp [tupto]
theorem ends_app {a b : List Nat} : Txt.endswith (tx a) (tx b) = decide (b <:+ a) := by
  unfold Txt.endswith Builtin.Str.subAt
  rw [tx_len, tx_len, Nat.zero_add]
  by_cases h : b.length ≤ a.length
  · rw [decide_eq_true h, Bool.true_and]
    have e : (tx a).cps.extract (a.length - b.length) (a.length - b.length + b.length) = (a.drop (a.length - b.length)).toArray := by
      show a.toArray.extract _ _ = _
      have e1 : a.length - b.length + b.length = a.length := by omega
      rw [e1]
      simp
      rw [List.take_of_length_le (by rw [List.length_drop]; omega)]
    rw [e]
    show ((a.drop (a.length - b.length)).toArray == b.toArray) = _
    by_cases e2 : a.drop (a.length - b.length) = b
    · have hs : b <:+ a := ⟨a.take (a.length - b.length), by
        conv => rhs; rw [← List.take_append_drop (a.length - b.length) a, e2]⟩
      rw [e2, decide_eq_true hs]
      simp
    · have hs : ¬ b <:+ a := by
        rintro ⟨u, rfl⟩
        refine e2 ?_
        rw [List.length_append, Nat.add_sub_cancel, List.drop_left]
      rw [decide_eq_false hs]
      exact beq_eq_false_iff_ne.mpr fun z => e2 (by simpa using z)
  · have hs : ¬ b <:+ a := by
      rintro ⟨u, rfl⟩
      exact h (by rw [List.length_append]; omega)
    rw [decide_eq_false h, Bool.false_and, decide_eq_false hs]
theorem tby_in {room many : Nat} {t : Tr} (ok : TrOk room many t) {x : List Nat} (h : ∀ c ∈ x, c ∈ signs many) : ∀ c ∈ tby t x, c ∈ signs many := fun c hc => by
  rcases List.mem_append.mp (show c ∈ tp t.k (ct t.g x) ++ t.l from hc) with h1 | h1
  · exact h c (mem_ct (mem_tp h1))
  · exact ok.s c h1
theorem bef_mem {room many : Nat} {t : Tr} {s x : List Nat} : x ∈ bef room many t s ↔ x ∈ stk many room ∧ tby t x = s := by
  unfold bef
  rw [List.mem_filter, decide_eq_true_iff]
theorem head_le {α : Type} {R : α → α → Prop} {l : List α} {x y : α} (h : l.Pairwise R) (hx : l.head? = some x) (hy : y ∈ l) : y = x ∨ R x y := by
  cases l with
  | nil => cases hx
  | cons z r =>
    cases hx
    rcases List.mem_cons.mp hy with e | e
    · exact .inl e
    · exact .inr ((List.pairwise_cons.mp h).1 y e)
/-- the first of those is not behind any of them -/
theorem bef_least {room many : Nat} {t : Tr} {s x f : List Nat} (hf : (bef room many t s).head? = some f) (hx : x ∈ bef room many t s) : (if (f.length : Int) = (x.length : Int) then (if f = x then false else decide (x < f)) else decide ((x.length : Int) < (f.length : Int))) = false := by
  have hp : (bef room many t s).Pairwise Bef := (stk_up many room).filter _
  rcases head_le hp hf hx with e | e
  · subst e
    simp
  · rcases e with e | ⟨e1, e2⟩
    · rw [if_neg (by omega)]
      exact decide_eq_false (by omega)
    · rw [if_pos (by omega)]
      by_cases h : f = x
      · rw [if_pos h]
      · rw [if_neg h]
        exact decide_eq_false fun z => List.lt_irrefl _ (List.lt_trans e2 z)
end SK
namespace SK
open PySem PySem.Spec PyProof.Rows L2
theorem szl2 {n : Nat} (h : n ≤ 3000000) : n < sizeLine := Nat.lt_of_lt_of_le (show n < 16777216 by omega) (by decide)
end SK
namespace SK
open PySem PySem.Spec PyProof.Rows L2
/-- len of a list or a tuple, its frame named -/
def rLenS (K : PySem.W.Frag) : List V → Hp → VK → Prop := fun xs H Q => ∃ p ys, xs = [.ref p] ∧ (SqL K H p ys ∨ SqT K H p ys) ∧ Q (.int (ys.length : Int)) H
theorem call_lenS {X : Cx} : CallR X (.builtin "len") (rLenS X.K) := call_len_seq
end SK
namespace SK
open PySem PySem.Spec PyProof.Rows L2
/-! ### an attribute as a target -/
def gFld (K : PySem.W.Frag) (ta : TE) (f : Str) : TG := fun v σ H Q => ta σ H fun x H1 => ∃ a C dx fs, x = .ref a ∧ H1 a = some (.ins C dx fs) ∧ Cls K C ∧ NoAttr K C f ∧ fs.length < 1000 ∧ Q σ (upd H1 a (.ins C dx (putF f v fs)))
theorem pg_fld {X : Cx} {o : Expr} {ta : TE} {f : Str} {pos : Pos} (ho : PE X o ta) : PG X (.Attribute o f pos) (gFld X.K ta f) := by
  refine ⟨fun pins s σ H v u Q I r h => ?_⟩
  refine PySem.W.kas_attr (thn (ho.run pins s σ H _ I h) fun ov s1 ⟨x, H1, I1, rx, a, C, dx, fs, ex, ea, c, n, l, q⟩ => ?_)
  subst ex
  obtain rfl : ov = Value.ref a := rx
  exact setattr_ok I1 ea c n l r fun s2 I2 => ⟨σ, _, I2, q⟩
/-! ### methods by their class -/
structure Dm (K : PySem.W.Frag) (C : Addr) (m q : Str) (st : Stmt) (ps : List Str) : Prop where
  ex : ∃ (f : Addr) (fd : FuncData), L2.Fun K m q st f fd ∧ Meth K C m f ∧ Binds K fd ps []
structure Di (K : PySem.W.Frag) (mg : Str → Option Value) (C : Addr) (x q : Str) (st : Stmt) (ps : List Str) : Prop where
  ex : ∃ (f : Addr) (fd : FuncData), L2.Fun K "__init__" q st f fd ∧ Mk K C f ∧ mg x = some (.ref C) ∧ Binds K fd ps []
section
variable {P : Program} {w : World} {K : PySem.W.Frag} {mg : Str → Option Value} {base : Heap} {C : Addr}
theorem Dm.met {m q : Str} {st : Stmt} {N ps : List Str} {k : Nat} {sp : Sp} (D : Dm K C m q st ps) (c : Cls K C) (S : FnScope N ps (defScope st)) (len : ∀ vs H Q E, sp vs H Q E → vs.length = ps.length)
    (hbody : ∀ (f : Addr) (cdv : Value) (A : Around) (outer : List Env) (s : Shared) (H : Hp) (vs : List V) (Q : VK) (E : XK), Room k (A.deeper (envOfC q (defScope st) s.heap.objs.size f cdv)) → sp vs H Q E →
      ∃ t, PSs (cxOf CX0 P w K mg base N q (defScope st) f cdv A outer s H E).nox (defBody st) t ∧ t { nx := fun _ H' => Q .non H', rt := Q } (start N vs) H) : C8.Met P w K mg base (k + 1) C m sp [] := by
  obtain ⟨f, fd, F, hm, b⟩ := D.ex
  exact ⟨f, fd, ps, [], c, hm, F.ok S len (fun cdv A outer s H vs Q E => hbody f cdv A outer s H vs Q E), b, .nil⟩
theorem Di.mak {x q : Str} {st : Stmt} {N ps : List Str} {k : Nat} {sp : Sp} (D : Di K mg C x q st ps) (S : FnScope N ps (defScope st)) (len : ∀ vs H Q E, sp vs H Q E → vs.length = ps.length)
    (hbody : ∀ (f : Addr) (cdv : Value) (A : Around) (outer : List Env) (s : Shared) (H : Hp) (vs : List V) (Q : VK) (E : XK), Room k (A.deeper (envOfC q (defScope st) s.heap.objs.size f cdv)) → sp vs H Q E →
      ∃ t, PSs (cxOf CX0 P w K mg base N q (defScope st) f cdv A outer s H E).nox (defBody st) t ∧ t { nx := fun _ H' => Q .non H', rt := Q } (start N vs) H) : C8.Mak P w K mg base (k + 1) x C sp [] := by
  obtain ⟨f, fd, F, M, hm, b⟩ := D.ex
  exact ⟨f, fd, ps, [], M, F.ok S len (fun cdv A outer s H vs Q E => hbody f cdv A outer s H vs Q E), hm, b, .nil⟩
theorem dm_mk {m q : Str} {st : Stmt} {ps : List Str} {f : Addr} {oc : Value} {od an : Option Addr} {osl : Array (Option Value)} {kV doc pm cd ct : Value}
    (a : PySem.W.findIn K (.ref C) m = some (some (.ref f))) (i : PySem.W.isFn K (.ref f) = true) (l : K.lookup f = some ⟨oc, od, .func (PySem.W.fnOf m q (defArgs st) (defBody st) (defScope st) .none kV doc pm an cd ct), osl⟩)
    (c : PySem.W.codeIn K cd q = true) (k : PySem.W.keepIn K (.ref f) = true)
    (hb : ∀ (kV doc pm : Value) (an : Option Addr) (cdv ct : Value) (us : List Value), us.length = ps.length → bindArgs (PySem.W.fnOf m q (defArgs st) (defBody st) (defScope st) .none kV doc pm an cdv ct) ⟨us, []⟩ = pure (ps.zip us)) : Dm K C m q st ps := by
  have F := fun_mk (st := st) l c k
  exact ⟨f, _, F, ⟨a, i, k⟩, F.binds hb⟩
theorem di_mk {x q : Str} {st : Stmt} {ps : List Str} {h : Heap} {f : Addr} {oc : Value} {od an : Option Addr} {osl : Array (Option Value)} {kV doc pm cd ct : Value} (X : K.In h) (G : h.Ns mainGlobals mg)
    (aC : PySem.W.nsIn K mainGlobals x = some (some (.ref C))) (mk : PySem.W.makesIn K C = true) (kc : PySem.W.keepIn K (.ref C) = true)
    (a : PySem.W.findIn K (.ref C) "__init__" = some (some (.ref f))) (i : PySem.W.isFn K (.ref f) = true) (l : K.lookup f = some ⟨oc, od, .func (PySem.W.fnOf "__init__" q (defArgs st) (defBody st) (defScope st) .none kV doc pm an cd ct), osl⟩)
    (c : PySem.W.codeIn K cd q = true) (k : PySem.W.keepIn K (.ref f) = true)
    (hb : ∀ (kV doc pm : Value) (an : Option Addr) (cdv ct : Value) (us : List Value), us.length = ps.length → bindArgs (PySem.W.fnOf "__init__" q (defArgs st) (defBody st) (defScope st) .none kV doc pm an cdv ct) ⟨us, []⟩ = pure (ps.zip us)) : Di K mg C x q st ps := by
  have F := fun_mk (st := st) l c k
  exact ⟨f, _, F, ⟨mk, a, i, kc⟩, PySem.W.mg_of X G aC, F.binds hb⟩
end
/-- the machine's class as the top has made it -/
structure MT (K : PySem.W.Frag) (C : Addr) : Prop where
  cl : Cls K C
  nPlan : NoAttr K C "_plan"
  nStack : NoAttr K C "_stack"
  nSpent : NoAttr K C "_spent"
  nTriple : NoAttr K C "_triple"
  nPast : NoAttr K C "_past"
/-! ### a machine as it stands in the heap -/
structure MS where
  p : Pl
  l : List Nat
  z : Int
  t : Tr
  past : List (List Nat × Int × Tr)
structure MS.Ok (m : MS) : Prop where
  p : m.p.Ok
  l : m.l.length ≤ m.p.room
  s : ∀ c ∈ m.l, c ∈ signs m.p.many
  t : TrOk m.p.room m.p.many m.t
  past : ∀ x ∈ m.past, x.1.length ≤ m.p.room ∧ (∀ c ∈ x.1, c ∈ signs m.p.many) ∧ TrOk m.p.room m.p.many x.2.2
def mf (pv : V) (l : List Nat) (z : Int) (tv : V) (pa : Addr) : List (Str × V) := [("_plan", pv), ("_stack", .str (tx l)), ("_spent", .int z), ("_triple", tv), ("_past", .ref pa)]
theorem n_st_pl : ¬ (("_stack" : Str) = "_plan") := by decide +kernel
theorem n_sp_pl : ¬ (("_spent" : Str) = "_plan") := by decide +kernel
theorem n_sp_st : ¬ (("_spent" : Str) = "_stack") := by decide +kernel
theorem n_tr_pl : ¬ (("_triple" : Str) = "_plan") := by decide +kernel
theorem n_tr_st : ¬ (("_triple" : Str) = "_stack") := by decide +kernel
theorem n_tr_sp : ¬ (("_triple" : Str) = "_spent") := by decide +kernel
theorem n_pa_pl : ¬ (("_past" : Str) = "_plan") := by decide +kernel
theorem n_pa_st : ¬ (("_past" : Str) = "_stack") := by decide +kernel
theorem n_pa_sp : ¬ (("_past" : Str) = "_spent") := by decide +kernel
theorem n_pa_tr : ¬ (("_past" : Str) = "_triple") := by decide +kernel
theorem bne_of {a b : Str} (h : ¬ a = b) : (a == b) = false := beq_eq_false_iff_ne.mpr h
section
variable {pv tv : V} {l : List Nat} {z : Int} {pa : Addr}
theorem mf_plan : (mf pv l z tv pa).lookup ("_plan" : Str) = some pv := by simp [mf]
theorem mf_stack : (mf pv l z tv pa).lookup ("_stack" : Str) = some (.str (tx l)) := by simp [mf, List.lookup, bne_of n_st_pl]
theorem mf_spent : (mf pv l z tv pa).lookup ("_spent" : Str) = some (.int z) := by simp [mf, List.lookup, bne_of n_sp_pl, bne_of n_sp_st]
theorem mf_triple : (mf pv l z tv pa).lookup ("_triple" : Str) = some tv := by simp [mf, List.lookup, bne_of n_tr_pl, bne_of n_tr_st, bne_of n_tr_sp]
theorem mf_past : (mf pv l z tv pa).lookup ("_past" : Str) = some (.ref pa) := by simp [mf, List.lookup, bne_of n_pa_pl, bne_of n_pa_st, bne_of n_pa_sp, bne_of n_pa_tr]
end
end SK
namespace SK
open PySem PySem.Spec PyProof.Rows L2
section
variable {pv tv : V} {l : List Nat} {z : Int} {pa : Addr}
theorem sy {a b : Str} (h : ¬ a = b) : ¬ b = a := fun e => h e.symm
theorem put_stack (y : List Nat) : putF "_stack" (.str (tx y)) (mf pv l z tv pa) = mf pv y z tv pa := by
  unfold mf
  simp [putF, sy n_st_pl]
theorem put_spent (y : Int) : putF "_spent" (.int y) (mf pv l z tv pa) = mf pv l y tv pa := by
  unfold mf
  simp [putF, sy n_sp_pl, sy n_sp_st]
theorem put_triple (y : V) : putF "_triple" y (mf pv l z tv pa) = mf pv l z y pa := by
  unfold mf
  simp [putF, sy n_tr_pl, sy n_tr_st, sy n_tr_sp]
theorem mf_new (y : V) : putF "_past" (.ref pa) (putF "_triple" tv (putF "_spent" (.int z) (putF "_stack" (.str (tx l)) (putF "_plan" pv [])))) = mf pv l z tv pa := by
  unfold mf
  simp [putF, sy n_st_pl, sy n_sp_pl, sy n_sp_st, sy n_tr_pl, sy n_tr_st, sy n_tr_sp, sy n_pa_pl, sy n_pa_st, sy n_pa_sp, sy n_pa_tr]
theorem mf_no {m : Str} (h1 : ¬ m = "_plan") (h2 : ¬ m = "_stack") (h3 : ¬ m = "_spent") (h4 : ¬ m = "_triple") (h5 : ¬ m = "_past") : (mf pv l z tv pa).lookup m = none := by
  unfold mf
  simp [List.lookup, bne_of h1, bne_of h2, bne_of h3, bne_of h4, bne_of h5]
end
def PastAt (H : Hp) : List (List Nat × Int × Tr) → List V → Prop
  | [], vs => vs = []
  | x :: r, vs => ∃ a tv s, vs = .ref a :: s ∧ H a = some (.tup [.str (tx x.1), .int x.2.1, tv]) ∧ TripAt H tv x.2.2 ∧ PastAt H r s
theorem PastAt.tups {H H' : Hp} (e : Tups H H') : ∀ {ps : List (List Nat × Int × Tr)} {vs : List V}, PastAt H ps vs → PastAt H' ps vs
  | [], _, h => h
  | _ :: _, _, ⟨a, tv, s, h1, h2, h3, h4⟩ => ⟨a, tv, s, h1, e _ _ h2, h3.tups e, h4.tups e⟩
theorem PastAt.len {H : Hp} : ∀ {ps : List (List Nat × Int × Tr)} {vs : List V}, PastAt H ps vs → vs.length = ps.length
  | [], _, h => by cases h; rfl
  | _ :: r, _, ⟨a, tv, s, h1, h2, h3, h4⟩ => by
    subst h1
    show s.length + 1 = r.length + 1
    rw [h4.len]
theorem PastAt.snoc {H : Hp} {x : List Nat × Int × Tr} {a : Addr} {tv : V} (ha : H a = some (.tup [.str (tx x.1), .int x.2.1, tv])) (ht : TripAt H tv x.2.2) : ∀ {ps : List (List Nat × Int × Tr)} {vs : List V}, PastAt H ps vs → PastAt H (ps ++ [x]) (vs ++ [.ref a])
  | [], _, h => by
    cases h
    exact ⟨a, tv, [], rfl, ha, ht, rfl⟩
  | _ :: _, _, ⟨b, tv', s, h1, h2, h3, h4⟩ => by
    subst h1
    exact ⟨b, tv', s ++ [.ref a], rfl, h2, h3, h4.snoc ha ht⟩
/-- the last one -/
theorem PastAt.last {H : Hp} {x : List Nat × Int × Tr} : ∀ {ps : List (List Nat × Int × Tr)} {vs : List V}, PastAt H (ps ++ [x]) vs → ∃ a tv us, vs = us ++ [.ref a] ∧ H a = some (.tup [.str (tx x.1), .int x.2.1, tv]) ∧ TripAt H tv x.2.2 ∧ PastAt H ps us
  | [], _, ⟨a, tv, s, h1, h2, h3, h4⟩ => by
    have h4' : s = [] := h4
    subst h4' h1
    exact ⟨a, tv, [], rfl, h2, h3, rfl⟩
  | _ :: r, _, ⟨b, tv', s, h1, h2, h3, h4⟩ => by
    obtain ⟨a, tv, us, e1, e2, e3, e4⟩ := PastAt.last (ps := r) h4
    subst h1 e1
    exact ⟨a, tv, .ref b :: us, rfl, e2, e3, b, tv', us, rfl, h2, h3, e4⟩
structure MAt (C : Addr) (H : Hp) (x pa : Addr) (m : MS) : Prop where
  ob : ∃ dx pv tv, H x = some (.ins C dx (mf pv m.l m.z tv pa)) ∧ PlanAt H pv m.p ∧ TripAt H tv m.t
  pl : ∃ xs, H pa = some (.lst xs) ∧ PastAt H m.past xs
theorem MAt.ne {C : Addr} {H : Hp} {x pa : Addr} {m : MS} (M : MAt C H x pa m) : x ≠ pa := by
  obtain ⟨dx, pv, tv, h, _⟩ := M.ob
  obtain ⟨xs, h2, _⟩ := M.pl
  exact ne_of h h2 (by intro z; cases z)
theorem Keep.tupsM {C : Addr} {H H' : Hp} {x pa : Addr} {m : MS} (k : Keep x pa H H') (M : MAt C H x pa m) : Tups H H' := by
  obtain ⟨dx, pv, tv, h, _⟩ := M.ob
  obtain ⟨xs, h2, _⟩ := M.pl
  exact ⟨fun b ys e => k b _ e (ne_of e h (by intro z; cases z)) (ne_of e h2 (by intro z; cases z)), fun b o ys e => k b _ e (ne_of e h (by intro z; cases z)) (ne_of e h2 (by intro z; cases z))⟩
theorem MAt.mono {C : Addr} {H H' : Hp} {x pa : Addr} {m : MS} (M : MAt C H x pa m) (s : Same H H') : MAt C H' x pa m := by
  obtain ⟨⟨dx, pv, tv, h1, h2, h3⟩, xs, h4, h5⟩ := M
  exact ⟨⟨dx, pv, tv, s _ _ h1, h2.mono s, h3.mono s⟩, xs, s _ _ h4, h5.tups (Tups.of s)⟩
def MS.deed (m : MS) (t : Tr) (z : Int) : MS := ⟨m.p, tby t m.l, m.z + z, tjoin m.t t, m.past ++ [(m.l, m.z, m.t)]⟩
theorem MS.Ok.deed {m : MS} (ok : m.Ok) {t : Tr} (tok : TrOk m.p.room m.p.many t) (z : Int) : (m.deed t z).Ok := by
  refine ⟨ok.p, tby_len tok m.l, fun c hc => ?_, tjoin_ok ok.t tok, fun x hx => ?_⟩
  · rcases List.mem_append.mp (show c ∈ tp t.k (ct t.g m.l) ++ t.l from hc) with h1 | h1
    · exact ok.s c (mem_ct (mem_tp h1))
    · exact tok.s c h1
  · rcases List.mem_append.mp hx with h | h
    · exact ok.past x h
    · have e : x = (m.l, m.z, m.t) := by simpa using h
      subst e
      exact ⟨ok.l, ok.s, ok.t⟩
theorem Keep.two {p q : Addr} {H H' : Hp} (k : Keep p q H H') (o : HO) : Keep p q H (upd H' q o) := fun b u e h1 h2 => by
  rw [upd_ne h2]
  exact k b u e h1 h2
/-! ### promises -/
def spMInit (C : Addr) : Sp := fun vs H Q _ => ∃ (x dx : Addr) (v : V) (p : Pl) (l : List Nat), vs = [.ref x, v, .str (tx l)] ∧ H x = some (.ins C dx []) ∧ PlanAt H v p ∧ p.Ok ∧ l.length ≤ p.room ∧ (∀ c ∈ l, c ∈ signs p.many) ∧
  ∀ (H' : Hp) (pa : Addr), (∀ b o, H b = some o → b ≠ x → H' b = some o) → H pa = none → MAt C H' x pa ⟨p, l, 0, tunt p.room, []⟩ → Q .non H'
def spMDeed (C : Addr) : Sp := fun vs H Q _ => ∃ (x pa : Addr) (m : MS) (u : V) (t : Tr) (z : Int), vs = [.ref x, u, .int z] ∧ MAt C H x pa m ∧ m.Ok ∧ m.past.length ≤ 1000 ∧ TripAt H u t ∧ TrOk m.p.room m.p.many t ∧ ∀ H', Keep x pa H H' → MAt C H' x pa (m.deed t z) → Q .non H'
def spMStep (C : Addr) : Sp := fun vs H Q _ => ∃ (x pa : Addr) (m : MS) (c : Nat), vs = [.ref x, .str (tx [c])] ∧ MAt C H x pa m ∧ m.Ok ∧ m.past.length ≤ 1000 ∧ (c = 45 ∨ c ∈ signs m.p.many) ∧ ∀ H', Keep x pa H H' → MAt C H' x pa (m.deed (tstep m.p.room c) (cst m.p c)) → Q .non H'
def spMDo (C : Addr) : Sp := fun vs H Q _ => ∃ (x pa : Addr) (m : MS) (u : V) (w : W), vs = [.ref x, u] ∧ MAt C H x pa m ∧ m.Ok ∧ m.past.length ≤ 1000 ∧ WAt H w u ∧ WOk m.p.many w ∧ ∀ H', Keep x pa H H' → MAt C H' x pa (m.deed (w.tri m.p.room) (w.prc (cst m.p))) → Q (.str (tx (tby (w.tri m.p.room) m.l))) H'
/-- what falls out, what was on top -/
def fallV (room : Nat) (l : List Nat) : V := match l with
  | [] => .non
  | c :: _ => if l.length = room then .str (tx [c]) else .non
def topV (l : List Nat) : V := match l.getLast? with
  | none => .non
  | some c => .str (tx [c])
def spMPush (C : Addr) : Sp := fun vs H Q _ => ∃ (x pa : Addr) (m : MS) (c : Nat), vs = [.ref x, .str (tx [c])] ∧ MAt C H x pa m ∧ m.Ok ∧ m.past.length ≤ 1000 ∧ c ∈ signs m.p.many ∧ ∀ H', Keep x pa H H' → MAt C H' x pa (m.deed (tstep m.p.room c) (cst m.p c)) → Q (fallV m.p.room m.l) H'
def spMPop (C : Addr) : Sp := fun vs H Q _ => ∃ (x pa : Addr) (m : MS), vs = [.ref x] ∧ MAt C H x pa m ∧ m.Ok ∧ m.past.length ≤ 1000 ∧ ∀ H', Keep x pa H H' → MAt C H' x pa (m.deed (tstep m.p.room 45) (cst m.p 45)) → Q (topV m.l) H'
def spMBack (C : Addr) : Sp := fun vs H Q _ => ∃ (x pa : Addr) (m : MS), vs = [.ref x] ∧ MAt C H x pa m ∧ (m.past = [] → giv (.bl false) H Q) ∧
  (∀ (ps : List (List Nat × Int × Tr)) (y : List Nat × Int × Tr), m.past = ps ++ [y] → ∀ H', Keep x pa H H' → MAt C H' x pa ⟨m.p, y.1, y.2.1, y.2.2, ps⟩ → Q (.bl true) H')
def spMStack (C : Addr) : Sp := fun vs H Q _ => ∃ (x pa : Addr) (m : MS), vs = [.ref x] ∧ MAt C H x pa m ∧ giv (.str (tx m.l)) H Q
def spMSpent (C : Addr) : Sp := fun vs H Q _ => ∃ (x pa : Addr) (m : MS), vs = [.ref x] ∧ MAt C H x pa m ∧ giv (.int m.z) H Q
def spMTriple (C : Addr) : Sp := fun vs H Q _ => ∃ (x pa : Addr) (m : MS), vs = [.ref x] ∧ MAt C H x pa m ∧ ∀ v, TripAt H v m.t → Q v H
def spMDeeds (C : Addr) : Sp := fun vs H Q _ => ∃ (x pa : Addr) (m : MS), vs = [.ref x] ∧ MAt C H x pa m ∧ giv (.int (m.past.length : Int)) H Q
def spChSign : Sp := fun vs H Q _ => ∃ v p c, vs = [v, .str (tx [c])] ∧ PlanAt H v p ∧ p.Ok ∧ c ∈ signs p.many ∧ giv .non H Q
end SK
namespace SK
open PySem PySem.Spec PyProof.Rows L2
/-! ### a machine made, asked -/
def noField (k : Str) : Prop := ¬ k = "_plan" ∧ ¬ k = "_stack" ∧ ¬ k = "_spent" ∧ ¬ k = "_triple" ∧ ¬ k = "_past"
theorem nf_do : noField "do" := by unfold noField; decide +kernel
theorem nf_push : noField "push" := by unfold noField; decide +kernel
theorem nf_pop : noField "pop" := by unfold noField; decide +kernel
theorem nf_back : noField "back" := by unfold noField; decide +kernel
theorem nf_stack : noField "stack" := by unfold noField; decide +kernel
theorem nf_spent : noField "spent" := by unfold noField; decide +kernel
theorem nf_triple : noField "triple" := by unfold noField; decide +kernel
theorem nf_deeds : noField "deeds" := by unfold noField; decide +kernel
theorem MAt.at {C : Addr} {H : Hp} {x pa : Addr} {m : MS} (M : MAt C H x pa m) : ∃ dx fs, H x = some (.ins C dx fs) ∧ ∀ k : Str, noField k → fs.lookup k = none := by
  obtain ⟨⟨dx, pv, tv, h, _⟩, _⟩ := M
  exact ⟨dx, _, h, fun k n => mf_no n.1 n.2.1 n.2.2.1 n.2.2.2.1 n.2.2.2.2⟩
theorem made_same {C : Addr} {H Hm : Hp} {x dx : Addr} (hx : H x = none) (hd : H dx = none) (hne : dx ≠ x) (k : ∀ b o, upd (upd H dx (.own x)) x (.ins C dx []) b = some o → b ≠ x → Hm b = some o) : Same H Hm := fun b o e => by
  refine k b o ?_ (ne_of_none e hx)
  rw [upd_ne (ne_of_none e hx), upd_ne (ne_of_none e hd)]
  exact e
theorem made_same0 {C : Addr} {H : Hp} {x dx : Addr} (hx : H x = none) (hd : H dx = none) : Same H (upd (upd H dx (.own x)) x (.ins C dx [])) := fun b o e => by
  rw [upd_ne (ne_of_none e hx), upd_ne (ne_of_none e hd)]
  exact e
theorem made_none {C : Addr} {H : Hp} {x dx pa : Addr} (hx : H x = none) (hd : H dx = none) (h : upd (upd H dx (.own x)) x (.ins C dx []) pa = none) : H pa = none := by
  cases e : H pa with
  | none => rfl
  | some o =>
    have := made_same0 (C := C) hx hd _ _ e
    rw [h] at this
    cases this
/-- a list of another's grows -/
theorem MAt.updL {C : Addr} {H : Hp} {x pa D : Addr} {m : MS} {ys zs : List V} (M : MAt C H x pa m) (h : H D = some (.lst ys)) (hne : D ≠ pa) : MAt C (upd H D (.lst zs)) x pa m := by
  obtain ⟨⟨dx, pv, tv, h1, h2, h3⟩, xs, h4, h5⟩ := M
  have t := Tups.lst (ys := zs) h
  exact ⟨⟨dx, pv, tv, by rw [upd_ne (ne_of h1 h (by intro z; cases z))]; exact h1, h2.tups t, h3.tups t⟩, xs, by rw [upd_ne hne.symm]; exact h4, h5.tups t⟩
end SK
namespace SK
open PySem PySem.Spec PyProof.Rows L2
/-! ### two walks in one list -/
theorem lc2_range {lo : Int} {n : Nat} {wi1 : TI} {g g1 : TG} {tt tt1 : TT} {te : TE} {vs vs1 : List Nat} {σ : L2.St} {H1 : Hp} {D : Addr} {Qd : Hp → Prop} (Pv : Nat → Hp → Prop) (h0 : Pv 0 (upd H1 D (.lst [])))
    (hs : ∀ i H, i < n → Pv i H → g (.int (lo + i)) (wipe σ vs) H fun σ2 H2 => wipe σ2 vs = wipe σ vs ∧ tt σ2 H2 fun b H3 =>
      if b = true then wi1 σ2 H3 fun J1 H4 => ∃ W1 : Nat → Nat → Hp → Prop, (∃ m, W1 0 m H4) ∧ ∀ j k H, W1 j k H →
        (J1.stop j H ∧ Pv (i + 1) H) ∨ (J1.go j H ∧ ∃ Nx1 : Hp → Prop, (∀ H', Nx1 H' → ∃ k', k' < k ∧ W1 (j + 1) k' H') ∧ ∀ x H', J1.yld j H x H' → g1 x (wipe σ2 vs1) H' fun σ3 H5 => wipe σ3 vs1 = wipe σ2 vs1 ∧ tt1 σ3 H5 fun b H6 =>
          if b = true then te σ3 H6 fun y H7 => ∃ acc, H7 D = some (.lst acc) ∧ acc.length < sizeLine ∧ Nx1 (upd H7 D (.lst (acc ++ [y]))) else Nx1 H6)
      else Pv (i + 1) H3) (hd : ∀ H, Pv n H → Qd H) :
    ∃ W : Nat → Nat → Hp → Prop, (∃ m, W 0 m (upd H1 D (.lst []))) ∧ ∀ i m H, W i m H →
      ((Itr lo n).stop i H ∧ Qd H) ∨ ((Itr lo n).go i H ∧ ∃ Nx : Hp → Prop, (∀ H', Nx H' → ∃ m', m' < m ∧ W (i + 1) m' H') ∧ ∀ x H', (Itr lo n).yld i H x H' → g x (wipe σ vs) H' fun σ2 H2 => wipe σ2 vs = wipe σ vs ∧ tt σ2 H2 fun b H3 =>
        if b = true then wi1 σ2 H3 fun J1 H4 => ∃ W1 : Nat → Nat → Hp → Prop, (∃ m, W1 0 m H4) ∧ ∀ j k H, W1 j k H →
          (J1.stop j H ∧ Nx H) ∨ (J1.go j H ∧ ∃ Nx1 : Hp → Prop, (∀ H', Nx1 H' → ∃ k', k' < k ∧ W1 (j + 1) k' H') ∧ ∀ x H', J1.yld j H x H' → g1 x (wipe σ2 vs1) H' fun σ3 H5 => wipe σ3 vs1 = wipe σ2 vs1 ∧ tt1 σ3 H5 fun b H6 =>
            if b = true then te σ3 H6 fun y H7 => ∃ acc, H7 D = some (.lst acc) ∧ acc.length < sizeLine ∧ Nx1 (upd H7 D (.lst (acc ++ [y]))) else Nx1 H6)
        else Nx H3) := by
  refine ⟨fun i m H => m = n - i ∧ i ≤ n ∧ Pv i H, ⟨n, by simp, Nat.zero_le _, h0⟩, ?_⟩
  rintro i m H ⟨rfl, hi, p⟩
  by_cases hlt : i < n
  · refine .inr ⟨hlt, Pv (i + 1), fun H' p' => ⟨n - (i + 1), by omega, rfl, hlt, p'⟩, fun x H' y => ?_⟩
    obtain ⟨e, y⟩ := y
    subst e y
    exact hs i _ hlt p
  · have e : i = n := by omega
    subst e
    exact .inl ⟨Nat.le_refl _, hd H p⟩
/-- the inner one -/
theorem in_range {lo : Int} {n : Nat} {g : TG} {tt : TT} {te : TE} {vs : List Nat} {σ : L2.St} {H1 : Hp} {D : Addr} {Qd : Hp → Prop} (Pv : Nat → Hp → Prop) (h0 : Pv 0 H1)
    (hs : ∀ i H, i < n → Pv i H → g (.int (lo + i)) (wipe σ vs) H fun σ2 H2 => wipe σ2 vs = wipe σ vs ∧ tt σ2 H2 fun b H3 =>
      if b = true then te σ2 H3 fun y H4 => ∃ acc, H4 D = some (.lst acc) ∧ acc.length < sizeLine ∧ Pv (i + 1) (upd H4 D (.lst (acc ++ [y]))) else Pv (i + 1) H3) (hd : ∀ H, Pv n H → Qd H) :
    ∃ W : Nat → Nat → Hp → Prop, (∃ m, W 0 m H1) ∧ ∀ i m H, W i m H →
      ((Itr lo n).stop i H ∧ Qd H) ∨ ((Itr lo n).go i H ∧ ∃ Nx : Hp → Prop, (∀ H', Nx H' → ∃ m', m' < m ∧ W (i + 1) m' H') ∧ ∀ x H', (Itr lo n).yld i H x H' → g x (wipe σ vs) H' fun σ2 H2 => wipe σ2 vs = wipe σ vs ∧ tt σ2 H2 fun b H3 =>
        if b = true then te σ2 H3 fun y H4 => ∃ acc, H4 D = some (.lst acc) ∧ acc.length < sizeLine ∧ Nx (upd H4 D (.lst (acc ++ [y]))) else Nx H3) := by
  refine ⟨fun i m H => m = n - i ∧ i ≤ n ∧ Pv i H, ⟨n, by simp, Nat.zero_le _, h0⟩, ?_⟩
  rintro i m H ⟨rfl, hi, p⟩
  by_cases hlt : i < n
  · refine .inr ⟨hlt, Pv (i + 1), fun H' p' => ⟨n - (i + 1), by omega, rfl, hlt, p'⟩, fun x H' y => ?_⟩
    obtain ⟨e, y⟩ := y
    subst e y
    exact hs i _ hlt p
  · have e : i = n := by omega
    subst e
    exact .inl ⟨Nat.le_refl _, hd H p⟩
/-! ### how many triples -/
def cutR (g j : Nat) : List (Nat × Nat) := ((List.range j).filter fun k => decide (0 < k) || decide (g = 0)).map fun k => (g, k)
def cutN (room s i : Nat) : List (Nat × Nat) := (List.range i).flatMap fun g => cutR g (room - max g s + 1)
def cutL (room s : Nat) : List (Nat × Nat) := cutN room s (room + 1)
def tally (room many : Nat) : Nat := ((List.range (room + 1)).map fun s => many ^ s * (cutL room s).length).sum
theorem cutR_len (g : Nat) : ∀ j, (cutR g j).length ≤ j := fun j => by
  unfold cutR
  rw [List.length_map]
  have := List.length_filter_le (fun k => decide (0 < k) || decide (g = 0)) (List.range j)
  rw [List.length_range] at this
  exact this
theorem cutR_succ (g j : Nat) : cutR g (j + 1) = cutR g j ++ if 0 < j ∨ g = 0 then [(g, j)] else [] := by
  unfold cutR
  rw [List.range_succ, List.filter_append, List.map_append]
  by_cases h : 0 < j ∨ g = 0
  · rw [if_pos h]
    have e : (decide (0 < j) || decide (g = 0)) = true := by simpa using h
    simp [e]
  · rw [if_neg h]
    have e : (decide (0 < j) || decide (g = 0)) = false := by
      rw [Bool.eq_false_iff]
      intro z
      exact h (by simpa using z)
    simp [e]
theorem cutN_succ (room s i : Nat) : cutN room s (i + 1) = cutN room s i ++ cutR i (room - max i s + 1) := by
  unfold cutN
  rw [List.range_succ, List.flatMap_append]
  simp
theorem cutN_len {room s : Nat} (h : room ≤ 9) : ∀ i, (cutN room s i).length ≤ 10 * i
  | 0 => Nat.zero_le _
  | i + 1 => by
    rw [cutN_succ, List.length_append]
    have := cutN_len (s := s) h i
    have := cutR_len i (room - max i s + 1)
    omega
theorem cutL_len {room s : Nat} (h : room ≤ 9) : (cutL room s).length ≤ 100 := by
  have := cutN_len (s := s) h (room + 1)
  unfold cutL
  omega
theorem PairsAt.snoc {H : Hp} {w : Nat × Nat} {a : Addr} (ha : H a = some (.tup [.int (w.1 : Int), .int (w.2 : Int)])) : ∀ {ps : List (Nat × Nat)} {vs : List V}, PairsAt H ps vs → PairsAt H (ps ++ [w]) (vs ++ [.ref a])
  | [], _, h => by
    cases h
    exact ⟨a, [], rfl, ha, rfl⟩
  | _ :: _, _, ⟨b, s, h1, h2, h3⟩ => by
    subst h1
    exact ⟨b, s ++ [.ref a], rfl, h2, h3.snoc ha⟩
def spCuts : Sp := fun vs H Q _ => ∃ (v : V) (p : Pl) (s : Nat), vs = [v, .int (s : Int)] ∧ PlanAt H v p ∧ p.Ok ∧ s ≤ p.room ∧ ∀ (D : Addr) (H' : Hp) (xs : List V), Same H H' → H D = none → H' D = some (.lst xs) → PairsAt H' (cutL p.room s) xs → Q (.ref D) H'
def spLaying : Sp := fun vs H Q _ => ∃ (v : V) (p : Pl) (s : Nat), vs = [v, .int (s : Int)] ∧ PlanAt H v p ∧ p.Ok ∧ s ≤ p.room ∧ giv (.int ((p.many ^ s * (cutL p.room s).length : Nat) : Int)) H Q
def spMany : Sp := fun vs H Q _ => ∃ (v : V) (p : Pl), vs = [v] ∧ PlanAt H v p ∧ p.Ok ∧ giv (.int ((tally p.room p.many : Nat) : Int)) H Q
end SK
namespace SK
open PySem PySem.Spec PyProof.Rows L2
instance : DecidableEq Tr := fun a b => decidable_of_iff (a.g = b.g ∧ a.k = b.k ∧ a.l = b.l) ⟨fun h => by
  cases a
  cases b
  simp only at h
  obtain ⟨h1, h2, h3⟩ := h
  subst h1 h2 h3
  rfl, fun h => by
  subst h
  exact ⟨rfl, rfl, rfl⟩⟩
theorem Same.ofG {H H1 : Hp} {p : Addr} {o : HO} (hp : H p = none) (hG : upd H p o = H1) : Same H H1 ∧ H1 p = some o := by
  subst hG
  exact ⟨Same.new hp o, upd_same⟩
theorem Same.keepN {H H1 H2 : Hp} {x pa : Addr} (s : Same H H1) (k : Keep x pa H1 H2) (hx : H x = none) (hp : H pa = none) : Same H H2 := fun b o e => k b o (s b o e) (ne_of_none e hx) (ne_of_none e hp)
theorem TupF.mono {H H' : Hp} {a : Addr} {xs : List V} (h : TupF H a xs) (s : Same H H') : TupF H' a xs := by
  obtain ⟨ob, h1, h2⟩ := h
  exact ⟨ob, h1, s _ _ h2⟩
theorem PlanAt.mk {H : Hp} {a b : Addr} {p : Pl} (h : TupF H b (p.pr.map V.int)) (ha : H a = some (.tup [.int p.room, .int p.many, .ref b, .int p.pop])) : PlanAt H (.ref a) p := ⟨a, b, rfl, ha, h⟩
/-! ### works reckoned -/
theorem s_a1 : ("a" : Str) = tx [97] := by decide +kernel
theorem s_b1 : ("b" : Str) = tx [98] := by decide +kernel
theorem s_c1 : ("c" : Str) = tx [99] := by decide +kernel
abbrev lowN (r n : Nat) : Nat := min r n
theorem far_of {r many : Nat} {t : Tr} (a : TrOk r many t) (hr : 1 ≤ r) (n : Nat) : tpw r t n = tpw r t (lowN r n) := by
  by_cases h : n ≤ r
  · rw [show lowN r n = n from Nat.min_eq_right h]
  · have e := tpw_far a hr (n - r)
    rw [show r + (n - r) = n by omega] at e
    rw [e, show lowN r n = r from Nat.min_eq_left (by omega)]
theorem push_tab : ∀ r < 10, ∀ n < 10, 1 ≤ r → n ≤ r → tpw r (tstep r 97) n = (⟨0, r - n, List.replicate n 97⟩ : Tr) := by decide +kernel
theorem pop_tab : ∀ r < 10, ∀ n < 10, 1 ≤ r → n ≤ r → tpw r (tstep r 45) n = (⟨if n < r then n else 0, r - n, []⟩ : Tr) := by decide +kernel
def growsW : W := .row (.cons (.push 97) (.cons (.push 98) (.cons .pop .nil)))
def goesW : W := .row (.cons .pop (.cons (.push 97) (.cons .pop .nil)))
theorem grows_tab : ∀ r < 10, ∀ n < 10, 1 ≤ r → n ≤ r → tpw r (growsW.tri r) n = (⟨0, if 0 < n then r - n - 1 else r, if 1 < r then (List.replicate n 97).take (r - 1) else []⟩ : Tr) := by decide +kernel
theorem least_tab : ∀ r < 10, ∀ n < 10, 1 ≤ r → n ≤ r → tjoin (tjoin (tunt r) (⟨0, r - n, List.replicate n 97⟩ : Tr)) (⟨0, 0, []⟩ : Tr) = (⟨0, 0, []⟩ : Tr) := by decide +kernel
theorem often_push {r : Nat} (h1 : 1 ≤ r) (h9 : r ≤ 9) (n : Nat) : tpw r (tstep r 97) n = (⟨0, r - lowN r n, List.replicate (lowN r n) 97⟩ : Tr) := by
  rw [far_of (tstep_ok (many := 2) h1 (.inr (by decide))) h1 n]
  exact push_tab r (by omega) _ (by show min r n < 10; omega) h1 (Nat.min_le_left ..)
theorem often_pop {r : Nat} (h1 : 1 ≤ r) (h9 : r ≤ 9) (n : Nat) : tpw r (tstep r 45) n = (⟨if lowN r n < r then lowN r n else 0, r - lowN r n, []⟩ : Tr) := by
  rw [far_of (tstep_ok (many := 2) h1 (.inl rfl)) h1 n]
  exact pop_tab r (by omega) _ (by show min r n < 10; omega) h1 (Nat.min_le_left ..)
theorem in2a : (97 : Nat) ∈ signs 2 := by decide
theorem in2b : (98 : Nat) ∈ signs 2 := by decide
theorem grows_can : growsW.Can 2 := ⟨by decide, in2a, in2b, trivial, trivial⟩
theorem goes_can : goesW.Can 2 := ⟨by decide, trivial, in2a, trivial, trivial⟩
theorem often_grows {r : Nat} (h1 : 1 ≤ r) (h9 : r ≤ 9) (n : Nat) : tpw r (growsW.tri r) n = (⟨0, if 0 < lowN r n then r - lowN r n - 1 else r, if 1 < r then (List.replicate (lowN r n) 97).take (r - 1) else []⟩ : Tr) := by
  rw [far_of (W.tri_ok (many := 2) h1 growsW grows_can) h1 n]
  exact grows_tab r (by omega) _ (by show min r n < 10; omega) h1 (Nat.min_le_left ..)
def leastW (n : Nat) : W := .row (.cons (.times n (.push 97)) (.cons (.times 1000000000000000000 .pop) .nil))
theorem least_tri {r : Nat} (h1 : 1 ≤ r) (h9 : r ≤ 9) (n : Nat) : (leastW n).tri r = (⟨0, 0, []⟩ : Tr) := by
  show tjoin (tjoin (tunt r) (tpw r (tstep r 97) n)) (tpw r (tstep r 45) 1000000000000000000) = _
  rw [often_push h1 h9, often_pop h1 h9]
  have e : lowN r 1000000000000000000 = r := Nat.min_eq_left (by omega)
  rw [e, if_neg (Nat.lt_irrefl r), Nat.sub_self]
  exact least_tab r (by omega) _ (by show min r n < 10; omega) h1 (Nat.min_le_left ..)
/-! ### the stack emptied -/
theorem sum_tab : ∀ r < 10, tally r 1 = ((List.range r).map fun i => (r - i) * (r - i)).sum + (r + 1) := by decide +kernel
theorem bef_tab : ∀ r < 10, (bef r 1 (⟨0, 0, []⟩ : Tr) []).length = r + 1 ∧ (bef r 1 (⟨0, 0, []⟩ : Tr) []).head? = some [] := by decide +kernel
/-! ### parted -/
def upDown (k : Nat) : List Nat := List.replicate k 97 ++ List.replicate k 45
theorem upDown_tab : ∀ r < 10, ∀ k < 11, 1 ≤ r → k ≤ r → ttold r (upDown k) = (⟨0, r - k, []⟩ : Tr) := by decide +kernel
def udW (k : Nat) : W := .row (ofL (asWork (upDown k)))
theorem ud_tri : ∀ r < 10, ∀ k < 11, 1 ≤ r → k ≤ r → (udW k).tri r = (⟨0, r - k, []⟩ : Tr) := by decide +kernel
theorem ud_siz : ∀ k < 11, (udW k).siz ≤ 60 := by decide +kernel
theorem ud_dep : ∀ k < 11, (udW k).dep ≤ 8 := by decide +kernel
theorem ud_len : ∀ k < 11, (ofL (asWork (upDown k))).len ≤ 1000 := by decide +kernel
theorem ud_ok {k : Nat} (h : k < 11) : WOk 2 (udW k) := ⟨⟨ud_len k h, ofL_can _ fun w hw => by
  unfold asWork at hw
  obtain ⟨c, hc, rfl⟩ := List.mem_map.mp hw
  unfold upDown at hc
  rcases List.mem_append.mp hc with h1 | h1
  · rw [(List.mem_replicate.mp h1).2]
    exact in2a
  · rw [(List.mem_replicate.mp h1).2]
    exact trivial⟩, ud_siz k h, ud_dep k h⟩
theorem ud_part {r k : Nat} (hk : k < r) {s : Nat} : tby (⟨0, r - k, []⟩ : Tr) (List.replicate s 97) ≠ tby (⟨0, r - (k + 1), []⟩ : Tr) (List.replicate s 97) ↔ r - k ≤ s := by
  have e : ∀ m, tby (⟨0, m, []⟩ : Tr) (List.replicate s 97) = List.replicate (min m s) 97 := fun m => by
    simp [tby, ct, tp]
    omega
  rw [e, e]
  constructor
  · intro h
    by_cases z : r - k ≤ s
    · exact z
    · refine absurd ?_ h
      rw [show min (r - k) s = min (r - (k + 1)) s by omega]
  · intro h z
    have := congrArg List.length z
    rw [List.length_replicate, List.length_replicate] at this
    omega
theorem ud_least {r k s : Nat} (hk : k < r) (h1 : tby (⟨0, r - k, []⟩ : Tr) (List.replicate s 97) ≠ tby (⟨0, r - (k + 1), []⟩ : Tr) (List.replicate s 97)) (h2 : ∀ s', s' < s → tby (⟨0, r - k, []⟩ : Tr) (List.replicate s' 97) = tby (⟨0, r - (k + 1), []⟩ : Tr) (List.replicate s' 97)) : s = r - k := by
  have a := (ud_part hk).mp h1
  by_cases z : r - k < s
  · exact absurd (h2 _ z) ((ud_part hk).mpr (Nat.le_refl _))
  · omega
theorem tx_ud (k : Nat) : tx ((List.replicate k [97]).flatten) ++ tx ((List.replicate k [45]).flatten) = tx (upDown k) := by
  have rf : ∀ (c n : Nat), (List.replicate n [c]).flatten = List.replicate n c := fun c n => by
    induction n with
    | zero => rfl
    | succ n ih => rw [List.replicate_succ, List.flatten_cons, ih, List.replicate_succ]; rfl
  rw [rf, rf, tx_app]
  rfl
theorem ud_mem {k c : Nat} (h : c ∈ upDown k) : c = 97 ∨ c = 45 := by
  unfold upDown at h
  rcases List.mem_append.mp h with h1 | h1
  · exact .inl (List.mem_replicate.mp h1).2
  · exact .inr (List.mem_replicate.mp h1).2
theorem ud_flen (k : Nat) : (upDown k).length = k + k := by
  unfold upDown
  rw [List.length_append, List.length_replicate, List.length_replicate]
/-! ### fallen -/
def sg4 (k : Nat) : Nat := 97 + k % 4
def fallL (r i : Nat) : List Nat := (((List.range i).map sg4).drop (i - r))
theorem fall_tab : ∀ r < 10, ∀ i < 13, 1 ≤ r → i ≤ r + 3 → tby (tstep r (sg4 i)) (fallL r i) = fallL r (i + 1) := by decide +kernel
theorem fall_len : ∀ r < 10, ∀ i < 13, 1 ≤ r → i ≤ r + 3 → (fallL r i).length = min r i := by decide +kernel
theorem fall_pop : ∀ r < 10, 1 ≤ r → (tby (tstep r 45) (fallL r (r + 3))).length = r - 1 := by decide +kernel
theorem fall_hd : ∀ r < 10, ∀ i < 13, (1 ≤ r ∧ i ≤ r + 3 ∧ 0 < i) → (fallL r i).head? = some (sg4 (i - r)) := by decide +kernel
theorem fall_top : ∀ r < 10, ∀ i < 13, (1 ≤ r ∧ i ≤ r + 3 ∧ 0 < i) → (fallL r i).getLast? = some (sg4 (i - 1)) := by decide +kernel
/-! ### the plan, the works -/
def pl15 (r m : Nat) (pr : List Int) (q : Int) : Pl := ⟨r, m, pr, q⟩
theorem pl15_ok {r m : Nat} {pr : List Int} {q : Int} (r1 : 1 ≤ r) (r9 : r ≤ 9) (m1 : 1 ≤ m) (m4 : m ≤ 4) (hl : pr.length = m) (hp : ∀ x ∈ pr, 1 ≤ x ∧ x ≤ 99) (q1 : 1 ≤ q) (q9 : q ≤ 99) : (pl15 r m pr q).Ok := ⟨r1, r9, m1, m4, hl, hp, q1, q9⟩
theorem wat_push {H : Hp} {a : Addr} (h : H a = some (.tup [.str "push", .str "a"])) : WAt H (.push 97) (.ref a) := ⟨a, rfl, h.trans (congrArg (fun z => some (HO.tup [.str "push", .str z])) s_a1)⟩
theorem wat_pushb {H : Hp} {a : Addr} (h : H a = some (.tup [.str "push", .str "b"])) : WAt H (.push 98) (.ref a) := ⟨a, rfl, h.trans (congrArg (fun z => some (HO.tup [.str "push", .str z])) s_b1)⟩
theorem wat_pop {H : Hp} {a : Addr} (h : H a = some (.tup [.str "pop"])) : WAt H .pop (.ref a) := ⟨a, rfl, h⟩
theorem wat_times {H : Hp} {a : Addr} {n : Nat} {w : W} {u : V} (h : H a = some (.tup [.str "times", .int (n : Int), u])) (hu : WAt H w u) : WAt H (.times n w) (.ref a) := ⟨a, u, rfl, h, hu⟩
theorem wat_row3 {H : Hp} {a b : Addr} {w1 w2 w3 : W} {u1 u2 u3 : V} (h : H a = some (.tup [.str "row", .ref b])) (hb : H b = some (.tup [u1, u2, u3])) (h1 : WAt H w1 u1) (h2 : WAt H w2 u2) (h3 : WAt H w3 u3) : WAt H (.row (.cons w1 (.cons w2 (.cons w3 .nil)))) (.ref a) := ⟨a, b, _, rfl, h, hb, u1, _, rfl, h1, u2, _, rfl, h2, u3, _, rfl, h3, rfl⟩
theorem wat_row2 {H : Hp} {a b : Addr} {w1 w2 : W} {u1 u2 : V} (h : H a = some (.tup [.str "row", .ref b])) (hb : H b = some (.tup [u1, u2])) (h1 : WAt H w1 u1) (h2 : WAt H w2 u2) : WAt H (.row (.cons w1 (.cons w2 .nil))) (.ref a) := ⟨a, b, _, rfl, h, hb, u1, _, rfl, h1, u2, _, rfl, h2, rfl⟩
theorem trip_mk {H : Hp} {a : Addr} {g k : Nat} {l : List Nat} {x y : Int} {z : Str} (h : H a = some (.tup [.int x, .int y, .str z])) (hx : x = (g : Int)) (hy : y = (k : Int)) (hz : z = tx l) : TripAt H (.ref a) ⟨g, k, l⟩ := by
  subst hx hy hz
  exact ⟨a, rfl, h⟩
theorem ud_few {r k m : Nat} {pr : List Int} {q : Int} (hk : k < r) : few (pl15 r m pr q) ⟨0, r - k, []⟩ = 2 * (k : Int) := by
  unfold few
  rw [LB_ofk (show r - k ≠ 0 by omega)]
  have e : phi (pl15 r m pr q).room ⟨0, r - k, []⟩ = k := by
    show r - (r - k) - max 0 0 = k
    simp
    omega
  rw [e]
  show ((0 : Nat) : Int) * 1 + (sprc (fun _ => 1) [] + (k : Int) * (1 + 1)) = 2 * (k : Int)
  simp [sprc]
  omega
/-! ### a number and a text, compared -/
def isD (i : Int) (l : List Nat) : PyData := .tuple [.int i, .str (tx l)]
theorem isD_can {i : Int} {l : List Nat} (hc : ∀ c ∈ l, c < 1114112) : PyData.canLay0 (isD i l) = true := by
  show (true && (PyData.strOk (tx l) && true)) = true
  rw [strOk_tx hc]
  rfl
theorem isD_shaped {i : Int} {l : List Nat} (hc : ∀ c ∈ l, c < 1114112) : SeqAt.shaped (isD i l) = true := by
  show (PyData.canLay0 (isD i l) && decide (PyData.depth (isD i l) ≤ 64)) = true
  rw [isD_can hc]
  rfl
theorem dp_is {K : PySem.W.Frag} {H : Hp} {a : Addr} {i : Int} {l : List Nat} (h : H a = some (.tup [.int i, .str (tx l)])) : Dp K H (.ref a) (isD i l) := .tup (SqT.of h) (.cons (.int _) (.cons (.str _) .nil))
theorem ne_is {K : PySem.W.Frag} {H : Hp} {Q : VK} {a b : Addr} {i j : Int} {l : List Nat} {z : Str} (ha : H a = some (.tup [.int i, .str (tx l)])) (hb : H b = some (.tup [.int j, .str z])) (e1 : j = i) (e2 : z = tx l) (hc : ∀ c ∈ l, c < 1114112) (q : Q (.bl false) H) : rNeD K (.ref a) (.ref b) H Q := by
  subst e1 e2
  refine ⟨_, _, dp_is ha, dp_is hb, isD_shaped hc, isD_shaped hc, ?_⟩
  rw [SeqAt.eqv_refl _ (isD_can hc)]
  exact q
theorem eq_is {K : PySem.W.Frag} {H : Hp} {Q : VK} {a b : Addr} {i j : Int} {l : List Nat} {z : Str} (ha : H a = some (.tup [.int i, .str (tx l)])) (hb : H b = some (.tup [.int j, .str z])) (e1 : j = i) (e2 : z = tx l) (hc : ∀ c ∈ l, c < 1114112) (q : Q (.bl true) H) : rEqD K (.ref a) (.ref b) H Q := by
  subst e1 e2
  refine ⟨_, _, dp_is ha, dp_is hb, isD_shaped hc, isD_shaped hc, ?_⟩
  rw [SeqAt.eqv_refl _ (isD_can hc)]
  exact q
theorem rep_lt {c n : Nat} (h : c < 1114112) : ∀ d ∈ List.replicate n c, d < 1114112 := fun d hd => by
  rw [(List.mem_replicate.mp hd).2]
  exact h
section
variable {r : Nat} {x y : Int} (r1 : 1 ≤ r) (x1 : 1 ≤ x) (y1 : 1 ≤ y)
include r1 x1 y1
theorem em_w0 : chW (pl15 r 1 [x] y) ⟨0, 0, []⟩ = (r, 0) := by
  rw [chW_0 rfl, if_pos]
  · rfl
  show (r : Int) * y + ((0 : Nat) : Int) * (x + y) < ((0 : Nat) : Int) * y + ((r - 0 : Nat) : Int) * (x + y)
  rw [Nat.sub_zero]
  have : (r : Int) * y < (r : Int) * (x + y) := Int.mul_lt_mul_of_pos_left (by omega) (by omega)
  simp
  exact this
theorem em_s0 : chS (pl15 r 1 [x] y) ⟨0, 0, []⟩ = List.replicate r 45 := by
  unfold chS
  rw [em_w0 r1 x1 y1]
  simp [wayS]
theorem em_wA : chW (pl15 r 1 [x] y) ⟨0, 0, List.replicate r 97⟩ = (0, 0) := by
  have e : r - (List.replicate r 97).length = 0 := by rw [List.length_replicate]; omega
  rw [chW_0 rfl, if_neg]
  · show (0, r - (List.replicate r 97).length) = (0, 0)
    rw [e]
  · show ¬ (r : Int) * y + ((0 : Nat) : Int) * (x + y) < ((0 : Nat) : Int) * y + ((r - (List.replicate r 97).length : Nat) : Int) * (x + y)
    rw [e]
    have : 0 < (r : Int) * y := Int.mul_pos (by omega) (by omega)
    simp
    omega
theorem em_sA : chS (pl15 r 1 [x] y) ⟨0, 0, List.replicate r 97⟩ = List.replicate r 97 := by
  unfold chS
  rw [em_wA r1 x1 y1]
  simp [wayS]
theorem em_wU : chW (pl15 r 1 [x] y) ⟨0, r, []⟩ = (0, 0) := by
  rw [chW_k (show r ≠ 0 by omega)]
  show (0, r - r - max 0 0) = (0, 0)
  simp
theorem em_sU : chS (pl15 r 1 [x] y) ⟨0, r, []⟩ = [] := by
  unfold chS
  rw [em_wU r1 x1 y1]
  simp [wayS]
theorem em_f0 : few (pl15 r 1 [x] y) ⟨0, 0, []⟩ = r := by
  unfold few
  rw [LB_of0 rfl]
  show min (sprc (fun _ => 1) [] + ((r - 0 : Nat) : Int) * (1 + 1)) ((r : Int) * 1 + sprc (fun _ => 1) []) = r
  simp [sprc]
  omega
theorem em_fA : few (pl15 r 1 [x] y) ⟨0, 0, List.replicate r 97⟩ = r := by
  unfold few
  rw [LB_of0 rfl]
  show min (sprc (fun _ => 1) (List.replicate r 97) + ((r - (List.replicate r 97).length : Nat) : Int) * (1 + 1)) ((r : Int) * 1 + sprc (fun _ => 1) (List.replicate r 97)) = r
  rw [sprc_rep, List.length_replicate, Nat.sub_self]
  omega
end
theorem em_p45 {r n : Nat} {x y : Int} : sprc (cst (pl15 r 1 [x] y)) (List.replicate n 45) = (n : Int) * y := sprc_rep _ _ _
theorem em_p97 {r n : Nat} {x y : Int} : sprc (cst (pl15 r 1 [x] y)) (List.replicate n 97) = (n : Int) * x := sprc_rep _ _ _
/-! ### a list of texts and None -/
def optV : Option Nat → V
  | none => .non
  | some c => .str (tx [c])
def optD : Option Nat → PyData
  | none => .none
  | some c => .str (tx [c])
theorem dp_opt {K : PySem.W.Frag} {H : Hp} : ∀ os : List (Option Nat), DpAll K H (os.map optV) (os.map optD)
  | [] => .nil
  | none :: r => .cons .non (dp_opt r)
  | some c :: r => .cons (.str _) (dp_opt r)
theorem opt_can : ∀ os : List (Option Nat), (∀ c, some c ∈ os → c < 1114112) → PyData.canLayAll0 (os.map optD) = true
  | [], _ => rfl
  | none :: r, h => by
    show (true && PyData.canLayAll0 (r.map optD)) = true
    rw [opt_can r fun c hc => h c (List.mem_cons_of_mem _ hc)]
    rfl
  | some c :: r, h => by
    show (PyData.strOk (tx [c]) && PyData.canLayAll0 (r.map optD)) = true
    rw [strOk_tx (fun d hd => by
      have e : d = c := by simpa using hd
      subst e
      exact h d (List.mem_cons_self ..)), opt_can r fun c hc => h c (List.mem_cons_of_mem _ hc)]
    rfl
theorem opt_dep : ∀ os : List (Option Nat), PyData.depthAll (os.map optD) = 0
  | [] => rfl
  | none :: r => by
    show max 0 (PyData.depthAll (r.map optD)) = 0
    rw [opt_dep r]
    rfl
  | some c :: r => by
    show max 0 (PyData.depthAll (r.map optD)) = 0
    rw [opt_dep r]
    rfl
theorem ne_opts {K : PySem.W.Frag} {H : Hp} {Q : VK} {a b : Addr} {os : List (Option Nat)} (ha : H a = some (.lst (os.map optV))) (hb : H b = some (.lst (os.map optV))) (hc : ∀ c, some c ∈ os → c < 1114112) (q : Q (.bl false) H) : rNeD K (.ref a) (.ref b) H Q := by
  have cl : PyData.canLay0 (.list (os.map optD)) = true := opt_can os hc
  have sh : SeqAt.shaped (.list (os.map optD)) = true := by
    show (PyData.canLayAll0 _ && decide (PyData.depthAll _ + 1 ≤ 64)) = true
    rw [opt_can os hc, opt_dep]
    rfl
  refine ⟨_, _, .lst (SqL.of ha) (dp_opt os), .lst (SqL.of hb) (dp_opt os), sh, sh, ?_⟩
  rw [SeqAt.eqv_refl _ cl]
  exact q
def fallO (r i : Nat) : Option Nat := if i < r then none else some (sg4 (i - r))
theorem fallO_all : ∀ r < 10, (List.range (r + 3)).map (fallO r) = List.replicate r none ++ [some 97, some 98, some 99] := by decide +kernel
theorem fall_val {r i : Nat} (h1 : 1 ≤ r) (h9 : r ≤ 9) (hi : i ≤ r + 3) : fallV r (fallL r i) = optV (fallO r i) := by
  have hl := fall_len r (by omega) i (by omega) h1 hi
  unfold fallO
  by_cases h : i < r
  · rw [if_pos h]
    unfold fallV
    cases e : fallL r i with
    | nil => rfl
    | cons c s =>
      rw [e] at hl
      simp only
      rw [if_neg (by rw [hl]; omega)]
      rfl
  · rw [if_neg h]
    have hh := fall_hd r (by omega) i (by omega) ⟨h1, hi, by omega⟩
    unfold fallV
    cases e : fallL r i with
    | nil =>
      rw [e] at hh
      cases hh
    | cons c s =>
      rw [e] at hl hh
      have ec : c = sg4 (i - r) := Option.some.inj hh
      simp only
      rw [if_pos (by rw [hl]; omega), ec]
      rfl
theorem sg4_in (k : Nat) : sg4 k ∈ signs 4 := by
  unfold sg4
  have h : k % 4 < 4 := Nat.mod_lt _ (by decide)
  have : k % 4 = 0 ∨ k % 4 = 1 ∨ k % 4 = 2 ∨ k % 4 = 3 := by omega
  rcases this with e | e | e | e <;> rw [e] <;> decide
theorem sg4_at (k : Nat) : atI ("abcd" : Str).cps.toList (((k : Nat) : Int).fmod 4) = some (sg4 k) := by
  have e : ((k : Nat) : Int).fmod 4 = ((k % 4 : Nat) : Int) := by
    rw [Int.fmod_eq_emod_of_nonneg _ (by decide)]
    rfl
  have h : k % 4 < 4 := Nat.mod_lt _ (by decide)
  rw [e]
  refine atI_nat ?_
  rw [s_abcd]
  unfold sg4
  have : k % 4 = 0 ∨ k % 4 = 1 ∨ k % 4 = 2 ∨ k % 4 = 3 := by omega
  rcases this with e | e | e | e <;> rw [e] <;> rfl
/-- a machine after i pushes -/
structure Fal (r i : Nat) (m : MS) : Prop where
  p : m.p = ⟨r, 4, [1, 2, 3, 4], 5⟩
  l : m.l = fallL r i
  n : m.past.length = i
  ok : m.Ok
theorem Fal.next {r i : Nat} {m : MS} (f : Fal r i m) (h1 : 1 ≤ r) (h9 : r ≤ 9) (hi : i ≤ r + 3) : Fal r (i + 1) (m.deed (tstep m.p.room (sg4 i)) (cst m.p (sg4 i))) := by
  refine ⟨f.p, ?_, ?_, f.ok.deed (tstep_ok f.ok.p.r1 (.inr ?_)) _⟩
  · show tby (tstep m.p.room (sg4 i)) m.l = _
    rw [f.l, f.p]
    exact fall_tab r (by omega) i (by omega) h1 hi
  · show (m.past ++ [_]).length = _
    rw [List.length_append, f.n]
    rfl
  · rw [f.p]
    exact sg4_in i
/-! ### promises -/
def spOften : Sp := fun vs H Q _ => ∃ r n : Nat, vs = [.int (r : Int), .int (n : Int)] ∧ 1 ≤ r ∧ r ≤ 9 ∧ n ≤ 1000000000000000000 ∧ giv (.bl true) H Q
open LamX in
def spEmptied (T : List (Addr × Str)) : Sp := fun vs H Q _ => ∃ (r : Nat) (x y : Int), vs = [.int (r : Int), .int x, .int y] ∧ 1 ≤ r ∧ r ≤ 9 ∧ 1 ≤ x ∧ x ≤ 99 ∧ 1 ≤ y ∧ y ≤ 99 ∧ Tabs T H ∧ givN T (.bl true) H Q
def spSum15 : Sp := fun vs H Q _ => ∃ r : Nat, vs = [.int (r : Int)] ∧ 1 ≤ r ∧ r ≤ 9 ∧ giv (.int ((tally r 1 : Nat) : Int)) H Q
def spParted15 : Sp := fun vs H Q _ => ∃ r : Nat, vs = [.int (r : Int)] ∧ 1 ≤ r ∧ r ≤ 9 ∧ giv (.bl true) H Q
end SK
namespace SK
open PySem PySem.Spec PyProof.Rows L2
def top (i : Nat) : Stmt := PySem.Challenge.pw_sinkstack_k15_whole_known_works.main.body.getD i (.Pass ⟨0, 0, 0, 0⟩)
abbrev s_signs_of : Stmt := top 16
abbrev N_signs_of : List Str := ["plan"]
abbrev P_signs_of : List Str := ["plan"]
theorem sc_signs_of : FnScope N_signs_of P_signs_of (defScope s_signs_of) := ⟨rfl, rfl, rfl, by decide +kernel, rfl, by decide +kernel, by decide +kernel⟩
abbrev s_is_number : Stmt := top 17
abbrev N_is_number : List Str := ["value", "low", "high"]
abbrev P_is_number : List Str := ["value", "low", "high"]
theorem sc_is_number : FnScope N_is_number P_is_number (defScope s_is_number) := ⟨rfl, rfl, rfl, by decide +kernel, rfl, by decide +kernel, by decide +kernel⟩
abbrev s_is_text_of : Stmt := top 18
abbrev N_is_text_of : List Str := ["value", "signs", "sign"]
abbrev P_is_text_of : List Str := ["value", "signs"]
theorem sc_is_text_of : FnScope N_is_text_of P_is_text_of (defScope s_is_text_of) := ⟨rfl, rfl, rfl, by decide +kernel, rfl, by decide +kernel, by decide +kernel⟩
abbrev s_check_plan : Stmt := top 19
abbrev N_check_plan : List Str := ["plan", "room", "many", "prices", "pop_price"]
abbrev P_check_plan : List Str := ["plan"]
theorem sc_check_plan : FnScope N_check_plan P_check_plan (defScope s_check_plan) := ⟨rfl, rfl, rfl, by decide +kernel, rfl, by decide +kernel, by decide +kernel⟩
abbrev s_are_prices : Stmt := top 20
abbrev N_are_prices : List Str := ["prices", "many", "price"]
abbrev P_are_prices : List Str := ["prices", "many"]
theorem sc_are_prices : FnScope N_are_prices P_are_prices (defScope s_are_prices) := ⟨rfl, rfl, rfl, by decide +kernel, rfl, by decide +kernel, by decide +kernel⟩
abbrev s_check_stack : Stmt := top 21
abbrev N_check_stack : List Str := ["plan", "stack"]
abbrev P_check_stack : List Str := ["plan", "stack"]
theorem sc_check_stack : FnScope N_check_stack P_check_stack (defScope s_check_stack) := ⟨rfl, rfl, rfl, by decide +kernel, rfl, by decide +kernel, by decide +kernel⟩
abbrev s_is_stack : Stmt := top 22
abbrev N_is_stack : List Str := ["plan", "stack"]
abbrev P_is_stack : List Str := ["plan", "stack"]
theorem sc_is_stack : FnScope N_is_stack P_is_stack (defScope s_is_stack) := ⟨rfl, rfl, rfl, by decide +kernel, rfl, by decide +kernel, by decide +kernel⟩
abbrev s_check_sign : Stmt := top 23
abbrev N_check_sign : List Str := ["plan", "sign"]
abbrev P_check_sign : List Str := ["plan", "sign"]
theorem sc_check_sign : FnScope N_check_sign P_check_sign (defScope s_check_sign) := ⟨rfl, rfl, rfl, by decide +kernel, rfl, by decide +kernel, by decide +kernel⟩
abbrev s_check_steps : Stmt := top 24
abbrev N_check_steps : List Str := ["plan", "steps"]
abbrev P_check_steps : List Str := ["plan", "steps"]
theorem sc_check_steps : FnScope N_check_steps P_check_steps (defScope s_check_steps) := ⟨rfl, rfl, rfl, by decide +kernel, rfl, by decide +kernel, by decide +kernel⟩
abbrev s_check_triple : Stmt := top 25
abbrev N_check_triple : List Str := ["plan", "triple"]
abbrev P_check_triple : List Str := ["plan", "triple"]
theorem sc_check_triple : FnScope N_check_triple P_check_triple (defScope s_check_triple) := ⟨rfl, rfl, rfl, by decide +kernel, rfl, by decide +kernel, by decide +kernel⟩
abbrev s_is_triple : Stmt := top 26
abbrev N_is_triple : List Str := ["plan", "triple", "room", "gone", "kept", "laid"]
abbrev P_is_triple : List Str := ["plan", "triple"]
theorem sc_is_triple : FnScope N_is_triple P_is_triple (defScope s_is_triple) := ⟨rfl, rfl, rfl, by decide +kernel, rfl, by decide +kernel, by decide +kernel⟩
abbrev s_check_work : Stmt := top 27
abbrev N_check_work : List Str := ["plan", "work", "signs", "waiting", "number", "found", "deep", "inner"]
abbrev P_check_work : List Str := ["plan", "work"]
theorem sc_check_work : FnScope N_check_work P_check_work (defScope s_check_work) := ⟨rfl, rfl, rfl, by decide +kernel, rfl, by decide +kernel, by decide +kernel⟩
abbrev s_is_work_alone : Stmt := top 28
abbrev N_is_work_alone : List Str := ["work", "signs"]
abbrev P_is_work_alone : List Str := ["work", "signs"]
theorem sc_is_work_alone : FnScope N_is_work_alone P_is_work_alone (defScope s_is_work_alone) := ⟨rfl, rfl, rfl, by decide +kernel, rfl, by decide +kernel, by decide +kernel⟩
abbrev s_works_within : Stmt := top 29
abbrev N_works_within : List Str := ["work"]
abbrev P_works_within : List Str := ["work"]
theorem sc_works_within : FnScope N_works_within P_works_within (defScope s_works_within) := ⟨rfl, rfl, rfl, by decide +kernel, rfl, by decide +kernel, by decide +kernel⟩
abbrev s_told : Stmt := top 31
abbrev N_told : List Str := ["plan", "work"]
abbrev P_told : List Str := ["plan", "work"]
theorem sc_told : FnScope N_told P_told (defScope s_told) := ⟨rfl, rfl, rfl, by decide +kernel, rfl, by decide +kernel, by decide +kernel⟩
abbrev s_told_of_steps : Stmt := top 32
abbrev N_told_of_steps : List Str := ["plan", "steps"]
abbrev P_told_of_steps : List Str := ["plan", "steps"]
theorem sc_told_of_steps : FnScope N_told_of_steps P_told_of_steps (defScope s_told_of_steps) := ⟨rfl, rfl, rfl, by decide +kernel, rfl, by decide +kernel, by decide +kernel⟩
abbrev s_alike : Stmt := top 33
abbrev N_alike : List Str := ["plan", "one", "other"]
abbrev P_alike : List Str := ["plan", "one", "other"]
theorem sc_alike : FnScope N_alike P_alike (defScope s_alike) := ⟨rfl, rfl, rfl, by decide +kernel, rfl, by decide +kernel, by decide +kernel⟩
abbrev s_parting : Stmt := top 34
abbrev N_parting : List Str := ["plan", "one", "other", "first", "second", "size", "stack"]
abbrev P_parting : List Str := ["plan", "one", "other"]
theorem sc_parting : FnScope N_parting P_parting (defScope s_parting) := ⟨rfl, rfl, rfl, by decide +kernel, rfl, by decide +kernel, by decide +kernel⟩
abbrev s_triple_of_work : Stmt := top 35
abbrev N_triple_of_work : List Str := ["plan", "work", "whole", "inner"]
abbrev P_triple_of_work : List Str := ["plan", "work"]
theorem sc_triple_of_work : FnScope N_triple_of_work P_triple_of_work (defScope s_triple_of_work) := ⟨rfl, rfl, rfl, by decide +kernel, rfl, by decide +kernel, by decide +kernel⟩
abbrev s_triple_of_steps : Stmt := top 36
abbrev N_triple_of_steps : List Str := ["plan", "steps", "whole", "step"]
abbrev P_triple_of_steps : List Str := ["plan", "steps"]
theorem sc_triple_of_steps : FnScope N_triple_of_steps P_triple_of_steps (defScope s_triple_of_steps) := ⟨rfl, rfl, rfl, by decide +kernel, rfl, by decide +kernel, by decide +kernel⟩
abbrev s_triple_of_step : Stmt := top 37
abbrev N_triple_of_step : List Str := ["plan", "step"]
abbrev P_triple_of_step : List Str := ["plan", "step"]
theorem sc_triple_of_step : FnScope N_triple_of_step P_triple_of_step (defScope s_triple_of_step) := ⟨rfl, rfl, rfl, by decide +kernel, rfl, by decide +kernel, by decide +kernel⟩
abbrev s_untouched : Stmt := top 38
abbrev N_untouched : List Str := ["plan"]
abbrev P_untouched : List Str := ["plan"]
theorem sc_untouched : FnScope N_untouched P_untouched (defScope s_untouched) := ⟨rfl, rfl, rfl, by decide +kernel, rfl, by decide +kernel, by decide +kernel⟩
abbrev s_tidied : Stmt := top 39
abbrev N_tidied : List Str := ["gone", "kept", "laid"]
abbrev P_tidied : List Str := ["gone", "kept", "laid"]
theorem sc_tidied : FnScope N_tidied P_tidied (defScope s_tidied) := ⟨rfl, rfl, rfl, by decide +kernel, rfl, by decide +kernel, by decide +kernel⟩
abbrev s_join_triples : Stmt := top 40
abbrev N_join_triples : List Str := ["one", "other", "gone", "kept", "laid", "next_gone", "next_kept", "next_laid", "deeper", "left", "still_kept"]
abbrev P_join_triples : List Str := ["one", "other"]
theorem sc_join_triples : FnScope N_join_triples P_join_triples (defScope s_join_triples) := ⟨rfl, rfl, rfl, by decide +kernel, rfl, by decide +kernel, by decide +kernel⟩
abbrev s_power_triple : Stmt := top 41
abbrev N_power_triple : List Str := ["plan", "triple", "many", "whole", "doubled", "left"]
abbrev P_power_triple : List Str := ["plan", "triple", "many"]
theorem sc_power_triple : FnScope N_power_triple P_power_triple (defScope s_power_triple) := ⟨rfl, rfl, rfl, by decide +kernel, rfl, by decide +kernel, by decide +kernel⟩
abbrev s_stack_behind : Stmt := top 42
abbrev N_stack_behind : List Str := ["triple", "stack", "gone", "kept", "laid"]
abbrev P_stack_behind : List Str := ["triple", "stack"]
theorem sc_stack_behind : FnScope N_stack_behind P_stack_behind (defScope s_stack_behind) := ⟨rfl, rfl, rfl, by decide +kernel, rfl, by decide +kernel, by decide +kernel⟩
abbrev s_without_top : Stmt := top 43
abbrev N_without_top : List Str := ["stack", "many"]
abbrev P_without_top : List Str := ["stack", "many"]
theorem sc_without_top : FnScope N_without_top P_without_top (defScope s_without_top) := ⟨rfl, rfl, rfl, by decide +kernel, rfl, by decide +kernel, by decide +kernel⟩
abbrev s_top_of : Stmt := top 44
abbrev N_top_of : List Str := ["stack", "many"]
abbrev P_top_of : List Str := ["stack", "many"]
theorem sc_top_of : FnScope N_top_of P_top_of (defScope s_top_of) := ⟨rfl, rfl, rfl, by decide +kernel, rfl, by decide +kernel, by decide +kernel⟩
abbrev s_cost : Stmt := top 46
abbrev N_cost : List Str := ["plan", "work"]
abbrev P_cost : List Str := ["plan", "work"]
theorem sc_cost : FnScope N_cost P_cost (defScope s_cost) := ⟨rfl, rfl, rfl, by decide +kernel, rfl, by decide +kernel, by decide +kernel⟩
abbrev s_cheapest : Stmt := top 47
abbrev N_cheapest : List Str := ["plan", "triple", "way", "steps"]
abbrev P_cheapest : List Str := ["plan", "triple"]
theorem sc_cheapest : FnScope N_cheapest P_cheapest (defScope s_cheapest) := ⟨rfl, rfl, rfl, by decide +kernel, rfl, by decide +kernel, by decide +kernel⟩
abbrev s_fewest : Stmt := top 48
abbrev N_fewest : List Str := ["plan", "triple", "popped", "filled"]
abbrev P_fewest : List Str := ["plan", "triple"]
theorem sc_fewest : FnScope N_fewest P_fewest (defScope s_fewest) := ⟨rfl, rfl, rfl, by decide +kernel, rfl, by decide +kernel, by decide +kernel⟩
abbrev s_fillers : Stmt := top 49
abbrev N_fillers : List Str := ["plan", "triple"]
abbrev P_fillers : List Str := ["plan", "triple"]
theorem sc_fillers : FnScope N_fillers P_fillers (defScope s_fillers) := ⟨rfl, rfl, rfl, by decide +kernel, rfl, by decide +kernel, by decide +kernel⟩
abbrev s_ways : Stmt := top 50
abbrev N_ways : List Str := ["plan", "triple", "gone", "kept", "laid", "room"]
abbrev P_ways : List Str := ["plan", "triple"]
theorem sc_ways : FnScope N_ways P_ways (defScope s_ways) := ⟨rfl, rfl, rfl, by decide +kernel, rfl, by decide +kernel, by decide +kernel⟩
abbrev s_cheapest_way : Stmt := top 51
abbrev N_cheapest_way : List Str := ["plan", "triple", "filler_price", "pop_price"]
abbrev P_cheapest_way : List Str := ["plan", "triple"]
theorem sc_cheapest_way : FnScope N_cheapest_way P_cheapest_way (defScope s_cheapest_way) := ⟨rfl, rfl, rfl, by decide +kernel, rfl, by decide +kernel, by decide +kernel⟩
abbrev s_steps_of_way : Stmt := top 52
abbrev N_steps_of_way : List Str := ["plan", "way", "laid", "popped", "filled", "filling"]
abbrev P_steps_of_way : List Str := ["plan", "way", "laid"]
theorem sc_steps_of_way : FnScope N_steps_of_way P_steps_of_way (defScope s_steps_of_way) := ⟨rfl, rfl, rfl, by decide +kernel, rfl, by decide +kernel, by decide +kernel⟩
abbrev s_cheapest_sign : Stmt := top 53
abbrev N_cheapest_sign : List Str := ["plan", "prices"]
abbrev P_cheapest_sign : List Str := ["plan"]
theorem sc_cheapest_sign : FnScope N_cheapest_sign P_cheapest_sign (defScope s_cheapest_sign) := ⟨rfl, rfl, rfl, by decide +kernel, rfl, by decide +kernel, by decide +kernel⟩
abbrev s_price_of_work : Stmt := top 54
abbrev N_price_of_work : List Str := ["plan", "work", "inner"]
abbrev P_price_of_work : List Str := ["plan", "work"]
theorem sc_price_of_work : FnScope N_price_of_work P_price_of_work (defScope s_price_of_work) := ⟨rfl, rfl, rfl, by decide +kernel, rfl, by decide +kernel, by decide +kernel⟩
abbrev s_price_of_steps : Stmt := top 55
abbrev N_price_of_steps : List Str := ["plan", "steps", "step"]
abbrev P_price_of_steps : List Str := ["plan", "steps"]
theorem sc_price_of_steps : FnScope N_price_of_steps P_price_of_steps (defScope s_price_of_steps) := ⟨rfl, rfl, rfl, by decide +kernel, rfl, by decide +kernel, by decide +kernel⟩
abbrev s_price_of_step : Stmt := top 56
abbrev N_price_of_step : List Str := ["plan", "step"]
abbrev P_price_of_step : List Str := ["plan", "step"]
theorem sc_price_of_step : FnScope N_price_of_step P_price_of_step (defScope s_price_of_step) := ⟨rfl, rfl, rfl, by decide +kernel, rfl, by decide +kernel, by decide +kernel⟩
abbrev s_M_init : Stmt := inClass (top 58) 0
abbrev N_M_init : List Str := ["self", "plan", "stack"]
abbrev P_M_init : List Str := ["self", "plan", "stack"]
theorem sc_M_init : FnScope N_M_init P_M_init (defScope s_M_init) := ⟨rfl, rfl, rfl, by decide +kernel, rfl, by decide +kernel, by decide +kernel⟩
abbrev s_M_do : Stmt := inClass (top 58) 1
abbrev N_M_do : List Str := ["self", "work"]
abbrev P_M_do : List Str := ["self", "work"]
theorem sc_M_do : FnScope N_M_do P_M_do (defScope s_M_do) := ⟨rfl, rfl, rfl, by decide +kernel, rfl, by decide +kernel, by decide +kernel⟩
abbrev s_M_push : Stmt := inClass (top 58) 2
abbrev N_M_push : List Str := ["self", "sign", "before"]
abbrev P_M_push : List Str := ["self", "sign"]
theorem sc_M_push : FnScope N_M_push P_M_push (defScope s_M_push) := ⟨rfl, rfl, rfl, by decide +kernel, rfl, by decide +kernel, by decide +kernel⟩
abbrev s_M_pop : Stmt := inClass (top 58) 3
abbrev N_M_pop : List Str := ["self", "before"]
abbrev P_M_pop : List Str := ["self"]
theorem sc_M_pop : FnScope N_M_pop P_M_pop (defScope s_M_pop) := ⟨rfl, rfl, rfl, by decide +kernel, rfl, by decide +kernel, by decide +kernel⟩
abbrev s_M_back : Stmt := inClass (top 58) 4
abbrev N_M_back : List Str := ["self"]
abbrev P_M_back : List Str := ["self"]
theorem sc_M_back : FnScope N_M_back P_M_back (defScope s_M_back) := ⟨rfl, rfl, rfl, by decide +kernel, rfl, by decide +kernel, by decide +kernel⟩
abbrev s_M_stack : Stmt := inClass (top 58) 5
abbrev N_M_stack : List Str := ["self"]
abbrev P_M_stack : List Str := ["self"]
theorem sc_M_stack : FnScope N_M_stack P_M_stack (defScope s_M_stack) := ⟨rfl, rfl, rfl, by decide +kernel, rfl, by decide +kernel, by decide +kernel⟩
abbrev s_M_spent : Stmt := inClass (top 58) 6
abbrev N_M_spent : List Str := ["self"]
abbrev P_M_spent : List Str := ["self"]
theorem sc_M_spent : FnScope N_M_spent P_M_spent (defScope s_M_spent) := ⟨rfl, rfl, rfl, by decide +kernel, rfl, by decide +kernel, by decide +kernel⟩
abbrev s_M_triple : Stmt := inClass (top 58) 7
abbrev N_M_triple : List Str := ["self"]
abbrev P_M_triple : List Str := ["self"]
theorem sc_M_triple : FnScope N_M_triple P_M_triple (defScope s_M_triple) := ⟨rfl, rfl, rfl, by decide +kernel, rfl, by decide +kernel, by decide +kernel⟩
abbrev s_M_deeds : Stmt := inClass (top 58) 8
abbrev N_M_deeds : List Str := ["self"]
abbrev P_M_deeds : List Str := ["self"]
theorem sc_M_deeds : FnScope N_M_deeds P_M_deeds (defScope s_M_deeds) := ⟨rfl, rfl, rfl, by decide +kernel, rfl, by decide +kernel, by decide +kernel⟩
abbrev s_M_add_step : Stmt := inClass (top 58) 9
abbrev N_M_add_step : List Str := ["self", "step"]
abbrev P_M_add_step : List Str := ["self", "step"]
theorem sc_M_add_step : FnScope N_M_add_step P_M_add_step (defScope s_M_add_step) := ⟨rfl, rfl, rfl, by decide +kernel, rfl, by decide +kernel, by decide +kernel⟩
abbrev s_M_add_deed : Stmt := inClass (top 58) 10
abbrev N_M_add_deed : List Str := ["self", "triple", "price"]
abbrev P_M_add_deed : List Str := ["self", "triple", "price"]
theorem sc_M_add_deed : FnScope N_M_add_deed P_M_add_deed (defScope s_M_add_deed) := ⟨rfl, rfl, rfl, by decide +kernel, rfl, by decide +kernel, by decide +kernel⟩
abbrev s_befores : Stmt := top 60
abbrev N_befores : List Str := ["plan", "triple", "stack", "gone", "kept", "laid", "stayed", "least"]
abbrev P_befores : List Str := ["plan", "triple", "stack"]
theorem sc_befores : FnScope N_befores P_befores (defScope s_befores) := ⟨rfl, rfl, rfl, by decide +kernel, rfl, by decide +kernel, by decide +kernel⟩
abbrev s_count : Stmt := top 61
abbrev N_count : List Str := ["plan"]
abbrev P_count : List Str := ["plan"]
theorem sc_count : FnScope N_count P_count (defScope s_count) := ⟨rfl, rfl, rfl, by decide +kernel, rfl, by decide +kernel, by decide +kernel⟩
abbrev s_how_many_left : Stmt := top 62
abbrev N_how_many_left : List Str := ["plan", "gone", "kept", "stayed", "room", "many"]
abbrev P_how_many_left : List Str := ["plan", "gone", "kept", "stayed"]
theorem sc_how_many_left : FnScope N_how_many_left P_how_many_left (defScope s_how_many_left) := ⟨rfl, rfl, rfl, by decide +kernel, rfl, by decide +kernel, by decide +kernel⟩
abbrev s_texts_of_size : Stmt := top 63
abbrev N_texts_of_size : List Str := ["many", "size", "whole", "_"]
abbrev P_texts_of_size : List Str := ["many", "size"]
theorem sc_texts_of_size : FnScope N_texts_of_size P_texts_of_size (defScope s_texts_of_size) := ⟨rfl, rfl, rfl, by decide +kernel, rfl, by decide +kernel, by decide +kernel⟩
abbrev s_texts_up_to : Stmt := top 64
abbrev N_texts_up_to : List Str := ["many", "longest", "size"]
abbrev P_texts_up_to : List Str := ["many", "longest"]
theorem sc_texts_up_to : FnScope N_texts_up_to P_texts_up_to (defScope s_texts_up_to) := ⟨rfl, rfl, rfl, by decide +kernel, rfl, by decide +kernel, by decide +kernel⟩
abbrev s_how_many_triples : Stmt := top 65
abbrev N_how_many_triples : List Str := ["plan", "size"]
abbrev P_how_many_triples : List Str := ["plan"]
theorem sc_how_many_triples : FnScope N_how_many_triples P_how_many_triples (defScope s_how_many_triples) := ⟨rfl, rfl, rfl, by decide +kernel, rfl, by decide +kernel, by decide +kernel⟩
abbrev s_how_many_laying : Stmt := top 66
abbrev N_how_many_laying : List Str := ["plan", "size"]
abbrev P_how_many_laying : List Str := ["plan", "size"]
theorem sc_how_many_laying : FnScope N_how_many_laying P_how_many_laying (defScope s_how_many_laying) := ⟨rfl, rfl, rfl, by decide +kernel, rfl, by decide +kernel, by decide +kernel⟩
abbrev s_cuts : Stmt := top 67
abbrev N_cuts : List Str := ["plan", "size", "room", "gone", "kept"]
abbrev P_cuts : List Str := ["plan", "size"]
theorem sc_cuts : FnScope N_cuts P_cuts (defScope s_cuts) := ⟨rfl, rfl, rfl, by decide +kernel, rfl, by decide +kernel, by decide +kernel⟩
abbrev s_law_begun : Stmt := top 69
abbrev N_law_begun : List Str := ["_law_script", "_law_stirred", "_law_cell"]
abbrev P_law_begun : List Str := ["_law_script"]
theorem sc_law_begun : FnScope N_law_begun P_law_begun (defScope s_law_begun) := ⟨rfl, rfl, rfl, by decide +kernel, rfl, by decide +kernel, by decide +kernel⟩
abbrev s_law_take : Stmt := top 70
abbrev N_law_take : List Str := ["_law_box", "_law_size", "_law_figure"]
abbrev P_law_take : List Str := ["_law_box", "_law_size"]
theorem sc_law_take : FnScope N_law_take P_law_take (defScope s_law_take) := ⟨rfl, rfl, rfl, by decide +kernel, rfl, by decide +kernel, by decide +kernel⟩
abbrev s_law_are_done_often : Stmt := top 71
abbrev N_law_are_done_often : List Str := ["_law_room", "_law_often", "_law_plan", "_law_low", "_law_push", "_law_pop", "_law_sinks", "_law_grows", "_law_goes", "_law_deeper", "_law_machine", "_law_least"]
abbrev P_law_are_done_often : List Str := ["_law_room", "_law_often"]
theorem sc_law_are_done_often : FnScope N_law_are_done_often P_law_are_done_often (defScope s_law_are_done_often) := ⟨rfl, rfl, rfl, by decide +kernel, rfl, by decide +kernel, by decide +kernel⟩
abbrev s_law_is_emptied : Stmt := top 72
abbrev N_law_is_emptied : List Str := ["_law_room", "_law_price", "_law_pop", "_law_plan", "_law_laid"]
abbrev P_law_is_emptied : List Str := ["_law_room", "_law_price", "_law_pop"]
theorem sc_law_is_emptied : FnScope N_law_is_emptied P_law_is_emptied (defScope s_law_is_emptied) := ⟨rfl, rfl, rfl, by decide +kernel, rfl, by decide +kernel, by decide +kernel⟩
abbrev s_law_sum : Stmt := top 73
abbrev N_law_sum : List Str := ["_law_room", "_law_found", "_law_kept"]
abbrev P_law_sum : List Str := ["_law_room"]
theorem sc_law_sum : FnScope N_law_sum P_law_sum (defScope s_law_sum) := ⟨rfl, rfl, rfl, by decide +kernel, rfl, by decide +kernel, by decide +kernel⟩
abbrev s_law_are_parted : Stmt := top 74
abbrev N_law_are_parted : List Str := ["_law_room", "_law_plan", "_law_k", "_law_one", "_law_other", "_law_works", "_law_steps", "_law_sign"]
abbrev P_law_are_parted : List Str := ["_law_room"]
theorem sc_law_are_parted : FnScope N_law_are_parted P_law_are_parted (defScope s_law_are_parted) := ⟨rfl, rfl, rfl, by decide +kernel, rfl, by decide +kernel, by decide +kernel⟩
abbrev s_law_is_fallen : Stmt := top 75
abbrev N_law_is_fallen : List Str := ["_law_room", "_law_machine", "_law_found", "_law_k"]
abbrev P_law_is_fallen : List Str := ["_law_room"]
theorem sc_law_is_fallen : FnScope N_law_is_fallen P_law_is_fallen (defScope s_law_is_fallen) := ⟨rfl, rfl, rfl, by decide +kernel, rfl, by decide +kernel, by decide +kernel⟩
abbrev s_law : Stmt := top 76
abbrev N_law : List Str := ["_law_script", "_law_box", "_law_often"]
abbrev P_law : List Str := ["_law_script"]
theorem sc_law : FnScope N_law P_law (defScope s_law) := ⟨rfl, rfl, rfl, by decide +kernel, rfl, by decide +kernel, by decide +kernel⟩
/-! ### what the module's names hold -/
structure Gx (mg : Str → Option Value) : Prop where
  SIGNS : ∃ u, mg "SIGNS" = some u ∧ RelV (.str (tx [97, 98, 99, 100])) u
  POP_STEP : ∃ u, mg "POP_STEP" = some u ∧ RelV (.str (tx [45])) u
  MOST_ROOM : ∃ u, mg "MOST_ROOM" = some u ∧ RelV (.int 9) u
  MOST_PRICE : ∃ u, mg "MOST_PRICE" = some u ∧ RelV (.int 99) u
  MOST_TIMES : ∃ u, mg "MOST_TIMES" = some u ∧ RelV (.int 1000000000000000000) u
  MOST_WORKS : ∃ u, mg "MOST_WORKS" = some u ∧ RelV (.int 60) u
  MOST_DEEP : ∃ u, mg "MOST_DEEP" = some u ∧ RelV (.int 8) u
  isi : mg "isinstance" = none
  bool : mg "bool" = none
  int : mg "int" = none
  str : mg "str" = none
  tuple : mg "tuple" = none
  len : mg "len" = none
  all : mg "all" = none
  max : mg "max" = none
  min : mg "min" = none
  range : mg "range" = none
  list : mg "list" = none
  reversed : mg "reversed" = none
  sum : mg "sum" = none
  abs : mg "abs" = none
section
variable {P : Program} {w : World} {K : PySem.W.Frag} {mg : Str → Option Value} {base : Heap}
theorem ok_signs_of (D : Dn K mg "signs_of" s_signs_of P_signs_of) (g : Gx mg) : C8.Cal P w K mg base 1 "signs_of" spSigns [] := by
  refine D.cal sc_signs_of (fun vs H Q E h => ?_) (fun f cdv A outer s H vs Q E hr h => ?_)
  · obtain ⟨v, p, rfl, ⟨a, b, rfl, ha, hb⟩, ok, q⟩ := h
    rfl
  obtain ⟨v, p, rfl, ⟨a, b, rfl, ha, hb⟩, ok, q⟩ := h
  have nd := sc_signs_of.nd
  refine ⟨_, (pss_one (ps_ret (pe_slice sl_str (C8.pe_gc rfl g.SIGNS) po_none (po_some (pe_ix ix_tup (pv 0) pe_int (fun _ _ => rfl)))))), ?_⟩
  refine ⟨_, rfl, a, _, 1, _, rfl, rfl, SqT.of ha, rfl, _, rfl, _, rfl, sz (by decide), ?_⟩
  rw [cut_to (l := [97, 98, 99, 100]) (n := p.many) ok.m4]
  exact q H (Same.refl H)
theorem ok_is_number (D : Dn K mg "is_number" s_is_number P_is_number) (g : Gx mg) : C8.Cal P w K mg base 1 "is_number" spNum [] := by
  refine D.cal sc_is_number (fun vs H Q E h => ?_) (fun f cdv A outer s H vs Q E hr h => ?_)
  · obtain ⟨i, lo, hi, rfl, q⟩ := h
    rfl
  obtain ⟨i, lo, hi, rfl, q⟩ := h
  have nd := sc_is_number.nd
  refine ⟨_, (pss_one (ps_ret (pe_and (pe_callB call_isi rfl g.isi b_isi (pa_cons (pv 0) (pa_cons (pe_bltn (v := .ty "int") rfl g.int b_int rfl) pa_nil))) (pe_and (pe_not (pe_callB call_isi rfl g.isi b_isi (pa_cons (pv 0) (pa_cons (pe_bltn (v := .ty "bool") rfl g.bool b_bool rfl) pa_nil)))) (pe_one (pe_chain op_le op_le (pv 1) (pv 0) (pv 2))))))), ?_⟩
  refine ⟨_, rfl, _, _, _, _, _, rfl, .ty "int", ty_int, kit_ty k_int_int, _, rfl, iteT ?_⟩
  refine ⟨_, rfl, _, _, _, _, _, rfl, .ty "bool", ty_int, kit_ty k_int_bool, _, rfl, _, rfl, iteT ?_⟩
  refine ⟨_, rfl, _, rfl, _, _, rfl, rfl, _, rfl, ite2 (fun c => ?_) (fun c => ?_)⟩
  · have c1 : lo ≤ i := of_decide_eq_true c
    refine ⟨_, rfl, _, _, rfl, rfl, ?_⟩
    have e : decide (lo ≤ i ∧ i ≤ hi) = decide (i ≤ hi) := by simp [c1]
    have q1 := q H (Same.refl H)
    rw [e] at q1
    exact q1
  · have c1 : ¬ lo ≤ i := fun z => c (decide_eq_true z)
    have e : decide (lo ≤ i ∧ i ≤ hi) = false := by simp [c1]
    have q1 := q H (Same.refl H)
    rw [e] at q1
    exact q1
theorem ok_is_text_of (D : Dn K mg "is_text_of" s_is_text_of P_is_text_of) (g : Gx mg) : C8.Cal P w K mg base 1 "is_text_of" spTextOf [] := by
  refine D.cal sc_is_text_of (fun vs H Q E h => ?_) (fun f cdv A outer s H vs Q E hr h => ?_)
  · obtain ⟨l, sg, rfl, hl, q⟩ := h
    rfl
  obtain ⟨l, sg, rfl, hl, q⟩ := h
  have nd := sc_is_text_of.nd
  refine ⟨_, (pss_one (ps_ret (pe_and (pe_callB call_isi rfl g.isi b_isi (pa_cons (pv 0) (pa_cons (pe_bltn (v := .ty "str") rfl g.str b_str rfl) pa_nil))) (pe_one (pe_callB (cr_all rfl) rfl g.all b_all (pa_cons (pe_lc (own := [("sign", 2)]) rfl nd (pi_str (pv 0)) (blkOk_by (own := [("sign", 2)]) (N := N_is_text_of) (sc := defScope s_is_text_of) (by decide +kernel)) (fun _ _ _ _ _ => (pg_name (i := 2) nd rfl (.inl rfl))) (fun _ _ _ _ _ => pts_nil) (fun _ _ _ _ _ => (pe_cmpR op_in_sign (pv 2) (pv 1) rfl))) pa_nil)))))), ?_⟩
  refine ⟨_, rfl, _, _, _, _, _, rfl, .ty "str", ty_str, kit_ty k_str_str, _, rfl, iteT ?_⟩
  refine ⟨_, rfl, _, rfl, fun D hD => ?_⟩
  have hn : (tx l).cps.size = l.length := tx_len l
  refine lc_it (walk_str (z := tx l)) (fun i H2 => Same H H2 ∧ H2 D = some (.lst ((l.take i).map fun c => V.bl (decide (c ∈ sg))))) ⟨Same.new hD _, upd_same⟩ (fun _ _ _ _ => trivial) ?_ ?_
  · rintro i x H2 H3 hi ⟨s2, h2⟩ ⟨rfl, c, hc, rfl⟩
    have hc' : l[i]? = some c := by
      rw [← hc]
      simp [tx]
    refine ⟨rfl, ?_⟩
    refine ⟨_, rfl, _, rfl, c, tx sg, rfl, rfl, _, h2, ?_, fun b o e => ?_, ?_⟩
    · rw [List.length_map, List.length_take]
      exact szl (by omega)
    · rw [upd_ne (ne_of_none e hD)]
      exact s2 b o e
    · rw [upd_same, List.take_add_one, hc']
      simp [tx_list]
      exact decide_eq_decide.mpr Iff.rfl
  · rintro H2 ⟨s2, h2⟩
    rw [hn, List.take_of_length_le (Nat.le_refl _)] at h2
    refine ⟨D, l.map fun c => decide (c ∈ sg), rfl, SqL.of (by rw [h2, List.map_map]; rfl), ?_⟩
    have e : (l.map fun c => decide (c ∈ sg)).all id = decide (∀ c ∈ l, c ∈ sg) := by
      rw [List.all_map, Bool.eq_iff_iff]
      simp
    rw [e]
    exact q H2 s2
theorem ok_are_prices (D : Dn K mg "are_prices" s_are_prices P_are_prices) (g : Gx mg) (c_is_number : C8.Cal P w K mg base 1 "is_number" spNum []) : C8.Cal P w K mg base 2 "are_prices" spPrices [] := by
  refine D.cal sc_are_prices (fun vs H Q E h => ?_) (fun f cdv A outer s H vs Q E hr h => ?_)
  · obtain ⟨b, p, rfl, hb, ok, q⟩ := h
    rfl
  obtain ⟨b, p, rfl, hb, ok, q⟩ := h
  have nd := sc_are_prices.nd
  refine ⟨_, (pss_cons (ps_if (PW.pt (pw_or (pt_not (pt_val (pe_callB call_isi rfl g.isi b_isi (pa_cons (pv 0) (pa_cons (pe_bltn (v := .ty "tuple") rfl g.tuple b_tuple rfl) pa_nil))))) (pw_or1 (pt_cmpR op_ne (pe_callB call_len_seq rfl g.len PySem.boot_len (pa_cons (pv 0) pa_nil)) (pv 1) (nomark _))))) (pss_one (ps_ret pe_bl)) pss_nil)
    (pss_one (ps_ret (pe_callB (cr_all rfl) rfl g.all b_all (pa_cons (pe_lc (own := [("price", 2)]) rfl nd (pi_tup (pv 0)) (blkOk_by (own := [("price", 2)]) (N := N_are_prices) (sc := defScope s_are_prices) (by decide +kernel)) (fun _ _ _ _ _ => (pg_name (i := 2) nd rfl (.inl rfl))) (fun _ _ _ _ _ => pts_nil) (fun _ _ _ _ _ => (C8.pe_c c_is_number (by exact hr) (by decide) rfl (pa_cons (pv 2) (pa_cons pe_int (pa_cons (C8.pe_gc rfl g.MOST_PRICE) pa_nil)))))) pa_nil))))), ?_⟩
  have hl : (p.pr.map V.int).length = p.many := by rw [List.length_map]; exact ok.pl
  refine ⟨_, rfl, _, _, _, _, _, rfl, .ty "tuple", hb.ty, kit_ty k_tup_tup, _, rfl, iteF ?_⟩
  refine ⟨_, rfl, b, _, rfl, .inr (TupF.sq hb), _, rfl, rfl, _, rfl, iteNS (by rw [hl]) ?_⟩
  refine ⟨_, rfl, b, rfl, ⟨_, TupF.sq hb⟩, fun D hD => ?_⟩
  refine lc_it (walk_tup (a := b) (xs := p.pr.map V.int)) (fun i H2 => Same H H2 ∧ H2 D = some (.lst ((List.replicate i true).map V.bl))) ⟨Same.new hD _, upd_same⟩ (fun i H2 _ h2 => TupF.sq (PrAt.mono hb h2.1)) ?_ ?_
  · rintro i x H2 H3 hi ⟨s2, h2⟩ ⟨rfl, hx⟩
    rw [List.getElem?_map] at hx
    obtain ⟨y, hy, rfl⟩ := Option.map_eq_some_iff.mp hx
    have hy' := ok.pr y (List.mem_of_getElem? hy)
    refine ⟨rfl, ?_⟩
    refine ⟨_, rfl, y, 1, 99, rfl, fun H4 s4 => ⟨_, s4 _ _ h2, ?_, fun b o e => ?_, ?_⟩⟩
    · rw [List.length_map, List.length_replicate]
      have := ok.m4
      exact szl (by omega)
    · rw [upd_ne (ne_of_none e hD)]
      exact s4 _ _ (s2 b o e)
    · rw [upd_same, List.replicate_succ', List.map_append, decide_eq_true hy']
      rfl
  · rintro H2 ⟨s2, h2⟩
    refine ⟨D, _, rfl, SqL.of h2, ?_⟩
    have e : (List.replicate (p.pr.map V.int).length true).all id = true := by simp
    rw [e]
    exact q H2 s2
theorem mem_steps {c n : Nat} : c ∈ signs n ++ [45] ↔ c = 45 ∨ c ∈ signs n := by
  rw [List.mem_append, List.mem_singleton, Or.comm]
theorem ok_check_plan (D : Dn K mg "check_plan" s_check_plan P_check_plan) (g : Gx mg) (c_is_number : C8.Cal P w K mg base 1 "is_number" spNum []) (c_are_prices : C8.Cal P w K mg base 2 "are_prices" spPrices []) : C8.Cal P w K mg base 3 "check_plan" spChPlan [] := by
  refine D.cal sc_check_plan (fun vs H Q E h => ?_) (fun f cdv A outer s H vs Q E hr h => ?_)
  · obtain ⟨v, p, rfl, ⟨a, b, rfl, ha, hb⟩, ok, q⟩ := h
    rfl
  obtain ⟨v, p, rfl, ⟨a, b, rfl, ha, hb⟩, ok, q⟩ := h
  have nd := sc_check_plan.nd
  refine ⟨_, (pss_cons (ps_if (PW.pt (pw_or (pt_not (pt_val (pe_callB call_isi rfl g.isi b_isi (pa_cons (pv 0) (pa_cons (pe_bltn (v := .ty "tuple") rfl g.tuple b_tuple rfl) pa_nil))))) (pw_or1 (pt_cmpR op_ne (pe_callB call_len_seq rfl g.len PySem.boot_len (pa_cons (pv 0) pa_nil)) pe_int (nomark _))))) (pss_one ps_never) pss_nil)
    (pss_cons (ps_asg (pv 0) (pg_tup (by rfl) (pgs_cons (pg_name (i := 1) nd rfl (.inl rfl)) (pgs_cons (pg_name (i := 2) nd rfl (.inl rfl)) (pgs_cons (pg_name (i := 3) nd rfl (.inl rfl)) (pgs_cons (pg_name (i := 4) nd rfl (.inl rfl)) pgs_nil))))))
    (pss_cons (ps_if (pt_not (pt_val (C8.pe_c c_is_number hr (by decide) rfl (pa_cons (pv 1) (pa_cons pe_int (pa_cons (C8.pe_gc rfl g.MOST_ROOM) pa_nil)))))) (pss_one ps_never) pss_nil)
    (pss_cons (ps_if (pt_not (pt_val (C8.pe_c c_is_number hr (by decide) rfl (pa_cons (pv 2) (pa_cons pe_int (pa_cons (pe_callB call_len_str rfl g.len PySem.boot_len (pa_cons (C8.pe_gc rfl g.SIGNS) pa_nil)) pa_nil)))))) (pss_one ps_never) pss_nil)
    (pss_cons (ps_if (pt_not (pt_val (C8.pe_c c_are_prices hr (by decide) rfl (pa_cons (pv 3) (pa_cons (pv 2) pa_nil))))) (pss_one ps_never) pss_nil)
    (pss_one (ps_if (pt_not (pt_val (C8.pe_c c_is_number hr (by decide) rfl (pa_cons (pv 4) (pa_cons pe_int (pa_cons (C8.pe_gc rfl g.MOST_PRICE) pa_nil)))))) (pss_one ps_never) pss_nil))))))), ?_⟩
  refine ⟨_, rfl, _, _, _, _, _, rfl, .ty "tuple", ty_tup ha, kit_ty k_tup_tup, _, rfl, iteF ?_⟩
  refine ⟨_, rfl, a, _, rfl, .inr (SqT.of ha), rfl, _, rfl, iteNS rfl ?_⟩
  refine ⟨_, rfl, a, _, rfl, SqT.of ha, rfl, _, _, rfl, _, _, rfl, _, _, rfl, _, _, rfl, rfl, ?_⟩
  have e0 : decide ((1 : Int) ≤ (p.room : Int) ∧ (p.room : Int) ≤ 9) = true := decide_eq_true (by have := ok.r1; have := ok.r9; omega)
  have e1 : decide ((1 : Int) ≤ (p.many : Int) ∧ (p.many : Int) ≤ 4) = true := decide_eq_true (by have := ok.m1; have := ok.m4; omega)
  have e3 : decide ((1 : Int) ≤ p.pop ∧ p.pop ≤ 99) = true := decide_eq_true ⟨ok.q1, ok.q9⟩
  refine ⟨_, rfl, p.room, 1, 9, rfl, fun H1 s1 => ⟨_, rfl, ?_⟩⟩
  rw [e0]
  refine iteF ?_
  refine ⟨_, rfl, _, rfl, by rw [tx_len]; exact sz (by decide), p.many, 1, 4, rfl, fun H2 s2 => ⟨_, rfl, ?_⟩⟩
  rw [e1]
  refine iteF ?_
  refine ⟨_, rfl, _, rfl, b, p, rfl, PrAt.mono hb (s1.trans s2), ok, fun H3 s3 => ⟨_, rfl, iteF ?_⟩⟩
  refine ⟨_, rfl, p.pop, 1, 99, rfl, fun H4 s4 => ⟨_, rfl, ?_⟩⟩
  rw [e3]
  refine iteF ?_
  exact q H4 (s1.trans (s2.trans (s3.trans s4)))
theorem ok_is_stack (D : Dn K mg "is_stack" s_is_stack P_is_stack) (g : Gx mg) (c_signs_of : C8.Cal P w K mg base 1 "signs_of" spSigns []) (c_is_text_of : C8.Cal P w K mg base 1 "is_text_of" spTextOf []) : C8.Cal P w K mg base 2 "is_stack" spIsStack [] := by
  refine D.cal sc_is_stack (fun vs H Q E h => ?_) (fun f cdv A outer s H vs Q E hr h => ?_)
  · obtain ⟨v, p, l, rfl, ⟨a, b, rfl, ha, hb⟩, ok, hl, hs, q⟩ := h
    rfl
  obtain ⟨v, p, l, rfl, ⟨a, b, rfl, ha, hb⟩, ok, hl, hs, q⟩ := h
  have nd := sc_is_stack.nd
  refine ⟨_, (pss_one (ps_ret (pe_and (C8.pe_c c_is_text_of hr (by decide) rfl (pa_cons (pv 1) (pa_cons (C8.pe_c c_signs_of hr (by decide) rfl (pa_cons (pv 0) pa_nil)) pa_nil))) (pe_one (pe_cmpR op_le (pe_callB call_len_str rfl g.len PySem.boot_len (pa_cons (pv 1) pa_nil)) (pe_ix ix_tup (pv 0) pe_int (fun _ _ => rfl)) (nomark _)))))), ?_⟩
  have hr9 := ok.r9
  refine ⟨_, rfl, _, rfl, _, p, rfl, ⟨a, b, rfl, ha, hb⟩, ok, fun H1 s1 => ?_⟩
  refine ⟨l, signs p.many, rfl, by omega, fun H2 s2 => ⟨_, rfl, ?_⟩⟩
  rw [decide_eq_true hs]
  refine iteT ?_
  refine ⟨_, rfl, _, rfl, by rw [tx_len]; exact sz (by omega), _, rfl, a, _, 0, _, rfl, rfl, SqT.of ((s1.trans s2) _ _ ha), rfl, _, _, rfl, rfl, ?_⟩
  show Q (.bl (decide (((tx l).length : Int) ≤ (p.room : Int)))) H2
  rw [tx_len, decide_eq_true (by omega)]
  exact q H2 (s1.trans s2)
theorem ok_check_stack (D : Dn K mg "check_stack" s_check_stack P_check_stack) (g : Gx mg) (c_is_stack : C8.Cal P w K mg base 2 "is_stack" spIsStack []) : C8.Cal P w K mg base 3 "check_stack" spChStack [] := by
  refine D.cal sc_check_stack (fun vs H Q E h => ?_) (fun f cdv A outer s H vs Q E hr h => ?_)
  · obtain ⟨v, p, l, rfl, hp, ok, hl, hs, q⟩ := h
    rfl
  obtain ⟨v, p, l, rfl, hp, ok, hl, hs, q⟩ := h
  have nd := sc_check_stack.nd
  refine ⟨_, (pss_one (ps_if (pt_not (pt_val (C8.pe_c c_is_stack hr (by decide) rfl (pa_cons (pv 0) (pa_cons (pv 1) pa_nil))))) (pss_one ps_never) pss_nil)), ?_⟩
  refine ⟨_, rfl, _, rfl, v, p, l, rfl, hp, ok, hl, hs, fun H1 s1 => ⟨_, rfl, iteF ?_⟩⟩
  exact q H1 s1
theorem ok_check_steps (D : Dn K mg "check_steps" s_check_steps P_check_steps) (g : Gx mg) (c_signs_of : C8.Cal P w K mg base 1 "signs_of" spSigns []) (c_is_text_of : C8.Cal P w K mg base 1 "is_text_of" spTextOf []) : C8.Cal P w K mg base 2 "check_steps" spChSteps [] := by
  refine D.cal sc_check_steps (fun vs H Q E h => ?_) (fun f cdv A outer s H vs Q E hr h => ?_)
  · obtain ⟨v, p, l, rfl, ⟨a, b, rfl, ha, hb⟩, ok, hl, hs, q⟩ := h
    rfl
  obtain ⟨v, p, l, rfl, ⟨a, b, rfl, ha, hb⟩, ok, hl, hs, q⟩ := h
  have nd := sc_check_steps.nd
  refine ⟨_, (pss_one (ps_if (pt_not (pt_val (C8.pe_c c_is_text_of hr (by decide) rfl (pa_cons (pv 1) (pa_cons (pe_op op_add_str (C8.pe_c c_signs_of hr (by decide) rfl (pa_cons (pv 0) pa_nil)) (C8.pe_gc rfl g.POP_STEP)) pa_nil))))) (pss_one ps_never) pss_nil)), ?_⟩
  refine ⟨_, rfl, _, rfl, _, p, rfl, ⟨a, b, rfl, ha, hb⟩, ok, fun H1 s1 => ⟨_, _, rfl, rfl, ?_, ?_⟩⟩
  · rw [tx_len, tx_len]
    have := signs_len p.many
    exact sz (by simp; omega)
  rw [tx_app]
  refine ⟨l, _, rfl, hl, fun H2 s2 => ⟨_, rfl, ?_⟩⟩
  rw [decide_eq_true (fun c hc => mem_steps.mpr (hs c hc))]
  exact iteF (q H2 (s1.trans s2))
theorem ok_is_triple (D : Dn K mg "is_triple" s_is_triple P_is_triple) (g : Gx mg) (c_is_number : C8.Cal P w K mg base 1 "is_number" spNum []) (c_signs_of : C8.Cal P w K mg base 1 "signs_of" spSigns []) (c_is_text_of : C8.Cal P w K mg base 1 "is_text_of" spTextOf []) : C8.Cal P w K mg base 2 "is_triple" spIsTriple [] := by
  refine D.cal sc_is_triple (fun vs H Q E h => ?_) (fun f cdv A outer s H vs Q E hr h => ?_)
  · obtain ⟨v, p, u, t, rfl, ⟨a, b, rfl, ha, hb⟩, ok, ⟨c, rfl, hc⟩, tok, q⟩ := h
    rfl
  obtain ⟨v, p, u, t, rfl, ⟨a, b, rfl, ha, hb⟩, ok, ⟨c, rfl, hc⟩, tok, q⟩ := h
  have nd := sc_is_triple.nd
  refine ⟨_, (pss_cons (ps_if (PW.pt (pw_or (pt_not (pt_val (pe_callB call_isi rfl g.isi b_isi (pa_cons (pv 1) (pa_cons (pe_bltn (v := .ty "tuple") rfl g.tuple b_tuple rfl) pa_nil))))) (pw_or1 (pt_cmpR op_ne (pe_callB call_len_seq rfl g.len PySem.boot_len (pa_cons (pv 1) pa_nil)) pe_int (nomark _))))) (pss_one (ps_ret pe_bl)) pss_nil)
    (pss_cons (ps_set (i := 2) nd rfl (.inl rfl) (pe_ix ix_tup (pv 0) pe_int (fun _ _ => rfl)))
    (pss_cons (ps_asg (pv 1) (pg_tup (by rfl) (pgs_cons (pg_name (i := 3) nd rfl (.inl rfl)) (pgs_cons (pg_name (i := 4) nd rfl (.inl rfl)) (pgs_cons (pg_name (i := 5) nd rfl (.inl rfl)) pgs_nil)))))
    (pss_cons (ps_if (PW.pt (pw_or (pt_not (pt_val (C8.pe_c c_is_number hr (by decide) rfl (pa_cons (pv 3) (pa_cons pe_int (pa_cons (pv 2) pa_nil)))))) (pw_or1 (pt_not (pt_val (C8.pe_c c_is_number hr (by decide) rfl (pa_cons (pv 4) (pa_cons pe_int (pa_cons (pv 2) pa_nil))))))))) (pss_one (ps_ret pe_bl)) pss_nil)
    (pss_cons (ps_if (pt_not (pt_val (C8.pe_c c_is_text_of hr (by decide) rfl (pa_cons (pv 5) (pa_cons (C8.pe_c c_signs_of hr (by decide) rfl (pa_cons (pv 0) pa_nil)) pa_nil))))) (pss_one (ps_ret pe_bl)) pss_nil)
    (pss_cons (ps_if (PW.pt (pw_and (pt_cmpR op_eq (pv 4) pe_int (nomark _)) (pw_and1 (pt_cmpR op_ne (pv 3) pe_int (nomark _))))) (pss_one (ps_ret pe_bl)) pss_nil)
    (pss_one (ps_ret (pe_and (pe_cmpR op_le (pe_op op_add (pv 3) (pv 4)) (pv 2) (nomark _)) (pe_one (pe_cmpR op_le (pe_op op_add (pe_callB call_len_str rfl g.len PySem.boot_len (pa_cons (pv 5) pa_nil)) (pv 4)) (pv 2) (nomark _)))))))))))), ?_⟩
  have h1 := tok.gk
  have h2 := tok.kl
  have h3 := tok.z
  have hr9 := ok.r9
  refine ⟨_, rfl, _, _, _, _, _, rfl, .ty "tuple", ty_tup hc, kit_ty k_tup_tup, _, rfl, iteF ?_⟩
  refine ⟨_, rfl, c, _, rfl, .inr (SqT.of hc), rfl, _, rfl, iteNS rfl ?_⟩
  refine ⟨_, rfl, a, _, 0, _, rfl, rfl, SqT.of ha, rfl, ?_⟩
  refine ⟨_, rfl, c, _, rfl, SqT.of hc, rfl, _, _, rfl, _, _, rfl, _, _, rfl, rfl, ?_⟩
  refine ⟨_, rfl, _, rfl, t.g, 0, p.room, rfl, fun H1 s1 => ⟨_, rfl, ?_⟩⟩
  rw [decide_eq_true (by omega)]
  refine iteF ?_
  refine ⟨_, rfl, _, rfl, t.k, 0, p.room, rfl, fun H2 s2 => ⟨_, rfl, ?_⟩⟩
  rw [decide_eq_true (by omega)]
  refine iteF ?_
  refine ⟨_, rfl, _, rfl, _, p, rfl, ⟨a, b, rfl, (s1.trans s2) _ _ ha, PrAt.mono hb (s1.trans s2)⟩, ok, fun H3 s3 => ?_⟩
  refine ⟨t.l, signs p.many, rfl, by omega, fun H4 s4 => ⟨_, rfl, ?_⟩⟩
  rw [decide_eq_true tok.s]
  refine iteF ?_
  refine ⟨_, rfl, rfl, _, rfl, ite2 (fun z => ?_) (fun z => ?_)⟩
  · have z1 : t.k = 0 := by
      have z1 := of_decide_eq_true z
      injection z1 with z2
      omega
    have z2 := h3 z1
    refine ⟨_, rfl, rfl, _, rfl, iteNS (by rw [z2]; rfl) ?_⟩
    refine ⟨_, rfl, _, rfl, _, _, rfl, rfl, _, rfl, _, _, rfl, rfl, _, rfl, ?_⟩
    rw [decide_eq_true (by omega)]
    refine iteT ⟨_, rfl, _, rfl, by rw [tx_len]; exact sz (by omega), _, rfl, _, _, rfl, rfl, _, rfl, _, _, rfl, rfl, ?_⟩
    show Q (.bl (decide (((tx t.l).length : Int) + (t.k : Int) ≤ (p.room : Int)))) H4
    rw [tx_len, decide_eq_true (by omega)]
    exact q _ (s1.trans (s2.trans (s3.trans s4)))
  · refine iteF ?_
    refine ⟨_, rfl, _, rfl, _, _, rfl, rfl, _, rfl, _, _, rfl, rfl, _, rfl, ?_⟩
    rw [decide_eq_true (by omega)]
    refine iteT ⟨_, rfl, _, rfl, by rw [tx_len]; exact sz (by omega), _, rfl, _, _, rfl, rfl, _, rfl, _, _, rfl, rfl, ?_⟩
    show Q (.bl (decide (((tx t.l).length : Int) + (t.k : Int) ≤ (p.room : Int)))) H4
    rw [tx_len, decide_eq_true (by omega)]
    exact q _ (s1.trans (s2.trans (s3.trans s4)))
theorem ok_check_triple (D : Dn K mg "check_triple" s_check_triple P_check_triple) (g : Gx mg) (c_is_triple : C8.Cal P w K mg base 2 "is_triple" spIsTriple []) : C8.Cal P w K mg base 3 "check_triple" spChTriple [] := by
  refine D.cal sc_check_triple (fun vs H Q E h => ?_) (fun f cdv A outer s H vs Q E hr h => ?_)
  · obtain ⟨v, p, u, t, rfl, hp, ok, ht, tok, q⟩ := h
    rfl
  obtain ⟨v, p, u, t, rfl, hp, ok, ht, tok, q⟩ := h
  have nd := sc_check_triple.nd
  refine ⟨_, (pss_one (ps_if (pt_not (pt_val (C8.pe_c c_is_triple hr (by decide) rfl (pa_cons (pv 0) (pa_cons (pv 1) pa_nil))))) (pss_one ps_never) pss_nil)), ?_⟩
  refine ⟨_, rfl, _, rfl, v, p, u, t, rfl, hp, ok, ht, tok, fun H1 s1 => ⟨_, rfl, iteF ?_⟩⟩
  exact q H1 s1
theorem ok_without_top (D : Dn K mg "without_top" s_without_top P_without_top) (g : Gx mg) : C8.Cal P w K mg base 1 "without_top" spWithout [] := by
  refine D.cal sc_without_top (fun vs H Q E h => ?_) (fun f cdv A outer s H vs Q E hr h => ?_)
  · obtain ⟨l, n, rfl, hl, q⟩ := h
    rfl
  obtain ⟨l, n, rfl, hl, q⟩ := h
  have nd := sc_without_top.nd
  refine ⟨_, (pss_one (ps_ret (pe_slice sl_str (pv 0) po_none (po_some (pe_callB (call_max2 rfl) rfl g.max b_max (pa_cons (pe_op op_sub (pe_callB call_len_str rfl g.len PySem.boot_len (pa_cons (pv 0) pa_nil)) (pv 1)) (pa_cons pe_int pa_nil))))))), ?_⟩
  have e : (if (0 : Int) > (((tx l).length : Nat) : Int) - (n : Int) then (0 : Int) else (((tx l).length : Nat) : Int) - (n : Int)) = ((l.length - n : Nat) : Int) := by
    rw [tx_len]
    split <;> omega
  refine ⟨_, rfl, _, rfl, _, rfl, by rw [tx_len]; exact sz (by omega), _, rfl, _, _, rfl, rfl, _, _, rfl, ?_⟩
  rw [e]
  refine ⟨_, rfl, _, rfl, by rw [tx_len]; exact sz (by omega), ?_⟩
  rw [cut_to (Nat.sub_le ..)]
  exact q H (Same.refl H)
theorem ok_top_of (D : Dn K mg "top_of" s_top_of P_top_of) (g : Gx mg) : C8.Cal P w K mg base 1 "top_of" spTop [] := by
  refine D.cal sc_top_of (fun vs H Q E h => ?_) (fun f cdv A outer s H vs Q E hr h => ?_)
  · obtain ⟨l, n, rfl, hl, q⟩ := h
    rfl
  obtain ⟨l, n, rfl, hl, q⟩ := h
  have nd := sc_top_of.nd
  refine ⟨_, (pss_one (ps_ret (pe_slice sl_str (pv 0) (po_some (pe_callB (call_max2 rfl) rfl g.max b_max (pa_cons (pe_op op_sub (pe_callB call_len_str rfl g.len PySem.boot_len (pa_cons (pv 0) pa_nil)) (pv 1)) (pa_cons pe_int pa_nil)))) po_none))), ?_⟩
  have e : (if (0 : Int) > (((tx l).length : Nat) : Int) - (n : Int) then (0 : Int) else (((tx l).length : Nat) : Int) - (n : Int)) = ((l.length - n : Nat) : Int) := by
    rw [tx_len]
    split <;> omega
  refine ⟨_, rfl, _, rfl, _, rfl, by rw [tx_len]; exact sz (by omega), _, rfl, _, _, rfl, rfl, _, _, rfl, ?_⟩
  rw [e]
  refine ⟨_, rfl, _, rfl, by rw [tx_len]; exact sz (by omega), ?_⟩
  rw [cut_from (Nat.sub_le ..)]
  exact q H (Same.refl H)
theorem ok_stack_behind (D : Dn K mg "stack_behind" s_stack_behind P_stack_behind) (g : Gx mg) (c_without_top : C8.Cal P w K mg base 1 "without_top" spWithout []) (c_top_of : C8.Cal P w K mg base 1 "top_of" spTop []) : C8.Cal P w K mg base 2 "stack_behind" spBehind [] := by
  refine D.cal sc_stack_behind (fun vs H Q E h => ?_) (fun f cdv A outer s H vs Q E hr h => ?_)
  · obtain ⟨u, t, l, rfl, ⟨a, rfl, ha⟩, hl, ht, q⟩ := h
    rfl
  obtain ⟨u, t, l, rfl, ⟨a, rfl, ha⟩, hl, ht, q⟩ := h
  have nd := sc_stack_behind.nd
  refine ⟨_, (pss_cons (ps_asg (pv 0) (pg_tup (by rfl) (pgs_cons (pg_name (i := 2) nd rfl (.inl rfl)) (pgs_cons (pg_name (i := 3) nd rfl (.inl rfl)) (pgs_cons (pg_name (i := 4) nd rfl (.inl rfl)) pgs_nil)))))
    (pss_one (ps_ret (pe_op op_add_str (C8.pe_c c_top_of hr (by decide) rfl (pa_cons (C8.pe_c c_without_top hr (by decide) rfl (pa_cons (pv 1) (pa_cons (pv 2) pa_nil))) (pa_cons (pv 3) pa_nil))) (pv 4))))), ?_⟩
  refine ⟨_, rfl, a, _, rfl, SqT.of ha, rfl, _, _, rfl, _, _, rfl, _, _, rfl, rfl, ?_⟩
  refine ⟨_, rfl, _, rfl, l, t.g, rfl, by omega, fun H1 s1 => ⟨_, rfl, ct t.g l, t.k, rfl, by rw [len_ct]; omega, fun H2 s2 => ⟨_, rfl, _, _, rfl, rfl, ?_, ?_⟩⟩⟩
  · rw [tx_len, tx_len, len_tp, len_ct]
    exact sz (by omega)
  · rw [tx_app]
    exact q _ (s1.trans s2)
theorem ok_tidied (D : Dn K mg "tidied" s_tidied P_tidied) (g : Gx mg) : C8.Cal P w K mg base 1 "tidied" spTidied [] := by
  refine D.cal sc_tidied (fun vs H Q E h => ?_) (fun f cdv A outer s H vs Q E hr h => ?_)
  · obtain ⟨a, b, l, rfl, q⟩ := h
    rfl
  obtain ⟨a, b, l, rfl, q⟩ := h
  have nd := sc_tidied.nd
  refine ⟨_, (pss_cons (ps_if (pt_cmpR op_eq (pv 1) pe_int (nomark _)) (pss_one (ps_ret (pe_tup (pa_cons pe_int (pa_cons pe_int (pa_cons (pv 2) pa_nil)))))) pss_nil)
    (pss_one (ps_ret (pe_tup (pa_cons (pv 0) (pa_cons (pv 1) (pa_cons (pv 2) pa_nil))))))), ?_⟩
  refine ⟨_, rfl, rfl, _, rfl, ite2 (fun c => ?_) (fun c => ?_)⟩
  · have c' : b = 0 := by
      have c1 := of_decide_eq_true c
      injection c1 with c2
      omega
    refine ⟨_, rfl, by show 3 ≤ sizeLine; decide, fun p hp => ?_⟩
    refine q _ _ (Same.new hp _) ⟨p, rfl, ?_⟩
    unfold tidy
    rw [if_pos c', upd_same]
    rfl
  · have c' : ¬ b = 0 := fun z => by
      subst z
      exact c (decide_eq_true rfl)
    refine ⟨_, rfl, _, rfl, _, rfl, by show 3 ≤ sizeLine; decide, fun p hp => ?_⟩
    refine q _ _ (Same.new hp _) ⟨p, rfl, ?_⟩
    unfold tidy
    rw [if_neg c', upd_same]
theorem ok_untouched (D : Dn K mg "untouched" s_untouched P_untouched) (g : Gx mg) : C8.Cal P w K mg base 1 "untouched" spUnt [] := by
  refine D.cal sc_untouched (fun vs H Q E h => ?_) (fun f cdv A outer s H vs Q E hr h => ?_)
  · obtain ⟨v, p, rfl, ⟨a, b, rfl, ha, hb⟩, q⟩ := h
    rfl
  obtain ⟨v, p, rfl, ⟨a, b, rfl, ha, hb⟩, q⟩ := h
  have nd := sc_untouched.nd
  refine ⟨_, (pss_one (ps_ret (pe_tup (pa_cons pe_int (pa_cons (pe_ix ix_tup (pv 0) pe_int (fun _ _ => rfl)) (pa_cons pe_str pa_nil)))))), ?_⟩
  refine ⟨_, rfl, a, _, 0, _, rfl, rfl, SqT.of ha, rfl, by show 3 ≤ sizeLine; decide, fun e he => ?_⟩
  refine q _ _ (Same.new he _) ⟨e, rfl, ?_⟩
  rw [upd_same]
  exact congrArg (fun z => some (HO.tup [V.int 0, V.int p.room, V.str z])) s_empty
theorem ok_join_triples (D : Dn K mg "join_triples" s_join_triples P_join_triples) (g : Gx mg) (c_without_top : C8.Cal P w K mg base 1 "without_top" spWithout []) (c_top_of : C8.Cal P w K mg base 1 "top_of" spTop []) (c_tidied : C8.Cal P w K mg base 1 "tidied" spTidied []) : C8.Cal P w K mg base 2 "join_triples" spJoin [] := by
  refine D.cal sc_join_triples (fun vs H Q E h => ?_) (fun f cdv A outer s H vs Q E hr h => ?_)
  · obtain ⟨_, _, t, u, rfl, ⟨a, rfl, ha⟩, ⟨b, rfl, hb⟩, ht, hu, q⟩ := h
    rfl
  obtain ⟨_, _, t, u, rfl, ⟨a, rfl, ha⟩, ⟨b, rfl, hb⟩, ht, hu, q⟩ := h
  have nd := sc_join_triples.nd
  refine ⟨_, (pss_cons (ps_asg (pv 0) (pg_tup (by rfl) (pgs_cons (pg_name (i := 2) nd rfl (.inl rfl)) (pgs_cons (pg_name (i := 3) nd rfl (.inl rfl)) (pgs_cons (pg_name (i := 4) nd rfl (.inl rfl)) pgs_nil)))))
    (pss_cons (ps_asg (pv 1) (pg_tup (by rfl) (pgs_cons (pg_name (i := 5) nd rfl (.inl rfl)) (pgs_cons (pg_name (i := 6) nd rfl (.inl rfl)) (pgs_cons (pg_name (i := 7) nd rfl (.inl rfl)) pgs_nil)))))
    (pss_cons (ps_set (i := 8) nd rfl (.inl rfl) (pe_callB (call_max2 rfl) rfl g.max b_max (pa_cons (pe_op op_sub (pv 5) (pe_callB call_len_str rfl g.len PySem.boot_len (pa_cons (pv 4) pa_nil))) (pa_cons pe_int pa_nil))))
    (pss_cons (ps_set (i := 9) nd rfl (.inl rfl) (C8.pe_c c_without_top hr (by decide) rfl (pa_cons (pv 4) (pa_cons (pv 5) pa_nil))))
    (pss_cons (ps_set (i := 10) nd rfl (.inl rfl) (pe_callB (call_max2 rfl) rfl g.max b_max (pa_cons (pe_callB (call_min2 rfl) rfl g.min b_min (pa_cons (pe_op op_sub (pv 3) (pv 8)) (pa_cons (pe_op op_sub (pv 6) (pe_callB call_len_str rfl g.len PySem.boot_len (pa_cons (pv 9) pa_nil))) pa_nil))) (pa_cons pe_int pa_nil))))
    (pss_one (ps_ret (C8.pe_c c_tidied hr (by decide) rfl (pa_cons (pe_op op_add (pv 2) (pv 8)) (pa_cons (pv 10) (pa_cons (pe_op op_add_str (C8.pe_c c_top_of hr (by decide) rfl (pa_cons (pv 9) (pa_cons (pv 6) pa_nil))) (pv 7)) pa_nil))))))))))), ?_⟩
  refine ⟨_, rfl, a, _, rfl, SqT.of ha, rfl, _, _, rfl, _, _, rfl, _, _, rfl, rfl, ?_⟩
  refine ⟨_, rfl, b, _, rfl, SqT.of hb, rfl, _, _, rfl, _, _, rfl, _, _, rfl, rfl, ?_⟩
  have e1 : (if (0 : Int) > (u.g : Int) - (((tx t.l).length : Nat) : Int) then (0 : Int) else (u.g : Int) - (((tx t.l).length : Nat) : Int)) = ((u.g - t.l.length : Nat) : Int) := by
    rw [tx_len]
    split <;> omega
  refine ⟨_, rfl, _, rfl, _, rfl, by rw [tx_len]; exact sz (by omega), _, _, rfl, rfl, _, _, rfl, ?_⟩
  rw [e1]
  refine ⟨_, rfl, _, rfl, t.l, u.g, rfl, by omega, fun H1 s1 => ?_⟩
  have e2 : (if (0 : Int) > (if (u.k : Int) - (((tx (ct u.g t.l)).length : Nat) : Int) < (t.k : Int) - ((u.g - t.l.length : Nat) : Int) then (u.k : Int) - (((tx (ct u.g t.l)).length : Nat) : Int) else (t.k : Int) - ((u.g - t.l.length : Nat) : Int)) then (0 : Int)
      else (if (u.k : Int) - (((tx (ct u.g t.l)).length : Nat) : Int) < (t.k : Int) - ((u.g - t.l.length : Nat) : Int) then (u.k : Int) - (((tx (ct u.g t.l)).length : Nat) : Int) else (t.k : Int) - ((u.g - t.l.length : Nat) : Int)))
      = ((min (t.k - (u.g - t.l.length)) (u.k - (ct u.g t.l).length) : Nat) : Int) := by
    rw [tx_len]
    split <;> split <;> omega
  have hc := len_ct u.g t.l
  refine ⟨_, rfl, _, rfl, _, _, rfl, rfl, _, rfl, _, rfl, _, rfl, by rw [tx_len]; exact sz (by omega), _, _, rfl, rfl, _, _, rfl, _, _, rfl, ?_⟩
  rw [e2]
  refine ⟨_, rfl, _, rfl, _, _, rfl, rfl, _, rfl, _, rfl, _, rfl, ct u.g t.l, u.k, rfl, by omega, fun H2 s2 => ⟨_, rfl, _, _, rfl, rfl, ?_, ?_⟩⟩
  · rw [tx_len, tx_len, len_tp]
    exact sz (by omega)
  rw [tx_app]
  exact ⟨t.g + (u.g - t.l.length), _, _, rfl, fun H3 v s3 hv => q H3 v (s1.trans (s2.trans s3)) hv⟩
theorem ok_triple_of_step (D : Dn K mg "triple_of_step" s_triple_of_step P_triple_of_step) (g : Gx mg) (c_tidied : C8.Cal P w K mg base 1 "tidied" spTidied []) : C8.Cal P w K mg base 2 "triple_of_step" spTStep [] := by
  refine D.cal sc_triple_of_step (fun vs H Q E h => ?_) (fun f cdv A outer s H vs Q E hr h => ?_)
  · obtain ⟨v, p, c, rfl, ⟨a, b, rfl, ha, hb⟩, ok, q⟩ := h
    rfl
  obtain ⟨v, p, c, rfl, ⟨a, b, rfl, ha, hb⟩, ok, q⟩ := h
  have nd := sc_triple_of_step.nd
  refine ⟨_, (pss_cons (ps_if (pt_cmpR op_eq (pv 1) (C8.pe_gc rfl g.POP_STEP) (nomark _)) (pss_one (ps_ret (C8.pe_c c_tidied hr (by decide) rfl (pa_cons pe_int (pa_cons (pe_op op_sub (pe_ix ix_tup (pv 0) pe_int (fun _ _ => rfl)) pe_int) (pa_cons pe_str pa_nil)))))) pss_nil)
    (pss_one (ps_ret (pe_tup (pa_cons pe_int (pa_cons (pe_op op_sub (pe_ix ix_tup (pv 0) pe_int (fun _ _ => rfl)) pe_int) (pa_cons (pv 1) pa_nil))))))), ?_⟩
  have hr1 := ok.r1
  have e : (p.room : Int) - 1 = ((p.room - 1 : Nat) : Int) := by omega
  refine ⟨_, rfl, rfl, _, rfl, ite2 (fun z => ?_) (fun z => ?_)⟩
  · have z' : c = 45 := by
      have z1 := of_decide_eq_true z
      injection z1 with z2
      have z3 := str_inj.mp z2
      exact List.head_eq_of_cons_eq z3
    refine ⟨_, rfl, a, _, 0, _, rfl, rfl, SqT.of ha, rfl, _, _, rfl, rfl, ?_⟩
    refine ⟨1, p.room - 1, [], (by show [V.int 1, V.int ((p.room : Int) - 1), V.str ""] = _; rw [e, s_empty]; rfl), fun H1 v s1 hv => q H1 v s1 ?_⟩
    unfold tstep
    rw [if_pos z']
    exact hv
  · have z' : ¬ c = 45 := fun y => by
      subst y
      exact z (decide_eq_true rfl)
    refine ⟨_, rfl, a, _, 0, _, rfl, rfl, SqT.of ha, rfl, _, _, rfl, rfl, _, rfl, by show 3 ≤ sizeLine; decide, fun x hx => ?_⟩
    refine q _ _ (Same.new hx _) ⟨x, rfl, ?_⟩
    unfold tstep
    rw [if_neg z', upd_same]
    exact congrArg (fun z => some (HO.tup [V.int 0, V.int z, V.str (tx [c])])) e
theorem ok_triple_of_steps (D : Dn K mg "triple_of_steps" s_triple_of_steps P_triple_of_steps) (g : Gx mg) (c_untouched : C8.Cal P w K mg base 1 "untouched" spUnt []) (c_triple_of_step : C8.Cal P w K mg base 2 "triple_of_step" spTStep []) (c_join_triples : C8.Cal P w K mg base 2 "join_triples" spJoin []) : C8.Cal P w K mg base 3 "triple_of_steps" spTSteps [] := by
  refine D.cal sc_triple_of_steps (fun vs H Q E h => ?_) (fun f cdv A outer s H vs Q E hr h => ?_)
  · obtain ⟨v, p, l, rfl, ⟨a, b, rfl, ha, hb⟩, ok, hs, q⟩ := h
    rfl
  obtain ⟨v, p, l, rfl, ⟨a, b, rfl, ha, hb⟩, ok, hs, q⟩ := h
  have nd := sc_triple_of_steps.nd
  refine ⟨_, (pss_cons (ps_set (i := 2) nd rfl (.inl rfl) (C8.pe_c c_untouched hr (by decide) rfl (pa_cons (pv 0) pa_nil)))
    (pss_cons (ps_for PassesOwn.never rfl (pi_str (pv 1)) (pg_name (i := 3) nd rfl (.inl rfl)) (pss_one (ps_set (i := 2) nd rfl (.inl rfl) (C8.pe_c c_join_triples hr (by decide) rfl (pa_cons (pv 2) (pa_cons (C8.pe_c c_triple_of_step hr (by decide) rfl (pa_cons (pv 0) (pa_cons (pv 3) pa_nil))) pa_nil))))))
    (pss_one (ps_ret (pv 2))))), ?_⟩
  have hr1 := ok.r1
  have hr9 := ok.r9
  have hn : (tx l).cps.size = l.length := tx_len l
  refine ⟨_, rfl, _, p, rfl, ⟨a, b, rfl, ha, hb⟩, fun H1 v1 s1 hv1 => ?_⟩
  refine ⟨_, rfl, _, rfl, for_it (walk_str (z := tx l)) (fun i σ H2 => ∃ (v2 : V) (o : Option V), σ = [some (.ref a), some (.str (tx l)), some v2, o] ∧ Same H H2 ∧ TripAt H2 v2 ((l.take i).foldl (fun t c => tjoin t (tstep p.room c)) (tunt p.room)))
    ⟨v1, none, rfl, s1, hv1⟩ (fun _ _ _ _ _ => trivial) ?_ ?_⟩
  · rintro i x σ H2 H3 hi ⟨v2, o, rfl, s2, hv2⟩ ⟨rfl, c, hc, rfl⟩
    have hc' : l[i]? = some c := by
      rw [← hc]
      simp [tx]
    have hcm : c ∈ l := List.mem_of_getElem? hc'
    have ok1 := ttold_ok (room := p.room) (many := p.many) hr1 (l.take i) (tunt p.room) tunt_ok (fun d hd => hs d (List.mem_of_mem_take hd))
    have ok2 := tstep_ok (room := p.room) (many := p.many) (c := c) hr1 (hs c hcm)
    have k1 := ok1.kl
    have k2 := ok2.kl
    refine ⟨_, rfl, _, rfl, _, rfl, _, p, c, rfl, ⟨a, b, rfl, s2 _ _ ha, PrAt.mono hb s2⟩, ok, fun H4 v4 s4 hv4 => ?_⟩
    refine ⟨_, _, _, _, rfl, hv2.mono s4, hv4, by omega, by omega, fun H5 v5 s5 hv5 => ?_⟩
    refine ⟨v5, _, rfl, s2.trans (s4.trans s5), ?_⟩
    rw [List.take_add_one, hc', List.foldl_append]
    exact hv5
  · rintro σ H2 ⟨v2, o, rfl, s2, hv2⟩
    rw [hn, List.take_of_length_le (Nat.le_refl _)] at hv2
    exact ⟨_, rfl, q H2 v2 s2 hv2⟩
theorem ok_told_of_steps (D : Dn K mg "told_of_steps" s_told_of_steps P_told_of_steps) (g : Gx mg) (c_check_plan : C8.Cal P w K mg base 3 "check_plan" spChPlan []) (c_check_steps : C8.Cal P w K mg base 2 "check_steps" spChSteps []) (c_triple_of_steps : C8.Cal P w K mg base 3 "triple_of_steps" spTSteps []) : C8.Cal P w K mg base 4 "told_of_steps" spToldSteps [] := by
  refine D.cal sc_told_of_steps (fun vs H Q E h => ?_) (fun f cdv A outer s H vs Q E hr h => ?_)
  · obtain ⟨v, p, l, rfl, hp, ok, hl, hs, q⟩ := h
    rfl
  obtain ⟨v, p, l, rfl, hp, ok, hl, hs, q⟩ := h
  have nd := sc_told_of_steps.nd
  refine ⟨_, (pss_cons (ps_expr (C8.pe_c c_check_plan hr (by decide) rfl (pa_cons (pv 0) pa_nil)))
    (pss_cons (ps_expr (C8.pe_c c_check_steps hr (by decide) rfl (pa_cons (pv 0) (pa_cons (pv 1) pa_nil))))
    (pss_one (ps_ret (C8.pe_c c_triple_of_steps hr (by decide) rfl (pa_cons (pv 0) (pa_cons (pv 1) pa_nil))))))), ?_⟩
  refine ⟨_, rfl, v, p, rfl, hp, ok, fun H1 s1 => ?_⟩
  refine ⟨_, rfl, _, rfl, v, p, l, rfl, hp.mono s1, ok, hl, hs, fun H2 s2 => ?_⟩
  exact ⟨_, rfl, _, rfl, v, p, l, rfl, hp.mono (s1.trans s2), ok, hs, fun H3 v3 s3 h3 => q H3 v3 (s1.trans (s2.trans s3)) h3⟩
theorem iteD {c A B : Prop} [Decidable c] (hc : c) (h : A) : if decide c = true then A else B := by
  rw [decide_eq_true hc]
  exact iteT h
theorem iteDF {c A B : Prop} [Decidable c] (hc : ¬ c) (h : B) : if decide c = true then A else B := by
  rw [decide_eq_false hc]
  exact iteF h
theorem givD {x : V} {H : Hp} {Q : VK} (q : giv (.bl true) H Q) : Q (.bl (decide (x = x))) H := by
  rw [decide_eq_true rfl]
  exact q H (Same.refl H)
theorem ok_law_take (D : Dn K mg "_law_take" s_law_take P_law_take) (g : Gx mg) : C8.Cal P w K mg base 1 "_law_take" spTake [] := by
  refine D.cal sc_law_take (fun vs H Q E h => ?_) (fun f cdv A outer s H vs Q E hr h => ?_)
  · obtain ⟨p, q, ns, z, n, rfl, B, h0, h9, kk⟩ := h
    rfl
  obtain ⟨p, q, ns, z, n, rfl, B, h0, h9, kk⟩ := h
  have nd := sc_law_take.nd
  refine ⟨_, (pss_cons (ps_if (pt_cmpR (op_eqD hr.units) (pe_ix ix_list (pv 0) pe_int (fun _ _ => rfl)) (pe_lst pa_nil) (nomark _)) (pss_cons (ps_asg (pe_op op_modN (pe_op op_mul (pe_ix ix_list (pv 0) pe_int (fun _ _ => rfl)) pe_int) pe_int) (pg_sub (pv 0) pe_int set_list))
    (pss_one (ps_ret (pe_op op_modN (pe_op op_fdivN (pe_ix ix_list (pv 0) pe_int (fun _ _ => rfl)) pe_int) (pv 1))))) pss_nil)
    (pss_cons (ps_set (i := 2) nd rfl (.inl rfl) (pe_ix ix_list (pe_ix ix_list (pv 0) pe_int (fun _ _ => rfl)) pe_int (fun _ _ => rfl)))
    (pss_cons (ps_asg (pe_op op_fdivW (pv 2) (pv 1)) (pg_sub (pe_ix ix_list (pv 0) pe_int (fun _ _ => rfl)) pe_int set_list))
    (pss_cons (ps_if (PW.pt (pw_or (pt_cmpR op_eq (pe_ix ix_list (pe_ix ix_list (pv 0) pe_int (fun _ _ => rfl)) pe_int (fun _ _ => rfl)) pe_int (nomark _)) (pw_or1 (pt_cmpR op_eq (pe_ix ix_list (pe_ix ix_list (pv 0) pe_int (fun _ _ => rfl)) pe_int (fun _ _ => rfl)) (pe_un un_neg pe_int) (nomark _))))) (pss_one (ps_expr (pe_bm PySem.F.plainAttrs_list PySem.F.slot_list_pop PySem.F.type_list_pop mt_popAt (pe_ix ix_list (pv 0) pe_int (fun _ _ => rfl)) (pa_cons pe_int pa_nil)))) pss_nil)
    (pss_one (ps_ret (pe_op op_modN (pv 2) (pv 1)))))))), ?_⟩
  refine ⟨_, rfl, p, _, 0, _, rfl, rfl, SqL.of B.b, rfl, by show 0 ≤ sizeLine; decide, fun D hD => ?_⟩
  have s1 : Same H (upd H D (.lst [])) := Same.new hD _
  have B1 := B.mono s1
  refine ⟨.list (ns.map PyData.int), .list [], .lst (SqL.of B1.l) (dpAll ns), .lst (SqL.of upd_same) .nil, shp ns, shp [], _, rfl, ?_⟩
  cases ns with
  | nil =>
    refine iteT ?_
    refine ⟨_, rfl, p, _, 1, _, rfl, rfl, SqL.of B1.b, rfl, _, _, rfl, rfl, .inr ⟨by decide, by decide⟩, _, _, rfl, rfl, by show ((2147483647 : Int) ≠ 0); decide, ?_⟩
    refine ⟨_, rfl, p, _, 1, 1, rfl, rfl, B1.b, rfl, ?_⟩
    refine ⟨_, rfl, p, _, 1, _, rfl, rfl, SqL.of upd_same, rfl, _, _, rfl, rfl, ⟨by decide, by decide⟩, _, rfl, _, _, rfl, rfl, by show n ≠ 0; omega, ?_⟩
    obtain ⟨f1, f2⟩ := fmod_in (x := ((z * 48271).fmod 2147483647).fdiv 7) h0
    refine kk _ [] ((z * 48271).fmod 2147483647) _ f1 f2 ⟨upd_same, by rw [upd_ne B.ne.symm]; exact B1.l, B.ne⟩ fun b o e e1 e2 => ?_
    rw [upd_ne e1]
    exact s1 _ _ e
  | cons x r =>
    refine iteF ?_
    refine ⟨_, rfl, p, _, 0, _, rfl, rfl, SqL.of B1.b, rfl, q, _, 0, _, rfl, rfl, SqL.of B1.l, at0, ?_⟩
    refine ⟨_, rfl, _, rfl, _, _, rfl, rfl, divW h0 h9, ?_⟩
    refine ⟨_, rfl, p, _, 0, _, rfl, rfl, SqL.of B1.b, rfl, q, _, 0, 0, rfl, rfl, B1.l, ix0, ?_⟩
    have B2 : BoxAt (upd (upd H D (.lst [])) q (.lst (((x / n) :: r).map V.int))) p q ((x / n) :: r) z := ⟨by rw [upd_ne B.ne]; exact B1.b, upd_same, B.ne⟩
    have k2 : Keep p q H (upd (upd H D (.lst [])) q (.lst (((x / n) :: r).map V.int))) := fun b o e e1 e2 => by
      rw [upd_ne e2]
      exact s1 _ _ e
    obtain ⟨f1, f2⟩ := fmod_in (x := x) h0
    have pop : ∀ (T : Prop), (∀ (ns' : List Int) (H' : Hp), BoxAt H' p q ns' z → Keep p q H H' → T) → T := fun T h => h _ _ B2 k2
    have fin : ∀ (ns' : List Int) (H' : Hp), BoxAt H' p q ns' z → Keep p q H H' → tRet (tOp (rI (fun _ j => j ≠ 0) fun i j => V.int (i.fmod j)) (tVar 2) (tVar 1)) { nx := fun _ H' => Q V.non H', rt := Q } [some (.ref p), some (.int n), some (.int x)] H' := fun ns' H' b k =>
      ⟨_, rfl, _, rfl, _, _, rfl, rfl, by show n ≠ 0; omega, kk _ ns' z H' f1 f2 b k⟩
    have B3 : BoxAt (upd (upd (upd H D (.lst [])) q (.lst (((x / n) :: r).map V.int))) q (.lst (r.map V.int))) p q r z := ⟨by rw [upd_ne B.ne]; exact B2.b, upd_same, B.ne⟩
    have k3 : Keep p q H (upd (upd (upd H D (.lst [])) q (.lst (((x / n) :: r).map V.int))) q (.lst (r.map V.int))) := fun b o e e1 e2 => by
      rw [upd_ne e2]
      exact k2 _ _ e e1 e2
    refine ⟨_, rfl, p, _, 0, _, rfl, rfl, SqL.of B2.b, rfl, q, _, 0, _, rfl, rfl, SqL.of B2.l, at0, rfl, _, rfl, ite2 (fun c => ?_) (fun c => ?_)⟩
    · refine iteT ?_
      refine ⟨_, rfl, p, _, 0, _, rfl, rfl, SqL.of B2.b, rfl, .inl ⟨rfl, _, SqL.of B2.l⟩, q, _, 0, 0, _, rfl, rfl, B2.l, by decide, by decide, sq0, rfl, ?_⟩
      exact fin r _ B3 k3
    · refine ⟨_, rfl, p, _, 0, _, rfl, rfl, SqL.of B2.b, rfl, q, _, 0, _, rfl, rfl, SqL.of B2.l, at0, _, rfl, rfl, _, rfl, ite2 (fun c2 => ?_) (fun c2 => ?_)⟩
      · refine ⟨_, rfl, p, _, 0, _, rfl, rfl, SqL.of B2.b, rfl, .inl ⟨rfl, _, SqL.of B2.l⟩, q, _, 0, 0, _, rfl, rfl, B2.l, by decide, by decide, sq0, rfl, ?_⟩
        exact fin r _ B3 k3
      · exact fin _ _ B2 k2
theorem inV_sign {c : Nat} {l : List Nat} (h : c ∈ l) : inV (.str (tx [c])) (l.map fun c => V.str (tx [c])) = true := by
  unfold inV
  rw [List.any_eq_true]
  refine ⟨.str (tx [c]), List.mem_map.mpr ⟨c, h, rfl⟩, ?_⟩
  show (tx [c] == tx [c]) = true
  simp
theorem flat_signs (l : List Nat) : (l.map fun c => V.str (tx [c])).all flatV = true := by
  rw [List.all_eq_true]
  intro x hx
  obtain ⟨c, _, rfl⟩ := List.mem_map.mp hx
  rfl
theorem ok_is_work_alone (D : Dn K mg "is_work_alone" s_is_work_alone P_is_work_alone) (g : Gx mg) (c_is_number : C8.Cal P w K mg base 1 "is_number" spNum []) : C8.Cal P w K mg base 2 "is_work_alone" spAlone [] := by
  refine D.cal sc_is_work_alone (fun vs H Q E h => ?_) (fun f cdv A outer s H vs Q E hr h => ?_)
  · obtain ⟨wk, v, D0, many, rfl, hw, hD, can, q⟩ := h
    rfl
  obtain ⟨wk, v, D0, many, rfl, hw, hD, can, q⟩ := h
  have nd := sc_is_work_alone.nd
  refine ⟨_, (pss_cons (ps_if (PW.pt (pw_or (pt_not (pt_val (pe_callB call_isi rfl g.isi b_isi (pa_cons (pv 0) (pa_cons (pe_bltn (v := .ty "tuple") rfl g.tuple b_tuple rfl) pa_nil))))) (pw_or1 (pt_cmpR op_eq (pe_callB call_len_seq rfl g.len PySem.boot_len (pa_cons (pv 0) pa_nil)) pe_int (nomark _))))) (pss_one (ps_ret pe_bl)) pss_nil)
    (pss_cons (ps_if (pt_cmpR op_eq (pe_ix ix_tup (pv 0) pe_int (fun _ _ => rfl)) pe_str (nomark _)) (pss_one (ps_ret (pe_and (pe_cmpR op_eq (pe_callB call_len_seq rfl g.len PySem.boot_len (pa_cons (pv 0) pa_nil)) pe_int (nomark _)) (pe_one (pe_cmpR op_in_seq (pe_ix ix_tup (pv 0) pe_int (fun _ _ => rfl)) (pv 1) rfl))))) pss_nil)
    (pss_cons (ps_if (pt_cmpR op_eq (pe_ix ix_tup (pv 0) pe_int (fun _ _ => rfl)) pe_str (nomark _)) (pss_one (ps_ret (pe_cmpR op_eq (pe_callB call_len_seq rfl g.len PySem.boot_len (pa_cons (pv 0) pa_nil)) pe_int (nomark _)))) pss_nil)
    (pss_cons (ps_if (pt_cmpR op_eq (pe_ix ix_tup (pv 0) pe_int (fun _ _ => rfl)) pe_str (nomark _)) (pss_one (ps_ret (pe_and (pe_cmpR op_eq (pe_callB call_len_seq rfl g.len PySem.boot_len (pa_cons (pv 0) pa_nil)) pe_int (nomark _)) (pe_one (pe_callB call_isi rfl g.isi b_isi (pa_cons (pe_ix ix_tup (pv 0) pe_int (fun _ _ => rfl)) (pa_cons (pe_bltn (v := .ty "tuple") rfl g.tuple b_tuple rfl) pa_nil))))))) pss_nil)
    (pss_cons (ps_if (pt_cmpR op_eq (pe_ix ix_tup (pv 0) pe_int (fun _ _ => rfl)) pe_str (nomark _)) (pss_one (ps_ret (pe_and (pe_cmpR op_eq (pe_callB call_len_seq rfl g.len PySem.boot_len (pa_cons (pv 0) pa_nil)) pe_int (nomark _)) (pe_one (C8.pe_c c_is_number hr (by decide) rfl (pa_cons (pe_ix ix_tup (pv 0) pe_int (fun _ _ => rfl)) (pa_cons pe_int (pa_cons (C8.pe_gc rfl g.MOST_TIMES) pa_nil)))))))) pss_nil)
    (pss_one (ps_ret pe_bl))))))), ?_⟩
  cases wk with
  | push c =>
    obtain ⟨a, rfl, ha⟩ := hw
    refine ⟨_, rfl, _, _, _, _, _, rfl, .ty "tuple", ty_tup ha, kit_ty k_tup_tup, _, rfl, iteF ?_⟩
    refine ⟨_, rfl, a, _, rfl, .inr (SqT.of ha), rfl, _, rfl, iteDF (by intro z; cases z) ?_⟩
    refine ⟨_, rfl, a, _, 0, _, rfl, rfl, SqT.of ha, rfl, rfl, _, rfl, iteD rfl ?_⟩
    refine ⟨_, rfl, a, _, rfl, .inr (SqT.of ha), rfl, _, rfl, iteD rfl ?_⟩
    refine ⟨_, rfl, a, _, 1, _, rfl, rfl, SqT.of ha, rfl, _, rfl, D0, _, rfl, .inl (SqL.of hD), rfl, flat_signs _, ?_⟩
    rw [inV_sign can]
    exact q H (Same.refl H)
  | pop =>
    obtain ⟨a, rfl, ha⟩ := hw
    refine ⟨_, rfl, _, _, _, _, _, rfl, .ty "tuple", ty_tup ha, kit_ty k_tup_tup, _, rfl, iteF ?_⟩
    refine ⟨_, rfl, a, _, rfl, .inr (SqT.of ha), rfl, _, rfl, iteDF (by intro z; cases z) ?_⟩
    refine ⟨_, rfl, a, _, 0, _, rfl, rfl, SqT.of ha, rfl, rfl, _, rfl, iteDF (vne s_po_pu) ?_⟩
    refine ⟨_, rfl, a, _, 0, _, rfl, rfl, SqT.of ha, rfl, rfl, _, rfl, iteD rfl ?_⟩
    refine ⟨_, rfl, a, _, rfl, .inr (SqT.of ha), rfl, ?_⟩
    exact givD q
  | row ws =>
    obtain ⟨a, b, xs, rfl, ha, hb, hs⟩ := hw
    refine ⟨_, rfl, _, _, _, _, _, rfl, .ty "tuple", ty_tup ha, kit_ty k_tup_tup, _, rfl, iteF ?_⟩
    refine ⟨_, rfl, a, _, rfl, .inr (SqT.of ha), rfl, _, rfl, iteDF (by intro z; cases z) ?_⟩
    refine ⟨_, rfl, a, _, 0, _, rfl, rfl, SqT.of ha, rfl, rfl, _, rfl, iteDF (vne s_ro_pu) ?_⟩
    refine ⟨_, rfl, a, _, 0, _, rfl, rfl, SqT.of ha, rfl, rfl, _, rfl, iteDF (vne s_ro_po) ?_⟩
    refine ⟨_, rfl, a, _, 0, _, rfl, rfl, SqT.of ha, rfl, rfl, _, rfl, iteD rfl ?_⟩
    refine ⟨_, rfl, a, _, rfl, .inr (SqT.of ha), rfl, _, rfl, iteD rfl ?_⟩
    refine ⟨_, rfl, a, _, 1, _, rfl, rfl, SqT.of ha, rfl, _, _, _, _, _, rfl, .ty "tuple", ty_tup hb, kit_ty k_tup_tup, ?_⟩
    exact q H (Same.refl H)
  | times n w' =>
    obtain ⟨a, u, rfl, ha, hu⟩ := hw
    obtain ⟨hn, _⟩ := can
    refine ⟨_, rfl, _, _, _, _, _, rfl, .ty "tuple", ty_tup ha, kit_ty k_tup_tup, _, rfl, iteF ?_⟩
    refine ⟨_, rfl, a, _, rfl, .inr (SqT.of ha), rfl, _, rfl, iteDF (by intro z; cases z) ?_⟩
    refine ⟨_, rfl, a, _, 0, _, rfl, rfl, SqT.of ha, rfl, rfl, _, rfl, iteDF (vne s_ti_pu) ?_⟩
    refine ⟨_, rfl, a, _, 0, _, rfl, rfl, SqT.of ha, rfl, rfl, _, rfl, iteDF (vne s_ti_po) ?_⟩
    refine ⟨_, rfl, a, _, 0, _, rfl, rfl, SqT.of ha, rfl, rfl, _, rfl, iteDF (vne s_ti_ro) ?_⟩
    refine ⟨_, rfl, a, _, 0, _, rfl, rfl, SqT.of ha, rfl, rfl, _, rfl, iteD rfl ?_⟩
    refine ⟨_, rfl, a, _, rfl, .inr (SqT.of ha), rfl, _, rfl, iteD rfl ?_⟩
    refine ⟨_, rfl, a, _, 1, _, rfl, rfl, SqT.of ha, rfl, (n : Int), 0, 1000000000000000000, rfl, fun H1 s1 => ?_⟩
    rw [decide_eq_true (by omega)]
    exact q H1 s1
theorem ok_works_within (D : Dn K mg "works_within" s_works_within P_works_within) (g : Gx mg) : C8.Cal P w K mg base 1 "works_within" spWithin [] := by
  refine D.cal sc_works_within (fun vs H Q E h => ?_) (fun f cdv A outer s H vs Q E hr h => ?_)
  · obtain ⟨wk, v, rfl, hw, q⟩ := h
    rfl
  obtain ⟨wk, v, rfl, hw, q⟩ := h
  have nd := sc_works_within.nd
  refine ⟨_, (pss_cons (ps_if (pt_cmpR op_eq (pe_ix ix_tup (pv 0) pe_int (fun _ _ => rfl)) pe_str (nomark _)) (pss_one (ps_ret (pe_ix ix_tup (pv 0) pe_int (fun _ _ => rfl)))) pss_nil)
    (pss_cons (ps_if (pt_cmpR op_eq (pe_ix ix_tup (pv 0) pe_int (fun _ _ => rfl)) pe_str (nomark _)) (pss_one (ps_ret (pe_tup (pa_cons (pe_ix ix_tup (pv 0) pe_int (fun _ _ => rfl)) pa_nil)))) pss_nil)
    (pss_one (ps_ret (pe_tup pa_nil))))), ?_⟩
  cases wk with
  | push c =>
    obtain ⟨a, rfl, ha⟩ := hw
    refine ⟨_, rfl, a, _, 0, _, rfl, rfl, SqT.of ha, rfl, rfl, _, rfl, iteDF (vne s_pu_ro) ?_⟩
    refine ⟨_, rfl, a, _, 0, _, rfl, rfl, SqT.of ha, rfl, rfl, _, rfl, iteDF (vne s_pu_ti) ?_⟩
    exact ⟨by show 0 ≤ sizeLine; decide, fun u hu => q _ u [] (Same.new hu _) upd_same rfl⟩
  | pop =>
    obtain ⟨a, rfl, ha⟩ := hw
    refine ⟨_, rfl, a, _, 0, _, rfl, rfl, SqT.of ha, rfl, rfl, _, rfl, iteDF (vne s_po_ro) ?_⟩
    refine ⟨_, rfl, a, _, 0, _, rfl, rfl, SqT.of ha, rfl, rfl, _, rfl, iteDF (vne s_po_ti) ?_⟩
    exact ⟨by show 0 ≤ sizeLine; decide, fun u hu => q _ u [] (Same.new hu _) upd_same rfl⟩
  | row ws =>
    obtain ⟨a, b, xs, rfl, ha, hb, hs⟩ := hw
    refine ⟨_, rfl, a, _, 0, _, rfl, rfl, SqT.of ha, rfl, rfl, _, rfl, iteD rfl ?_⟩
    exact ⟨_, rfl, a, _, 1, _, rfl, rfl, SqT.of ha, rfl, q H b xs (Same.refl H) hb hs⟩
  | times n w' =>
    obtain ⟨a, u, rfl, ha, hu⟩ := hw
    refine ⟨_, rfl, a, _, 0, _, rfl, rfl, SqT.of ha, rfl, rfl, _, rfl, iteDF (vne s_ti_ro) ?_⟩
    refine ⟨_, rfl, a, _, 0, _, rfl, rfl, SqT.of ha, rfl, rfl, _, rfl, iteD rfl ?_⟩
    refine ⟨_, rfl, a, _, 2, _, rfl, rfl, SqT.of ha, rfl, by show 1 ≤ sizeLine; decide, fun p hp => ?_⟩
    exact q _ p _ (Same.new hp _) upd_same ⟨u, [], rfl, hu.tups (Tups.of (Same.new hp _)), rfl⟩
theorem ok_power_triple (D : Dn K mg "power_triple" s_power_triple P_power_triple) (g : Gx mg) (c_untouched : C8.Cal P w K mg base 1 "untouched" spUnt []) (c_join_triples : C8.Cal P w K mg base 2 "join_triples" spJoin []) : C8.Cal P w K mg base 3 "power_triple" spPower [] := by
  refine D.cal sc_power_triple (fun vs H Q E h => ?_) (fun f cdv A outer s H vs Q E hr h => ?_)
  · obtain ⟨v, p, u, t, n, rfl, hp, ok, ht, tok, hn, q⟩ := h
    rfl
  obtain ⟨v, p, u, t, n, rfl, hp, ok, ht, tok, hn, q⟩ := h
  have nd := sc_power_triple.nd
  refine ⟨_, (pss_cons (ps_set (i := 3) nd rfl (.inl rfl) (C8.pe_c c_untouched hr (by decide) rfl (pa_cons (pv 0) pa_nil)))
    (pss_cons (ps_set (i := 4) nd rfl (.inl rfl) (pv 1))
    (pss_cons (ps_set (i := 5) nd rfl (.inl rfl) (pv 2))
    (pss_cons (ps_while PassesOwn.never (pt_cmpR op_gt (pv 5) pe_int (nomark _)) (pss_cons (ps_if (pt_cmpR op_eq (pe_op op_modN (pv 5) pe_int) pe_int (nomark _)) (pss_one (ps_set (i := 3) nd rfl (.inl rfl) (C8.pe_c c_join_triples hr (by decide) rfl (pa_cons (pv 3) (pa_cons (pv 4) pa_nil))))) pss_nil)
    (pss_cons (ps_set (i := 4) nd rfl (.inl rfl) (C8.pe_c c_join_triples hr (by decide) rfl (pa_cons (pv 4) (pa_cons (pv 4) pa_nil))))
    (pss_one (ps_set (i := 5) nd rfl (.inl rfl) (pe_op op_fdivN (pv 5) pe_int))))))
    (pss_one (ps_ret (pv 3))))))), ?_⟩
  have h9 := ok.r9
  refine ⟨_, rfl, v, p, rfl, hp, fun H1 u1 s1 hu1 => ?_⟩
  refine ⟨_, rfl, _, rfl, ?_⟩
  refine while_by (fun σ H2 => ∃ (wv dv : V) (m : Nat) (a b : Tr), σ = [some v, some u, some (.int n), some wv, some dv, some (.int m)] ∧ Same H H2 ∧ TripAt H2 wv a ∧ TripAt H2 dv b ∧ TrOk p.room p.many a ∧ TrOk p.room p.many b ∧ m ≤ 1000000000000000000 ∧ tjoin a (tpw p.room b m) = tpw p.room t n)
    (fun σ _ => match σ with | [_, _, _, _, _, some (.int m)] => m.toNat | _ => 0)
    ⟨u1, u, n, tunt p.room, t, rfl, s1, hu1, ht.mono s1, tunt_ok, tok, hn, tunt_left (tpw_ok tok n)⟩ ?_ ?_
  · rintro σ H2 ⟨wv, dv, m, a, b, rfl, s2, hwv, hdv, aok, bok, hm, e⟩
    have ka := aok.kl
    have kb := bok.kl
    refine ⟨_, rfl, _, _, rfl, rfl, _, rfl, ite2 (fun c => ?_) (fun c => ?_)⟩
    · have m0 : 0 < m := by
        have := of_decide_eq_true c
        omega
      have em : (m : Int).fmod 2 = ((m % 2 : Nat) : Int) := by
        rw [Int.fmod_eq_emod_of_nonneg _ (by decide)]
        omega
      have ed : (m : Int).fdiv 2 = ((m / 2 : Nat) : Int) := by
        rw [Int.fdiv_eq_ediv_of_nonneg _ (by decide)]
        omega
      refine ⟨_, rfl, _, _, rfl, rfl, by show ((2 : Int) ≠ 0); decide, rfl, _, rfl, ?_⟩
      have step : ∀ (H3 : Hp) (wv3 : V) (a3 : Tr), Same H H3 → TripAt H3 wv3 a3 → TripAt H3 dv b → TrOk p.room p.many a3 → tjoin a3 (tpw p.room (tjoin b b) (m / 2)) = tpw p.room t n → ∀ H4 v4, Same H3 H4 → TripAt H4 v4 (tjoin b b) →
          ∃ (wv dv : V) (m' : Nat) (a b : Tr), [some v, some u, some (.int n), some wv3, some v4, some (.int ((m : Int).fdiv 2))] = [some v, some u, some (.int n), some wv, some dv, some (.int m')] ∧ Same H H4 ∧ TripAt H4 wv a ∧ TripAt H4 dv b ∧ TrOk p.room p.many a ∧ TrOk p.room p.many b ∧ m' ≤ 1000000000000000000 ∧ tjoin a (tpw p.room b m') = tpw p.room t n :=
        fun H3 wv3 a3 s3 h3 hd3 ok3 e3 H4 v4 s4 h4 => ⟨wv3, v4, m / 2, a3, tjoin b b, by rw [ed], s3.trans s4, h3.mono s4, h4, ok3, tjoin_ok bok bok, by omega, e3⟩
      have less : ((m : Int).fdiv 2).toNat < (m : Int).toNat := by
        rw [ed]
        omega
      refine ite2 (fun c2 => ?_) (fun c2 => ?_)
      · have m1 : m % 2 = 1 := by
          have c3 := of_decide_eq_true c2
          injection c3 with c4
          have c5 : (m : Int).fmod 2 = 1 := c4
          omega
        refine ⟨_, rfl, _, rfl, _, _, a, b, rfl, hwv, hdv, by omega, by omega, fun H3 v3 s3 h3 => ?_⟩
        refine ⟨_, rfl, _, rfl, _, _, b, b, rfl, hdv.mono s3, hdv.mono s3, by omega, by omega, fun H4 v4 s4 h4 => ?_⟩
        refine ⟨_, rfl, _, _, rfl, rfl, ⟨by decide, by decide⟩, ?_⟩
        refine ⟨step H3 v3 (tjoin a b) (s2.trans s3) h3 (hdv.mono s3) (tjoin_ok aok bok) ?_ H4 v4 s4 h4, less⟩
        rw [← e, ← tpw_odd bok aok m1]
      · have m1 : m % 2 = 0 := by
          by_cases h : m % 2 = 1
          · exact absurd (decide_eq_true (congrArg V.int (show (m : Int).fmod 2 = 1 by omega))) c2
          · omega
        refine ⟨_, rfl, _, rfl, _, _, b, b, rfl, hdv, hdv, by omega, by omega, fun H4 v4 s4 h4 => ?_⟩
        refine ⟨_, rfl, _, _, rfl, rfl, ⟨by decide, by decide⟩, ?_⟩
        refine ⟨step H2 wv a s2 hwv hdv aok ?_ H4 v4 s4 h4, less⟩
        rw [← e, ← tpw_even bok m1]
    · have m0 : m = 0 := by
        by_cases h : m = 0
        · exact h
        · exact absurd (decide_eq_true (show (0 : Int) < (m : Int) by omega)) c
      subst m0
      rw [show tpw p.room b 0 = tunt p.room from rfl, tunt_right aok] at e
      rw [e] at hwv
      exact ⟨_, rfl, q H2 wv s2 hwv⟩
  · rintro σ H2 Q1 Q2 hq ⟨x, e1, i, j, e2, e3, k, e4, h⟩
    exact ⟨x, e1, i, j, e2, e3, k, e4, hq _ _ h⟩
theorem ok_price_of_step (D : Dn K mg "price_of_step" s_price_of_step P_price_of_step) (g : Gx mg) : C8.Cal P w K mg base 1 "price_of_step" spPStep [] := by
  refine D.cal sc_price_of_step (fun vs H Q E h => ?_) (fun f cdv A outer s H vs Q E hr h => ?_)
  · obtain ⟨v, p, c, rfl, ⟨a, b, rfl, ha, hb⟩, ok, hc, q⟩ := h
    rfl
  obtain ⟨v, p, c, rfl, ⟨a, b, rfl, ha, hb⟩, ok, hc, q⟩ := h
  have nd := sc_price_of_step.nd
  refine ⟨_, (pss_cons (ps_if (pt_cmpR op_eq (pv 1) (C8.pe_gc rfl g.POP_STEP) (nomark _)) (pss_one (ps_ret (pe_ix ix_tup (pv 0) pe_int (fun _ _ => rfl)))) pss_nil)
    (pss_one (ps_ret (pe_ix ix_tup (pe_ix ix_tup (pv 0) pe_int (fun _ _ => rfl)) (pe_bm PySem.F.plainAttrs_str PySem.F.slot_str_index PySem.F.type_str_index mt_sindex (C8.pe_gc rfl g.SIGNS) (pa_cons (pv 1) pa_nil)) (fun _ _ => rfl))))), ?_⟩
  refine ⟨_, rfl, rfl, _, rfl, ite2 (fun z => ?_) (fun z => ?_)⟩
  · have z' : c = 45 := by
      have z1 := of_decide_eq_true z
      injection z1 with z2
      exact List.head_eq_of_cons_eq (str_inj.mp z2)
    refine ⟨_, rfl, a, _, 3, _, rfl, rfl, SqT.of ha, rfl, ?_⟩
    have e : cst p c = p.pop := by
      unfold cst
      rw [if_pos z']
    rw [← e]
    exact q H (Same.refl H)
  · have z' : ¬ c = 45 := fun y => by
      subst y
      exact z (decide_eq_true rfl)
    have hs := hc.resolve_left z'
    have hin : ∀ M, c ∈ signs M → c - 97 < M ∧ ∃ r, Builtin.Str.occurrences (tx [97, 98, 99, 100]) (tx [c]) 0 (tx [97, 98, 99, 100]).length 1 = (c - 97) :: r := fun M hM => by
      have h4 : c = 97 ∨ c = 98 ∨ c = 99 ∨ c = 100 := by
        have := List.mem_of_mem_take (show c ∈ List.take M [97, 98, 99, 100] from hM)
        simpa using this
      have hj : c - 97 < M := by
        match M, hM with
        | 0, hM => simp [signs] at hM
        | 1, hM => simp [signs] at hM; omega
        | 2, hM => simp [signs] at hM; omega
        | 3, hM => simp [signs] at hM; omega
        | M + 4, _ => omega
      refine ⟨hj, ?_⟩
      rcases h4 with rfl | rfl | rfl | rfl
      · exact ⟨[], by decide +kernel⟩
      · exact ⟨[], by decide +kernel⟩
      · exact ⟨[], by decide +kernel⟩
      · exact ⟨[], by decide +kernel⟩
    obtain ⟨hj, r, hocc⟩ := hin p.many hs
    have hl : c - 97 < p.pr.length := by
      rw [ok.pl]
      exact hj
    refine ⟨_, rfl, a, _, 2, _, rfl, rfl, SqT.of ha, rfl, rfl, _, rfl, _, _, _, r, rfl, rfl, hocc, ?_⟩
    refine ⟨b, _, ((c - 97 : Nat) : Int), .int p.pr[c - 97], rfl, rfl, TupF.sq hb, atI_nat (by rw [List.getElem?_map, List.getElem?_eq_getElem hl]; rfl), ?_⟩
    have e : cst p c = p.pr[c - 97] := by
      unfold cst
      rw [if_neg z', List.getD_eq_getElem?_getD, List.getElem?_eq_getElem hl]
      rfl
    rw [← e]
    exact q H (Same.refl H)
theorem walk_rt {K : PySem.W.Frag} {a : Addr} {xs : List V} : Walk (RT.ItvT K a xs.length) xs.length (fun H => SqT K H a xs) (fun i H x H' => H' = H ∧ xs[xs.length - 1 - i]? = some x) :=
  ⟨fun i _ hi q => ⟨hi, xs, xs[xs.length - 1 - i]'(by omega), q, by simp [show xs.length - 1 - i < xs.length by omega]⟩, fun _ _ => Nat.le_refl _, fun _ _ _ _ _ q y => ⟨y.1, y.2 xs q⟩⟩
theorem no_spTri : ∀ vs H Q E, ¬ spTri 0 vs H Q E := fun vs H Q E h => by
  obtain ⟨v, p, u, w, _, _, _, _, _, h, _⟩ := h
  have := W.dep_pos w
  omega
theorem no_spPWork : ∀ vs H Q E, ¬ spPWork 0 vs H Q E := fun vs H Q E h => by
  obtain ⟨v, p, u, w, _, _, _, _, _, h, _⟩ := h
  have := W.dep_pos w
  omega
theorem foldW_ok {room many : Nat} (hr : 1 ≤ room) : ∀ (l : List W) (t : Tr), (∀ w ∈ l, w.Can many) → TrOk room many t → TrOk room many (l.foldl (fun t w => tjoin t (w.tri room)) t)
  | [], _, _, a => a
  | w :: r, t, h, a => foldW_ok hr r _ (fun x hx => h x (List.mem_cons_of_mem _ hx)) (tjoin_ok a (W.tri_ok hr w (h w (List.mem_cons_self ..))))
theorem ok_triple_of_work (D : Dn K mg "triple_of_work" s_triple_of_work P_triple_of_work) (g : Gx mg) (c_triple_of_step : C8.Cal P w K mg base 2 "triple_of_step" spTStep []) (c_power_triple : C8.Cal P w K mg base 3 "power_triple" spPower []) (c_untouched : C8.Cal P w K mg base 1 "untouched" spUnt []) (c_join_triples : C8.Cal P w K mg base 2 "join_triples" spJoin []) : ∀ n, C8.Cal P w K mg base (n + 3) "triple_of_work" (spTri n) []
  | 0 => by
    obtain ⟨f, fd, F, hm, b⟩ := D.ex
    exact ⟨f, fd, _, [], (⟨fun vs H Q E h => absurd h (no_spTri vs H Q E), fun A outer s H args us vs Q E _ _ _ _ h => absurd h (no_spTri vs H Q E)⟩ : FnOk _ _ _ _ _ _ _ _ _ _ _), hm, F.kp, b, .nil⟩
  | n + 1 => by
    have c_triple_of_work := ok_triple_of_work D g c_triple_of_step c_power_triple c_untouched c_join_triples n
    refine D.cal sc_triple_of_work (fun vs H Q E h => ?_) (fun f cdv A outer s H vs Q E hr h => ?_)
    · obtain ⟨v, p, u, wk, rfl, hp, ok, hw, can, hd, q⟩ := h
      rfl
    obtain ⟨v, p, u, wk, rfl, hp, ok, hw, can, hd, q⟩ := h
    have nd := sc_triple_of_work.nd
    refine ⟨_, (pss_cons (ps_if (pt_cmpR op_eq (pe_ix ix_tup (pv 1) pe_int (fun _ _ => rfl)) pe_str (nomark _)) (pss_one (ps_ret (C8.pe_c c_triple_of_step hr (by omega) rfl (pa_cons (pv 0) (pa_cons (pe_ix ix_tup (pv 1) pe_int (fun _ _ => rfl)) pa_nil))))) pss_nil)
      (pss_cons (ps_if (pt_cmpR op_eq (pe_ix ix_tup (pv 1) pe_int (fun _ _ => rfl)) pe_str (nomark _)) (pss_one (ps_ret (C8.pe_c c_triple_of_step hr (by omega) rfl (pa_cons (pv 0) (pa_cons (C8.pe_gc rfl g.POP_STEP) pa_nil))))) pss_nil)
      (pss_cons (ps_if (pt_cmpR op_eq (pe_ix ix_tup (pv 1) pe_int (fun _ _ => rfl)) pe_str (nomark _)) (pss_one (ps_ret (C8.pe_c c_power_triple hr (by omega) rfl (pa_cons (pv 0) (pa_cons (C8.pe_c c_triple_of_work hr (by omega) rfl (pa_cons (pv 0) (pa_cons (pe_ix ix_tup (pv 1) pe_int (fun _ _ => rfl)) pa_nil))) (pa_cons (pe_ix ix_tup (pv 1) pe_int (fun _ _ => rfl)) pa_nil)))))) pss_nil)
      (pss_cons (ps_set (i := 2) nd rfl (.inl rfl) (C8.pe_c c_untouched hr (by omega) rfl (pa_cons (pv 0) pa_nil)))
      (pss_cons (ps_for PassesOwn.never rfl (pi_tup (pe_ix ix_tup (pv 1) pe_int (fun _ _ => rfl))) (pg_name (i := 3) nd rfl (.inl rfl)) (pss_one (ps_set (i := 2) nd rfl (.inl rfl) (C8.pe_c c_join_triples hr (by omega) rfl (pa_cons (pv 2) (pa_cons (C8.pe_c c_triple_of_work hr (by omega) rfl (pa_cons (pv 0) (pa_cons (pv 3) pa_nil))) pa_nil))))))
      (pss_one (ps_ret (pv 2)))))))), ?_⟩
    have h9 := ok.r9
    cases wk with
    | push c =>
      obtain ⟨a, rfl, ha⟩ := hw
      refine ⟨_, rfl, a, _, 0, _, rfl, rfl, SqT.of ha, rfl, rfl, _, rfl, iteD rfl ?_⟩
      exact ⟨_, rfl, _, rfl, a, _, 1, _, rfl, rfl, SqT.of ha, rfl, v, p, c, rfl, hp, ok, q⟩
    | pop =>
      obtain ⟨a, rfl, ha⟩ := hw
      refine ⟨_, rfl, a, _, 0, _, rfl, rfl, SqT.of ha, rfl, rfl, _, rfl, iteDF (vne s_po_pu) ?_⟩
      refine ⟨_, rfl, a, _, 0, _, rfl, rfl, SqT.of ha, rfl, rfl, _, rfl, iteD rfl ?_⟩
      exact ⟨_, rfl, v, p, 45, rfl, hp, ok, q⟩
    | times m wk =>
      obtain ⟨a, u, rfl, ha, hu⟩ := hw
      obtain ⟨hm, can⟩ := can
      have hd' : wk.dep ≤ n := by
        have : 1 + wk.dep ≤ n + 1 := hd
        omega
      refine ⟨_, rfl, a, _, 0, _, rfl, rfl, SqT.of ha, rfl, rfl, _, rfl, iteDF (vne s_ti_pu) ?_⟩
      refine ⟨_, rfl, a, _, 0, _, rfl, rfl, SqT.of ha, rfl, rfl, _, rfl, iteDF (vne s_ti_po) ?_⟩
      refine ⟨_, rfl, a, _, 0, _, rfl, rfl, SqT.of ha, rfl, rfl, _, rfl, iteD rfl ?_⟩
      refine ⟨_, rfl, _, rfl, _, rfl, a, _, 2, _, rfl, rfl, SqT.of ha, rfl, v, p, u, wk, rfl, hp, ok, hu, can, hd', fun H1 u1 s1 h1 => ?_⟩
      exact ⟨_, rfl, a, _, 1, _, rfl, rfl, SqT.of (s1 _ _ ha), rfl, v, p, u1, wk.tri p.room, m, rfl, hp.mono s1, ok, h1, W.tri_ok ok.r1 wk can, hm, fun H2 u2 s2 h2 => q H2 u2 (s1.trans s2) h2⟩
    | row ws =>
      obtain ⟨a, b, xs, rfl, ha, hb, hs⟩ := hw
      obtain ⟨hlen, can⟩ := can
      have hd' : ws.dep ≤ n := by
        have : 1 + ws.dep ≤ n + 1 := hd
        omega
      have hl := hs.len
      refine ⟨_, rfl, a, _, 0, _, rfl, rfl, SqT.of ha, rfl, rfl, _, rfl, iteDF (vne s_ro_pu) ?_⟩
      refine ⟨_, rfl, a, _, 0, _, rfl, rfl, SqT.of ha, rfl, rfl, _, rfl, iteDF (vne s_ro_po) ?_⟩
      refine ⟨_, rfl, a, _, 0, _, rfl, rfl, SqT.of ha, rfl, rfl, _, rfl, iteDF (vne s_ro_ti) ?_⟩
      refine ⟨_, rfl, v, p, rfl, hp, fun H1 u1 s1 h1 => ?_⟩
      refine ⟨_, rfl, a, _, 1, _, rfl, rfl, SqT.of (s1 _ _ ha), rfl, b, rfl, ⟨_, SqT.of (s1 _ _ hb)⟩, ?_⟩
      refine for_it (walk_tup (K := K) (a := b) (xs := xs)) (fun i σ H2 => ∃ (wv : V) (o : Option V), σ = [some v, some (.ref a), some wv, o] ∧ Same H H2 ∧ TripAt H2 wv ((ws.list.take i).foldl (fun t w => tjoin t (w.tri p.room)) (tunt p.room)))
        ⟨u1, none, rfl, s1, h1⟩ (fun i σ H2 _ ⟨_, _, _, s2, _⟩ => SqT.of (s2 _ _ hb)) ?_ ?_
      · rintro i x σ H2 H3 hi ⟨wv, o, rfl, s2, hwv⟩ ⟨rfl, hx⟩
        obtain ⟨wk, hwk, hwa⟩ := hs.get hx
        have hmem := List.mem_of_getElem? hwk
        have cwk := Ws.can_mem can hmem
        have dwk := Ws.dep_mem hmem
        have fok := foldW_ok (many := p.many) ok.r1 (ws.list.take i) (tunt p.room) (fun x hx => Ws.can_mem can (List.mem_of_mem_take hx)) tunt_ok
        have tok := W.tri_ok (room := p.room) ok.r1 wk cwk
        have k1 := fok.kl
        have k2 := tok.kl
        refine ⟨_, rfl, _, rfl, _, rfl, v, p, x, wk, rfl, hp.mono s2, ok, hwa.tups (Tups.of s2), cwk, by omega, fun H4 v4 s4 h4 => ?_⟩
        refine ⟨_, _, _, _, rfl, hwv.mono s4, h4, by omega, by omega, fun H5 v5 s5 h5 => ?_⟩
        refine ⟨v5, some x, rfl, s2.trans (s4.trans s5), ?_⟩
        rw [List.take_add_one, hwk, List.foldl_append]
        exact h5
      · rintro σ H2 ⟨wv, o, rfl, s2, hwv⟩
        rw [hl, List.take_of_length_le (Nat.le_refl _), ← Ws.tri_list] at hwv
        exact ⟨_, rfl, q H2 wv s2 hwv⟩
theorem ok_price_of_work (D : Dn K mg "price_of_work" s_price_of_work P_price_of_work) (g : Gx mg) (c_price_of_step : C8.Cal P w K mg base 1 "price_of_step" spPStep []) : ∀ n, C8.Cal P w K mg base (n + 1) "price_of_work" (spPWork n) []
  | 0 => by
    obtain ⟨f, fd, F, hm, b⟩ := D.ex
    exact ⟨f, fd, _, [], (⟨fun vs H Q E h => absurd h (no_spPWork vs H Q E), fun A outer s H args us vs Q E _ _ _ _ h => absurd h (no_spPWork vs H Q E)⟩ : FnOk _ _ _ _ _ _ _ _ _ _ _), hm, F.kp, b, .nil⟩
  | n + 1 => by
    have c_price_of_work := ok_price_of_work D g c_price_of_step n
    refine D.cal sc_price_of_work (fun vs H Q E h => ?_) (fun f cdv A outer s H vs Q E hr h => ?_)
    · obtain ⟨v, p, u, wk, rfl, hp, ok, hw, can, hd, q⟩ := h
      rfl
    obtain ⟨v, p, u, wk, rfl, hp, ok, hw, can, hd, q⟩ := h
    have nd := sc_price_of_work.nd
    refine ⟨_, (pss_cons (ps_if (pt_cmpR op_eq (pe_ix ix_tup (pv 1) pe_int (fun _ _ => rfl)) pe_str (nomark _)) (pss_one (ps_ret (C8.pe_c c_price_of_step hr (by omega) rfl (pa_cons (pv 0) (pa_cons (pe_ix ix_tup (pv 1) pe_int (fun _ _ => rfl)) pa_nil))))) pss_nil)
      (pss_cons (ps_if (pt_cmpR op_eq (pe_ix ix_tup (pv 1) pe_int (fun _ _ => rfl)) pe_str (nomark _)) (pss_one (ps_ret (C8.pe_c c_price_of_step hr (by omega) rfl (pa_cons (pv 0) (pa_cons (C8.pe_gc rfl g.POP_STEP) pa_nil))))) pss_nil)
      (pss_cons (ps_if (pt_cmpR op_eq (pe_ix ix_tup (pv 1) pe_int (fun _ _ => rfl)) pe_str (nomark _)) (pss_one (ps_ret (pe_op op_mul (pe_ix ix_tup (pv 1) pe_int (fun _ _ => rfl)) (C8.pe_c c_price_of_work hr (by omega) rfl (pa_cons (pv 0) (pa_cons (pe_ix ix_tup (pv 1) pe_int (fun _ _ => rfl)) pa_nil)))))) pss_nil)
      (pss_one (ps_ret (pe_callB (cr_sum rfl) rfl g.sum b_sum (pa_cons (pe_lc (own := [("inner", 2)]) rfl nd (pi_tup (pe_ix ix_tup (pv 1) pe_int (fun _ _ => rfl))) (blkOk_by (own := [("inner", 2)]) (N := N_price_of_work) (sc := defScope s_price_of_work) (by decide +kernel)) (fun _ _ _ _ _ => (pg_name (i := 2) nd rfl (.inl rfl))) (fun _ _ _ _ _ => pts_nil) (fun _ _ _ _ _ => (C8.pe_c c_price_of_work (by exact hr) (by omega) rfl (pa_cons (pv 0) (pa_cons (pv 2) pa_nil))))) pa_nil))))))), ?_⟩
    cases wk with
    | push c =>
      obtain ⟨a, rfl, ha⟩ := hw
      refine ⟨_, rfl, a, _, 0, _, rfl, rfl, SqT.of ha, rfl, rfl, _, rfl, iteD rfl ?_⟩
      exact ⟨_, rfl, _, rfl, a, _, 1, _, rfl, rfl, SqT.of ha, rfl, v, p, c, rfl, hp, ok, .inr can, q⟩
    | pop =>
      obtain ⟨a, rfl, ha⟩ := hw
      refine ⟨_, rfl, a, _, 0, _, rfl, rfl, SqT.of ha, rfl, rfl, _, rfl, iteDF (vne s_po_pu) ?_⟩
      refine ⟨_, rfl, a, _, 0, _, rfl, rfl, SqT.of ha, rfl, rfl, _, rfl, iteD rfl ?_⟩
      exact ⟨_, rfl, v, p, 45, rfl, hp, ok, .inl rfl, q⟩
    | times m wk =>
      obtain ⟨a, u, rfl, ha, hu⟩ := hw
      obtain ⟨hm, can⟩ := can
      have hd' : wk.dep ≤ n := by
        have : 1 + wk.dep ≤ n + 1 := hd
        omega
      refine ⟨_, rfl, a, _, 0, _, rfl, rfl, SqT.of ha, rfl, rfl, _, rfl, iteDF (vne s_ti_pu) ?_⟩
      refine ⟨_, rfl, a, _, 0, _, rfl, rfl, SqT.of ha, rfl, rfl, _, rfl, iteDF (vne s_ti_po) ?_⟩
      refine ⟨_, rfl, a, _, 0, _, rfl, rfl, SqT.of ha, rfl, rfl, _, rfl, iteD rfl ?_⟩
      have hmi : -(2 ^ 64) < (m : Int) ∧ (m : Int) < 2 ^ 64 := by
        have e : (2 : Int) ^ 64 = 18446744073709551616 := by decide
        rw [e]
        omega
      exact ⟨_, rfl, a, _, 1, _, rfl, rfl, SqT.of ha, rfl, _, rfl, _, rfl, a, _, 2, _, rfl, rfl, SqT.of ha, rfl, v, p, u, wk, rfl, hp, ok, hu, can, hd', fun H1 s1 => ⟨_, _, rfl, rfl, .inl hmi, q H1 s1⟩⟩
    | row ws =>
      obtain ⟨a, b, xs, rfl, ha, hb, hs⟩ := hw
      obtain ⟨hlen, can⟩ := can
      have hd' : ws.dep ≤ n := by
        have : 1 + ws.dep ≤ n + 1 := hd
        omega
      have hl := hs.len
      refine ⟨_, rfl, a, _, 0, _, rfl, rfl, SqT.of ha, rfl, rfl, _, rfl, iteDF (vne s_ro_pu) ?_⟩
      refine ⟨_, rfl, a, _, 0, _, rfl, rfl, SqT.of ha, rfl, rfl, _, rfl, iteDF (vne s_ro_po) ?_⟩
      refine ⟨_, rfl, a, _, 0, _, rfl, rfl, SqT.of ha, rfl, rfl, _, rfl, iteDF (vne s_ro_ti) ?_⟩
      refine ⟨_, rfl, a, _, 1, _, rfl, rfl, SqT.of ha, rfl, b, rfl, ⟨_, SqT.of hb⟩, fun D hD => ?_⟩
      refine lc_it (walk_tup (K := K) (a := b) (xs := xs)) (fun i H2 => Same H H2 ∧ H2 D = some (.lst (((ws.list.take i).map (W.prc (cst p))).map V.int))) ⟨Same.new hD _, upd_same⟩ (fun i H2 _ h2 => SqT.of (h2.1 _ _ hb)) ?_ ?_
      · rintro i x H2 H3 hi ⟨s2, h2⟩ ⟨rfl, hx⟩
        obtain ⟨wk, hwk, hwa⟩ := hs.get hx
        have hmem := List.mem_of_getElem? hwk
        have hsz : i < sizeLine := szl (by rw [hl, Ws.len_list] at hi; omega)
        refine ⟨rfl, ?_⟩
        refine ⟨_, rfl, _, rfl, v, p, x, wk, rfl, hp.mono s2, ok, hwa.tups (Tups.of s2), Ws.can_mem can hmem, Nat.le_trans (Ws.dep_mem hmem) hd', fun H4 s4 => ⟨_, s4 _ _ h2, ?_, fun b o e => ?_, ?_⟩⟩
        · rw [List.length_map, List.length_map, List.length_take]
          exact Nat.lt_of_le_of_lt (Nat.min_le_left ..) hsz
        · rw [upd_ne (ne_of_none e hD)]
          exact s4 _ _ (s2 b o e)
        · rw [upd_same, List.take_add_one, hwk, List.map_append, List.map_append]
          rfl
      · rintro H2 ⟨s2, h2⟩
        rw [hl, List.take_of_length_le (Nat.le_refl _)] at h2
        refine ⟨D, _, rfl, SqL.of h2, ?_⟩
        rw [← Ws.prc_list]
        exact q H2 s2
/-- what waits, the next one first -/
def PAt (H : Hp) : List (W × Nat) → List V → Prop
  | [], xs => xs = []
  | p :: r, xs => ∃ T u s, xs = .ref T :: s ∧ H T = some (.tup [u, .int (p.2 : Int)]) ∧ WAt H p.1 u ∧ PAt H r s
theorem PAt.tups {H H' : Hp} (e : Tups H H') : ∀ {ps : List (W × Nat)} {xs : List V}, PAt H ps xs → PAt H' ps xs
  | [], _, h => h
  | p :: r, xs, h => by
    obtain ⟨T, u, s, h1, h2, h3, h4⟩ := h
    exact ⟨T, u, s, h1, e _ _ h2, h3.tups e, PAt.tups e h4⟩
theorem PAt.len {H : Hp} : ∀ {ps : List (W × Nat)} {xs : List V}, PAt H ps xs → xs.length = ps.length
  | [], _, h => by
    cases h
    rfl
  | p :: r, xs, h => by
    obtain ⟨T, u, s, rfl, h2, h3, h4⟩ := h
    show s.length + 1 = r.length + 1
    rw [h4.len]
def psz (ps : List (W × Nat)) : Nat := (ps.map fun p => p.1.siz).sum
theorem psz_cons (p : W × Nat) (r : List (W × Nat)) : psz (p :: r) = p.1.siz + psz r := by
  unfold psz
  rw [List.map_cons, List.sum_cons]
theorem psz_len : ∀ ps : List (W × Nat), ps.length ≤ psz ps
  | [] => Nat.zero_le _
  | p :: r => by
    have := psz_len r
    have := W.siz_pos p.1
    rw [psz_cons, List.length_cons]
    omega
theorem within_siz : ∀ w : W, w.siz = 1 + w.within.siz
  | .push _ => rfl
  | .pop => rfl
  | .row _ => rfl
  | .times _ w => by
    show 1 + w.siz = 1 + (w.siz + 0)
    omega
theorem within_dep : ∀ w : W, w.dep = 1 + w.within.dep
  | .push _ => rfl
  | .pop => rfl
  | .row _ => rfl
  | .times _ w => by
    show 1 + w.dep = 1 + max w.dep 0
    omega
theorem within_can {many : Nat} : ∀ {w : W}, w.Can many → w.within.Can many
  | .push _, _ => trivial
  | .pop, _ => trivial
  | .row _, h => h.2
  | .times _ _, h => ⟨h.2, trivial⟩
theorem gn {i : Nat} {x : V} {σ : L2.St} {H : Hp} {Q : L2.St → Hp → Prop} (h : Q (σ.set i (some x)) H) : gName i x σ H Q := h
theorem asg_c {v : V} {i : Nat} {u : TS} {D : Ends} {σ : L2.St} {H : Hp} (h : u D (σ.set i (some v)) H) : tSeq (tAsg (tC v) (gName i)) u D σ H := h
theorem ok_check_work (D : Dn K mg "check_work" s_check_work P_check_work) (g : Gx mg) (c_signs_of : C8.Cal P w K mg base 1 "signs_of" spSigns []) (c_is_work_alone : C8.Cal P w K mg base 2 "is_work_alone" spAlone []) (c_works_within : C8.Cal P w K mg base 1 "works_within" spWithin []) : C8.Cal P w K mg base 3 "check_work" spChWork [] := by
  refine D.cal sc_check_work (fun vs H Q E h => ?_) (fun f cdv A outer s H vs Q E hr h => ?_)
  · obtain ⟨v, p, u, wk, rfl, hp, ok, hw, wok, q⟩ := h
    rfl
  obtain ⟨v, p, u, wk, rfl, hp, ok, hw, wok, q⟩ := h
  have nd := sc_check_work.nd
  refine ⟨_, (pss_cons (ps_set (i := 2) nd rfl (.inl rfl) (pe_callTy (call_listS rfl) rfl g.list b_list (pa_cons (C8.pe_c c_signs_of hr (by decide) rfl (pa_cons (pv 0) pa_nil)) pa_nil)))
    (pss_cons (ps_set (i := 3) nd rfl (.inl rfl) (pe_lst (pa_cons (pe_tup (pa_cons (pv 1) (pa_cons pe_int pa_nil))) pa_nil)))
    (pss_cons (ps_set (i := 4) nd rfl (.inl rfl) pe_int)
    (pss_one (ps_while PassesOwn.never (pt_truth (pv 3) (by intro _; rfl)) (pss_cons (ps_asg (pe_bm0 PySem.F.plainAttrs_list PySem.F.slot_list_pop PySem.F.type_list_pop mt_pop (pv 3)) (pg_tup (by rfl) (pgs_cons (pg_name (i := 5) nd rfl (.inl rfl)) (pgs_cons (pg_name (i := 6) nd rfl (.inl rfl)) pgs_nil))))
    (pss_cons (ps_if (PW.pt (pw_or (pt_cmpR op_eq (pv 4) (C8.pe_gc rfl g.MOST_WORKS) (nomark _)) (pw_or (pt_cmpR op_gt (pv 6) (C8.pe_gc rfl g.MOST_DEEP) (nomark _)) (pw_or1 (pt_not (pt_val (C8.pe_c c_is_work_alone hr (by decide) rfl (pa_cons (pv 5) (pa_cons (pv 2) pa_nil))))))))) (pss_one ps_never) pss_nil)
    (pss_cons (ps_aug (i := 4) nd rfl (.inl rfl) pe_int ip_add)
    (pss_one (ps_for PassesOwn.never rfl (RT.pi_revA rfl g.reversed (C8.pe_c c_works_within hr (by decide) rfl (pa_cons (pv 5) pa_nil))) (pg_name (i := 7) nd rfl (.inl rfl)) (pss_one (ps_expr (pe_bm PySem.F.plainAttrs_list PySem.F.slot_list_append PySem.F.type_list_append mt_append (pv 3) (pa_cons (pe_tup (pa_cons (pv 7) (pa_cons (pe_op op_add (pv 6) pe_int) pa_nil))) pa_nil)))))))))))))), ?_⟩
  have h4 := signs_len p.many
  refine ⟨_, rfl, v, p, rfl, hp, ok, fun H1 s1 => ⟨_, rfl, by rw [tx_len]; exact sz (by omega), fun D hD => ?_⟩⟩
  rw [tx_list]
  have sD := Same.new hD (.lst ((signs p.many).map fun c => V.str ⟨#[c]⟩))
  have hDD : upd H1 D (.lst ((signs p.many).map fun c => V.str ⟨#[c]⟩)) D = some (.lst ((signs p.many).map fun c => V.str (tx [c]))) := upd_same
  generalize upd H1 D (.lst ((signs p.many).map fun c => V.str ⟨#[c]⟩)) = H2 at sD hDD
  refine ⟨_, rfl, by show 2 ≤ sizeLine; decide, fun T0 hT0 => ⟨by show 1 ≤ sizeLine; decide, fun Wl hWl => ?_⟩⟩
  have sT := Same.new hT0 (.tup [u, .int 1])
  have sW := Same.new hWl (.lst [.ref T0])
  have s2 := s1.trans (sD.trans (sT.trans sW))
  have nW : H Wl = none := (s1.trans (sD.trans sT)).free hWl
  have neD : D ≠ Wl := ne_of_none (sT _ _ hDD) hWl
  refine gn ?_
  dsimp only
  refine asg_c ?_
  refine while_by (fun σ H3 => ∃ (num : Nat) (o5 o6 o7 : Option V) (ps : List (W × Nat)) (ys : List V), σ = [some v, some u, some (.ref D), some (.ref Wl), some (.int (num : Int)), o5, o6, o7] ∧ Same H H3 ∧ H3 D = some (.lst ((signs p.many).map fun c => V.str (tx [c]))) ∧ H3 Wl = some (.lst ys.reverse) ∧ PAt H3 ps ys ∧
      num + psz ps ≤ 60 ∧ ∀ x ∈ ps, x.1.Can p.many ∧ 1 ≤ x.2 ∧ x.2 + x.1.dep ≤ 9)
    (fun σ _ => match σ with | [_, _, _, _, some (.int m), _, _, _] => 60 - m.toNat | _ => 0)
    ⟨0, none, none, none, [(wk, 1)], [.ref T0], rfl, s2, sW _ _ (sT _ _ hDD), upd_same, ⟨T0, u, [], rfl, sW _ _ upd_same, hw.tups (Tups.of s2), rfl⟩, by
      have := wok.siz
      show 0 + psz [(wk, 1)] ≤ 60
      rw [psz_cons]
      show 0 + (wk.siz + 0) ≤ 60
      omega, fun x hx => by
      have e : x = (wk, 1) := by simpa using hx
      subst e
      have := wok.dep
      exact ⟨wok.can, Nat.le_refl _, by show 1 + wk.dep ≤ 9; omega⟩⟩ ?_ ?_
  · rintro σ H3 ⟨num, o5, o6, o7, ps, ys, rfl, s3, hD3, hW3, hpa, hnum, hall⟩
    refine ⟨_, rfl, _, .inl ⟨_, SqL.of hW3, rfl⟩, ?_⟩
    cases ps with
    | nil =>
      have e : ys = [] := hpa
      subst e
      exact iteF (q H3 s3)
    | cons x r =>
      obtain ⟨T, fu, ys, rfl, hT, hfu, hpr⟩ := hpa
      obtain ⟨can, d1, d9⟩ := hall x (List.mem_cons_self ..)
      have dpos := W.dep_pos x.1
      have spos := W.siz_pos x.1
      rw [psz_cons] at hnum
      have erev : (V.ref T :: ys).reverse = ys.reverse ++ [.ref T] := List.reverse_cons
      rw [erev] at hW3 ⊢
      have ene : (!(ys.reverse ++ [V.ref T]).isEmpty) = true := by simp
      rw [ene]
      refine iteT ?_
      -- found, deep = waiting.pop()
      refine ⟨_, rfl, .inl ⟨rfl, _, SqL.of hW3⟩, Wl, _, .ref T, rfl, rfl, hW3, by simp, ?_⟩
      rw [List.dropLast_concat]
      have tW : Tups H3 (upd H3 Wl (.lst ys.reverse)) := Tups.lst hW3
      have s4 : Same H (upd H3 Wl (.lst ys.reverse)) := fun b o e => by
        rw [upd_ne (ne_of_none e nW)]
        exact s3 _ _ e
      have hD4 : upd H3 Wl (.lst ys.reverse) D = some (.lst ((signs p.many).map fun c => V.str (tx [c]))) := by
        rw [upd_ne neD]
        exact hD3
      have hW4 : upd H3 Wl (.lst ys.reverse) Wl = some (.lst ys.reverse) := upd_same
      have hT4 := tW _ _ hT
      have hfu4 := hfu.tups tW
      have hpr4 := hpr.tups tW
      generalize upd H3 Wl (.lst ys.reverse) = H4 at s4 hD4 hW4 hT4 hfu4 hpr4 tW
      refine ⟨T, _, rfl, SqT.of hT4, rfl, _, _, rfl, _, _, rfl, rfl, ?_⟩
      -- the test
      refine ⟨_, rfl, rfl, _, rfl, iteDF (fun z => by injection z with z; omega) ?_⟩
      refine ⟨_, rfl, _, _, rfl, rfl, _, rfl, iteDF (by omega) ?_⟩
      refine ⟨_, rfl, _, rfl, x.1, fu, D, p.many, rfl, hfu4, hD4, can, fun H5 s5 => ⟨_, rfl, iteF ?_⟩⟩
      -- number += 1
      refine ⟨_, rfl, _, _, rfl, rfl, ?_⟩
      -- for inner in reversed(..)
      refine ⟨_, rfl, x.1, fu, rfl, hfu4.tups (Tups.of s5), fun H6 uu zs s6 huu hzs => ⟨uu, zs, rfl, .inr ⟨SqT.of huu, ?_⟩⟩⟩
      have hl := hzs.len
      have e1 := within_siz x.1
      have e2 := within_dep x.1
      have cw := within_can can
      have s46 := s5.trans s6
      have sz2 : ∀ n, psz (((x.1.within.list.drop n).map fun w' => (w', x.2 + 1)) ++ r) ≤ x.1.within.siz + psz r := fun n => by
        have h1 : ∀ (l : List W) (n : Nat), ((l.drop n).map W.siz).sum ≤ (l.map W.siz).sum := fun l => by
          induction l with
          | nil => intro n; simp
          | cons a l ih =>
            intro n
            cases n with
            | zero => simp
            | succ n =>
              have := ih n
              rw [List.drop_succ_cons, List.map_cons, List.sum_cons]
              omega
        have h2 := h1 x.1.within.list n
        rw [← Ws.siz_list] at h2
        unfold psz
        rw [List.map_append, List.sum_append, List.map_map]
        have e : ((fun p : W × Nat => p.1.siz) ∘ fun w' => (w', x.2 + 1)) = W.siz := rfl
        rw [e]
        omega
      refine for_it (walk_rt (K := K) (a := uu) (xs := zs)) (fun i σ H7 => ∃ (o7 : Option V) (ws : List V), σ = [some v, some u, some (.ref D), some (.ref Wl), some (.int ((num : Int) + 1)), some fu, some (.int (x.2 : Int)), o7] ∧ Same H H7 ∧ Tups H6 H7 ∧ H7 D = some (.lst ((signs p.many).map fun c => V.str (tx [c]))) ∧ H7 Wl = some (.lst ws.reverse) ∧
          PAt H7 (((x.1.within.list.drop (zs.length - i)).map fun w' => (w', x.2 + 1)) ++ r) ws)
        ⟨o7, ys, rfl, s4.trans s46, Tups.refl _, s46 _ _ hD4, s46 _ _ hW4, by
          rw [Nat.sub_zero, hl, List.drop_length]
          exact hpr4.tups (Tups.of s46)⟩ (fun i σ H7 _ ⟨_, _, _, _, t7, _⟩ => SqT.of (t7 _ _ huu)) ?_ ?_
      · rintro i y σ H7 H8 hi ⟨o7, ws, rfl, s7, t7, hD7, hW7, hp7⟩ ⟨rfl, hy⟩
        obtain ⟨w', hw', hwa⟩ := hzs.get hy
        have hlen := hp7.len
        have hle := psz_len (((x.1.within.list.drop (zs.length - i)).map fun w' => (w', x.2 + 1)) ++ r)
        have hs2 := sz2 (zs.length - i)
        refine ⟨_, rfl, .inl ⟨rfl, _, SqL.of hW7⟩, _, rfl, _, rfl, _, _, rfl, rfl, by show 2 ≤ sizeLine; decide, fun T' hT' => ?_⟩
        have sT' := Same.new hT' (.tup [y, .int ((x.2 : Int) + 1)])
        refine ⟨Wl, _, _, rfl, rfl, sT' _ _ hW7, by rw [List.length_reverse, hlen]; exact szl (by omega), ?_⟩
        have hneW : T' ≠ Wl := (ne_of_none hW7 hT').symm
        have tl : Tups (upd H8 T' (.tup [y, .int ((x.2 : Int) + 1)])) (upd (upd H8 T' (.tup [y, .int ((x.2 : Int) + 1)])) Wl (.lst (ws.reverse ++ [.ref T']))) := Tups.lst (sT' _ _ hW7)
        have tall : Tups H8 (upd (upd H8 T' (.tup [y, .int ((x.2 : Int) + 1)])) Wl (.lst (ws.reverse ++ [.ref T']))) := (Tups.of sT').trans tl
        refine ⟨some y, .ref T' :: ws, rfl, fun b o e => ?_, t7.trans tall, ?_, by rw [upd_same, List.reverse_cons], ?_⟩
        · rw [upd_ne (ne_of_none e nW)]
          exact sT' _ _ (s7 _ _ e)
        · rw [upd_ne neD]
          exact sT' _ _ hD7
        · have hdrop : x.1.within.list.drop (zs.length - (i + 1)) = w' :: x.1.within.list.drop (zs.length - i) := by
            have e3 : zs.length - (i + 1) = zs.length - 1 - i := by omega
            have e4 : zs.length - i = zs.length - 1 - i + 1 := by omega
            rw [e3, e4]
            obtain ⟨hlt, he⟩ := List.getElem?_eq_some_iff.mp hw'
            rw [← he]
            exact List.drop_eq_getElem_cons hlt
          rw [hdrop]
          refine ⟨T', y, ws, rfl, tl _ _ upd_same, hwa.tups (t7.trans tall), hp7.tups tall⟩
      · rintro σ H7 ⟨o7, ws, rfl, s7, t7, hD7, hW7, hp7⟩
        have e0 : zs.length - zs.length = 0 := Nat.sub_self _
        rw [e0, List.drop_zero] at hp7
        have hs2 := sz2 0
        rw [List.drop_zero] at hs2
        refine ⟨⟨num + 1, some fu, some (.int (x.2 : Int)), o7, _, ws, rfl, s7, hD7, hW7, hp7, by omega, fun y hy => ?_⟩, ?_⟩
        · rcases List.mem_append.mp hy with h | h
          · obtain ⟨w', hw', rfl⟩ := List.mem_map.mp h
            have := Ws.dep_mem hw'
            exact ⟨Ws.can_mem cw hw', by show 1 ≤ x.2 + 1; omega, by show x.2 + 1 + w'.dep ≤ 9; omega⟩
          · exact hall y (List.mem_cons_of_mem _ h)
        · show 60 - ((num : Int) + 1).toNat < 60 - ((num : Int)).toNat
          omega
  · rintro σ H3 Q1 Q2 hq ⟨x, e1, k, t, h⟩
    exact ⟨x, e1, k, t, hq _ _ h⟩
theorem ok_told (D : Dn K mg "told" s_told P_told) (g : Gx mg) (c_check_plan : C8.Cal P w K mg base 3 "check_plan" spChPlan []) (c_check_work : C8.Cal P w K mg base 3 "check_work" spChWork []) (c_triple_of_work : C8.Cal P w K mg base 11 "triple_of_work" (spTri 8) []) : C8.Cal P w K mg base 12 "told" spTold [] := by
  refine D.cal sc_told (fun vs H Q E h => ?_) (fun f cdv A outer s H vs Q E hr h => ?_)
  · obtain ⟨v, p, u, wk, rfl, hp, ok, hw, wok, q⟩ := h
    rfl
  obtain ⟨v, p, u, wk, rfl, hp, ok, hw, wok, q⟩ := h
  have nd := sc_told.nd
  refine ⟨_, (pss_cons (ps_expr (C8.pe_c c_check_plan hr (by decide) rfl (pa_cons (pv 0) pa_nil)))
    (pss_cons (ps_expr (C8.pe_c c_check_work hr (by decide) rfl (pa_cons (pv 0) (pa_cons (pv 1) pa_nil))))
    (pss_one (ps_ret (C8.pe_c c_triple_of_work hr (by decide) rfl (pa_cons (pv 0) (pa_cons (pv 1) pa_nil))))))), ?_⟩
  refine ⟨_, rfl, v, p, rfl, hp, ok, fun H1 s1 => ?_⟩
  refine ⟨_, rfl, _, rfl, v, p, u, wk, rfl, hp.mono s1, ok, hw.tups (Tups.of s1), wok, fun H2 s2 => ?_⟩
  exact ⟨_, rfl, _, rfl, v, p, u, wk, rfl, hp.mono (s1.trans s2), ok, hw.tups (Tups.of (s1.trans s2)), wok.can, wok.dep, fun H3 v3 s3 h3 => q H3 v3 (s1.trans (s2.trans s3)) h3⟩
theorem ok_cost (D : Dn K mg "cost" s_cost P_cost) (g : Gx mg) (c_check_plan : C8.Cal P w K mg base 3 "check_plan" spChPlan []) (c_check_work : C8.Cal P w K mg base 3 "check_work" spChWork []) (c_price_of_work : C8.Cal P w K mg base 9 "price_of_work" (spPWork 8) []) : C8.Cal P w K mg base 10 "cost" spCost [] := by
  refine D.cal sc_cost (fun vs H Q E h => ?_) (fun f cdv A outer s H vs Q E hr h => ?_)
  · obtain ⟨v, p, u, wk, rfl, hp, ok, hw, wok, q⟩ := h
    rfl
  obtain ⟨v, p, u, wk, rfl, hp, ok, hw, wok, q⟩ := h
  have nd := sc_cost.nd
  refine ⟨_, (pss_cons (ps_expr (C8.pe_c c_check_plan hr (by decide) rfl (pa_cons (pv 0) pa_nil)))
    (pss_cons (ps_expr (C8.pe_c c_check_work hr (by decide) rfl (pa_cons (pv 0) (pa_cons (pv 1) pa_nil))))
    (pss_one (ps_ret (C8.pe_c c_price_of_work hr (by decide) rfl (pa_cons (pv 0) (pa_cons (pv 1) pa_nil))))))), ?_⟩
  refine ⟨_, rfl, v, p, rfl, hp, ok, fun H1 s1 => ?_⟩
  refine ⟨_, rfl, _, rfl, v, p, u, wk, rfl, hp.mono s1, ok, hw.tups (Tups.of s1), wok, fun H2 s2 => ?_⟩
  exact ⟨_, rfl, _, rfl, v, p, u, wk, rfl, hp.mono (s1.trans s2), ok, hw.tups (Tups.of (s1.trans s2)), wok.can, wok.dep, fun H3 s3 => q H3 (s1.trans (s2.trans s3))⟩
variable {C : Addr}
theorem upx {x pa C dx : Addr} {H' : Hp} {fs : List (Str × V)} (hne : x ≠ pa) (h : H' x = some (.ins C dx fs)) (fs' : List (Str × V)) : Keep x pa H' (upd H' x (.ins C dx fs')) ∧ Tups H' (upd H' x (.ins C dx fs')) ∧ upd H' x (.ins C dx fs') x = some (.ins C dx fs') ∧ (∀ ys, H' pa = some (.lst ys) → upd H' x (.ins C dx fs') pa = some (.lst ys)) := by
  refine ⟨fun b o e1 e2 e3 => by rw [upd_ne e2]; exact e1, ⟨fun b ys e1 => ?_, fun b o ys e1 => ?_⟩, upd_same, fun ys e1 => ?_⟩
  · rw [upd_ne (ne_of e1 h (by intro z; cases z))]
    exact e1
  · rw [upd_ne (ne_of e1 h (by intro z; cases z))]
    exact e1
  · rw [upd_ne hne.symm]
    exact e1
theorem ok_check_sign (D : Dn K mg "check_sign" s_check_sign P_check_sign) (g : Gx mg) (c_signs_of : C8.Cal P w K mg base 1 "signs_of" spSigns []) : C8.Cal P w K mg base 2 "check_sign" spChSign [] := by
  refine D.cal sc_check_sign (fun vs H Q E h => ?_) (fun f cdv A outer s H vs Q E hr h => ?_)
  · obtain ⟨v, p, c, rfl, hp, ok, hc, q⟩ := h
    rfl
  obtain ⟨v, p, c, rfl, hp, ok, hc, q⟩ := h
  have nd := sc_check_sign.nd
  refine ⟨_, (pss_one (ps_if (pt_cmpR op_notIn_seq (pv 1) (pe_callTy (call_listS rfl) rfl g.list b_list (pa_cons (C8.pe_c c_signs_of hr (by decide) rfl (pa_cons (pv 0) pa_nil)) pa_nil)) rfl) (pss_one ps_never) pss_nil)), ?_⟩
  have h4 := signs_len p.many
  refine ⟨_, rfl, _, rfl, v, p, rfl, hp, ok, fun H1 s1 => ⟨_, rfl, by rw [tx_len]; exact sz (by omega), fun D hD => ?_⟩⟩
  rw [tx_list]
  have sD := Same.new hD (.lst ((signs p.many).map fun c => V.str ⟨#[c]⟩))
  have hDD : upd H1 D (.lst ((signs p.many).map fun c => V.str ⟨#[c]⟩)) D = some (.lst ((signs p.many).map fun c => V.str (tx [c]))) := upd_same
  generalize upd H1 D (.lst ((signs p.many).map fun c => V.str ⟨#[c]⟩)) = H2 at sD hDD
  refine ⟨D, _, rfl, .inl (SqL.of hDD), rfl, flat_signs _, _, rfl, ?_⟩
  rw [if_pos rfl, inV_sign hc]
  exact iteF (q _ (s1.trans sD))
theorem ok_M_add_deed (D : Dm K C "_add_deed" "Machine._add_deed" s_M_add_deed P_M_add_deed) (T : MT K C) (g : Gx mg) (c_stack_behind : C8.Cal P w K mg base 2 "stack_behind" spBehind []) (c_join_triples : C8.Cal P w K mg base 2 "join_triples" spJoin []) : C8.Met P w K mg base 3 C "_add_deed" (spMDeed C) [] := by
  refine D.met T.cl sc_M_add_deed (fun vs H Q E h => ?_) (fun f cdv A outer s H vs Q E hr h => ?_)
  · obtain ⟨x, pa, m, u, t, z, rfl, M, ok, hl, hu, tok, q⟩ := h
    rfl
  obtain ⟨x, pa, m, u, t, z, rfl, M, ok, hl, hu, tok, q⟩ := h
  have nd := sc_M_add_deed.nd
  refine ⟨_, (pss_cons (ps_expr (pe_bm PySem.F.plainAttrs_list PySem.F.slot_list_append PySem.F.type_list_append mt_append (pe_fld (pv 0) rfl) (pa_cons (pe_tup (pa_cons (pe_fld (pv 0) rfl) (pa_cons (pe_fld (pv 0) rfl) (pa_cons (pe_fld (pv 0) rfl) pa_nil)))) pa_nil)))
    (pss_cons (ps_fld (pv 0) (C8.pe_c c_stack_behind hr (by decide) rfl (pa_cons (pv 1) (pa_cons (pe_fld (pv 0) rfl) pa_nil))) rfl)
    (pss_cons (ps_fld (pv 0) (pe_op op_add (pe_fld (pv 0) rfl) (pv 2)) rfl)
    (pss_one (ps_fld (pv 0) (C8.pe_c c_join_triples hr (by decide) rfl (pa_cons (pe_fld (pv 0) rfl) (pa_cons (pv 1) pa_nil))) rfl))))), ?_⟩
  obtain ⟨⟨dx, pv, tv, hx, hpv, htv⟩, xs, hpa, hP⟩ := id M
  have hne := M.ne
  have hlen := hP.len
  have rl := ok.p.r9
  have okl := ok.l
  have kl := tok.kl
  have mkl := ok.t.kl
  refine ⟨_, rfl, x, C, dx, _, _, rfl, hx, T.cl, T.nPast, mf_past, .inl ⟨rfl, _, SqL.of hpa⟩, ?_⟩
  refine ⟨_, rfl, x, C, dx, _, _, rfl, hx, T.cl, T.nStack, mf_stack, _, rfl, x, C, dx, _, _, rfl, hx, T.cl, T.nSpent, mf_spent, _, rfl, x, C, dx, _, _, rfl, hx, T.cl, T.nTriple, mf_triple, by show 3 ≤ sizeLine; decide, fun e he => ?_⟩
  have se := Same.new he (.tup [.str (tx m.l), .int m.z, tv])
  refine ⟨pa, xs, _, rfl, rfl, se _ _ hpa, by rw [hlen]; exact szl (by omega), ?_⟩
  -- the heap with one more behind
  have hx1 : upd (upd H e (.tup [.str (tx m.l), .int m.z, tv])) pa (.lst (xs ++ [.ref e])) x = some (.ins C dx (mf pv m.l m.z tv pa)) := by
    rw [upd_ne hne]
    exact se _ _ hx
  have hpa1 : upd (upd H e (.tup [.str (tx m.l), .int m.z, tv])) pa (.lst (xs ++ [.ref e])) pa = some (.lst (xs ++ [.ref e])) := upd_same
  have k1 : Keep x pa H (upd (upd H e (.tup [.str (tx m.l), .int m.z, tv])) pa (.lst (xs ++ [.ref e]))) := Keep.two (Keep.of se) _
  have t1 := k1.tupsM M
  have hP1 : PastAt (upd (upd H e (.tup [.str (tx m.l), .int m.z, tv])) pa (.lst (xs ++ [.ref e]))) (m.past ++ [(m.l, m.z, m.t)]) (xs ++ [.ref e]) :=
    (hP.tups t1).snoc (tv := tv) (by rw [upd_ne (ne_of (upd_same (H := H) (a := e)) (se _ _ hpa) (by intro z; cases z))]; exact upd_same) (htv.tups t1)
  generalize upd (upd H e (.tup [.str (tx m.l), .int m.z, tv])) pa (.lst (xs ++ [.ref e])) = H1 at hx1 hpa1 k1 t1 hP1
  refine ⟨_, rfl, _, rfl, x, C, dx, _, _, rfl, hx1, T.cl, T.nStack, mf_stack, u, t, m.l, rfl, hu.tups t1, by omega, by omega, fun H2 s2 => ?_⟩
  have hx2 := s2 _ _ hx1
  refine ⟨_, rfl, x, C, dx, _, rfl, hx2, T.cl, T.nStack, (show 5 < 1000 by decide), ?_⟩
  rw [put_stack]
  obtain ⟨k3, t3, hx3, p3⟩ := upx hne hx2 (mf pv (tby t m.l) m.z tv pa)
  have hpa3 := p3 _ (s2 _ _ hpa1)
  have t13 := t1.trans ((Tups.of s2).trans t3)
  have k13 := k1.trans ((Keep.of s2).trans k3)
  have hP3 := hP1.tups ((Tups.of s2).trans t3)
  generalize upd H2 x (.ins C dx (mf pv (tby t m.l) m.z tv pa)) = H3 at hx3 hpa3 t13 k13 hP3
  refine ⟨_, rfl, x, C, dx, _, _, rfl, hx3, T.cl, T.nSpent, mf_spent, _, rfl, _, _, rfl, rfl, _, rfl, x, C, dx, _, rfl, hx3, T.cl, T.nSpent, (show 5 < 1000 by decide), ?_⟩
  rw [put_spent]
  obtain ⟨k4, t4, hx4, p4⟩ := upx hne hx3 (mf pv (tby t m.l) (m.z + z) tv pa)
  have hpa4 := p4 _ hpa3
  have t14 := t13.trans t4
  have k14 := k13.trans k4
  have hP4 := hP3.tups t4
  generalize upd H3 x (.ins C dx (mf pv (tby t m.l) (m.z + z) tv pa)) = H4 at hx4 hpa4 t14 k14 hP4
  refine ⟨_, rfl, x, C, dx, _, _, rfl, hx4, T.cl, T.nTriple, mf_triple, _, rfl, tv, u, m.t, t, rfl, htv.tups t14, hu.tups t14, by omega, by omega, fun H5 v5 s5 h5 => ?_⟩
  have hx5 := s5 _ _ hx4
  refine ⟨_, rfl, x, C, dx, _, rfl, hx5, T.cl, T.nTriple, (show 5 < 1000 by decide), ?_⟩
  rw [put_triple]
  obtain ⟨k6, t6, hx6, p6⟩ := upx hne hx5 (mf pv (tby t m.l) (m.z + z) v5 pa)
  have hpa6 := p6 _ (s5 _ _ hpa4)
  exact q _ (k14.trans ((Keep.of s5).trans k6)) ⟨⟨dx, pv, v5, hx6, hpv.tups (t14.trans ((Tups.of s5).trans t6)), h5.tups t6⟩, _, hpa6, hP4.tups ((Tups.of s5).trans t6)⟩
theorem ok_M_add_step (D : Dm K C "_add_step" "Machine._add_step" s_M_add_step P_M_add_step) (T : MT K C) (g : Gx mg) (c_triple_of_step : C8.Cal P w K mg base 2 "triple_of_step" spTStep []) (c_price_of_step : C8.Cal P w K mg base 1 "price_of_step" spPStep []) (c_M_add_deed : C8.Met P w K mg base 3 C "_add_deed" (spMDeed C) []) : C8.Met P w K mg base 4 C "_add_step" (spMStep C) [] := by
  refine D.met T.cl sc_M_add_step (fun vs H Q E h => ?_) (fun f cdv A outer s H vs Q E hr h => ?_)
  · obtain ⟨x, pa, m, c, rfl, M, ok, hl, hc, q⟩ := h
    rfl
  obtain ⟨x, pa, m, c, rfl, M, ok, hl, hc, q⟩ := h
  have nd := sc_M_add_step.nd
  refine ⟨_, (pss_one (ps_expr (C8.pe_mt c_M_add_deed hr (by decide) (pv 0) (pa_cons (C8.pe_c c_triple_of_step hr (by decide) rfl (pa_cons (pe_fld (pv 0) rfl) (pa_cons (pv 1) pa_nil))) (pa_cons (C8.pe_c c_price_of_step hr (by decide) rfl (pa_cons (pe_fld (pv 0) rfl) (pa_cons (pv 1) pa_nil))) pa_nil))))), ?_⟩
  obtain ⟨⟨dx, pv, tv, hx, hpv, htv⟩, xs, hpa, hP⟩ := id M
  have tok := tstep_ok (room := m.p.room) (many := m.p.many) ok.p.r1 hc
  refine ⟨_, rfl, x, dx, _, rfl, hx, mf_no (by decide +kernel) (by decide +kernel) (by decide +kernel) (by decide +kernel) (by decide +kernel), ?_⟩
  refine ⟨_, rfl, x, C, dx, _, _, rfl, hx, T.cl, T.nPlan, mf_plan, _, rfl, pv, m.p, c, rfl, hpv, ok.p, fun H1 v1 s1 h1 => ?_⟩
  refine ⟨_, rfl, x, C, dx, _, _, rfl, s1 _ _ hx, T.cl, T.nPlan, mf_plan, _, rfl, pv, m.p, c, rfl, hpv.mono s1, ok.p, hc, fun H2 s2 => ?_⟩
  exact ⟨x, pa, m, v1, _, _, rfl, M.mono (s1.trans s2), ok, hl, h1.mono s2, tok, fun H3 k3 M3 => q H3 ((Keep.of (s1.trans s2)).trans k3) M3⟩
theorem ok_M_do (D : Dm K C "do" "Machine.do" s_M_do P_M_do) (T : MT K C) (g : Gx mg) (c_check_work : C8.Cal P w K mg base 3 "check_work" spChWork []) (c_triple_of_work : C8.Cal P w K mg base 11 "triple_of_work" (spTri 8) []) (c_price_of_work : C8.Cal P w K mg base 9 "price_of_work" (spPWork 8) []) (c_M_add_deed : C8.Met P w K mg base 3 C "_add_deed" (spMDeed C) []) : C8.Met P w K mg base 12 C "do" (spMDo C) [] := by
  refine D.met T.cl sc_M_do (fun vs H Q E h => ?_) (fun f cdv A outer s H vs Q E hr h => ?_)
  · obtain ⟨x, pa, m, u, wk, rfl, M, ok, hl, hw, wok, q⟩ := h
    rfl
  obtain ⟨x, pa, m, u, wk, rfl, M, ok, hl, hw, wok, q⟩ := h
  have nd := sc_M_do.nd
  refine ⟨_, (pss_cons (ps_expr (C8.pe_c c_check_work hr (by decide) rfl (pa_cons (pe_fld (pv 0) rfl) (pa_cons (pv 1) pa_nil))))
    (pss_cons (ps_expr (C8.pe_mt c_M_add_deed hr (by decide) (pv 0) (pa_cons (C8.pe_c c_triple_of_work hr (by decide) rfl (pa_cons (pe_fld (pv 0) rfl) (pa_cons (pv 1) pa_nil))) (pa_cons (C8.pe_c c_price_of_work hr (by decide) rfl (pa_cons (pe_fld (pv 0) rfl) (pa_cons (pv 1) pa_nil))) pa_nil))))
    (pss_one (ps_ret (pe_fld (pv 0) rfl))))), ?_⟩
  obtain ⟨⟨dx, pv, tv, hx, hpv, htv⟩, xs, hpa, hP⟩ := id M
  have tok := W.tri_ok (room := m.p.room) ok.p.r1 wk wok.can
  refine ⟨_, rfl, x, C, dx, _, _, rfl, hx, T.cl, T.nPlan, mf_plan, _, rfl, pv, m.p, u, wk, rfl, hpv, ok.p, hw, wok, fun H1 s1 => ?_⟩
  have hx1 := s1 _ _ hx
  refine ⟨_, rfl, x, dx, _, rfl, hx1, mf_no (by decide +kernel) (by decide +kernel) (by decide +kernel) (by decide +kernel) (by decide +kernel), ?_⟩
  refine ⟨_, rfl, x, C, dx, _, _, rfl, hx1, T.cl, T.nPlan, mf_plan, _, rfl, pv, m.p, u, wk, rfl, hpv.mono s1, ok.p, hw.tups (Tups.of s1), wok.can, wok.dep, fun H2 v2 s2 h2 => ?_⟩
  have s12 := s1.trans s2
  refine ⟨_, rfl, x, C, dx, _, _, rfl, s12 _ _ hx, T.cl, T.nPlan, mf_plan, _, rfl, pv, m.p, u, wk, rfl, hpv.mono s12, ok.p, hw.tups (Tups.of s12), wok.can, wok.dep, fun H3 s3 => ?_⟩
  have s13 := s12.trans s3
  refine ⟨x, pa, m, v2, _, _, rfl, M.mono s13, ok, hl, h2.mono s3, tok, fun H4 k4 M4 => ?_⟩
  obtain ⟨⟨dx4, pv4, tv4, hx4, _, _⟩, _⟩ := id M4
  exact ⟨_, rfl, x, C, dx4, _, _, rfl, hx4, T.cl, T.nStack, mf_stack, q H4 ((Keep.of s13).trans k4) M4⟩
theorem ok_M_push (D : Dm K C "push" "Machine.push" s_M_push P_M_push) (T : MT K C) (g : Gx mg) (c_check_sign : C8.Cal P w K mg base 2 "check_sign" spChSign []) (c_M_add_step : C8.Met P w K mg base 4 C "_add_step" (spMStep C) []) : C8.Met P w K mg base 5 C "push" (spMPush C) [] := by
  refine D.met T.cl sc_M_push (fun vs H Q E h => ?_) (fun f cdv A outer s H vs Q E hr h => ?_)
  · obtain ⟨x, pa, m, c, rfl, M, ok, hl, hc, q⟩ := h
    rfl
  obtain ⟨x, pa, m, c, rfl, M, ok, hl, hc, q⟩ := h
  have nd := sc_M_push.nd
  refine ⟨_, (pss_cons (ps_expr (C8.pe_c c_check_sign hr (by decide) rfl (pa_cons (pe_fld (pv 0) rfl) (pa_cons (pv 1) pa_nil))))
    (pss_cons (ps_set (i := 2) nd rfl (.inl rfl) (pe_fld (pv 0) rfl))
    (pss_cons (ps_expr (C8.pe_mt c_M_add_step hr (by decide) (pv 0) (pa_cons (pv 1) pa_nil)))
    (pss_cons (ps_if (pt_cmpR op_eq (pe_callB call_len_str rfl g.len PySem.boot_len (pa_cons (pv 2) pa_nil)) (pe_ix ix_tup (pe_fld (pv 0) rfl) pe_int (fun _ _ => rfl)) (nomark _)) (pss_one (ps_ret (pe_ix ix_str (pv 2) pe_int (fun _ _ => rfl)))) pss_nil)
    (pss_one (ps_ret pe_non)))))), ?_⟩
  obtain ⟨⟨dx, pv, tv, hx, hpv, htv⟩, xs, hpa, hP⟩ := id M
  have rl := ok.p.r9
  have okl := ok.l
  refine ⟨_, rfl, x, C, dx, _, _, rfl, hx, T.cl, T.nPlan, mf_plan, _, rfl, pv, m.p, c, rfl, hpv, ok.p, hc, fun H1 s1 => ?_⟩
  have hx1 := s1 _ _ hx
  refine ⟨_, rfl, x, C, dx, _, _, rfl, hx1, T.cl, T.nStack, mf_stack, ?_⟩
  refine ⟨_, rfl, x, dx, _, rfl, hx1, mf_no (by decide +kernel) (by decide +kernel) (by decide +kernel) (by decide +kernel) (by decide +kernel), _, rfl, x, pa, m, c, rfl, M.mono s1, ok, hl, .inr hc, fun H2 k2 M2 => ?_⟩
  have k12 := (Keep.of s1).trans k2
  have q2 := q H2 k12 M2
  obtain ⟨⟨dx2, pv2, tv2, hx2, hpv2, _⟩, _⟩ := id M2
  obtain ⟨a, b, rfl, ha2, hb2⟩ := id hpv2
  refine ⟨_, rfl, _, rfl, by rw [tx_len]; exact sz (by omega), _, rfl, x, C, dx2, _, _, rfl, hx2, T.cl, T.nPlan, mf_plan, a, _, 0, _, rfl, rfl, SqT.of ha2, rfl, rfl, _, rfl, ?_⟩
  rw [tx_len]
  unfold fallV at q2
  cases el : m.l with
  | nil =>
    rw [el] at q2
    refine iteDF (fun z => ?_) q2
    injection z with z
    have := ok.p.r1
    have z2 : ((0 : Nat) : Int) = (m.p.room : Int) := z
    omega
  | cons d r =>
    rw [el] at q2
    by_cases e : (d :: r).length = m.p.room
    · have q3 : Q (.str (tx [d])) H2 := by
        have q4 := q2
        dsimp only at q4
        rw [if_pos e] at q4
        exact q4
      refine iteD (congrArg (fun n : Nat => V.int (n : Int)) e) ?_
      refine ⟨_, rfl, _, _, d, rfl, rfl, by rw [tx_len, ← el]; exact sz (by omega), atI_nat (j := 0) rfl, q3⟩
    · have q3 : Q .non H2 := by
        have q4 := q2
        dsimp only at q4
        rw [if_neg e] at q4
        exact q4
      refine iteDF (fun z => e ?_) q3
      injection z with z
      exact Int.ofNat.inj z
theorem ok_M_pop (D : Dm K C "pop" "Machine.pop" s_M_pop P_M_pop) (T : MT K C) (g : Gx mg) (c_M_add_step : C8.Met P w K mg base 4 C "_add_step" (spMStep C) []) : C8.Met P w K mg base 5 C "pop" (spMPop C) [] := by
  refine D.met T.cl sc_M_pop (fun vs H Q E h => ?_) (fun f cdv A outer s H vs Q E hr h => ?_)
  · obtain ⟨x, pa, m, rfl, M, ok, hl, q⟩ := h
    rfl
  obtain ⟨x, pa, m, rfl, M, ok, hl, q⟩ := h
  have nd := sc_M_pop.nd
  refine ⟨_, (pss_cons (ps_set (i := 1) nd rfl (.inl rfl) (pe_fld (pv 0) rfl))
    (pss_cons (ps_expr (C8.pe_mt c_M_add_step hr (by decide) (pv 0) (pa_cons (C8.pe_gc rfl g.POP_STEP) pa_nil)))
    (pss_cons (ps_if (pt_cmpR op_gt (pe_callB call_len_str rfl g.len PySem.boot_len (pa_cons (pv 1) pa_nil)) pe_int (nomark _)) (pss_one (ps_ret (pe_ix ix_str (pv 1) (pe_un un_neg pe_int) (fun _ _ => rfl)))) pss_nil)
    (pss_one (ps_ret pe_non))))), ?_⟩
  obtain ⟨⟨dx, pv, tv, hx, hpv, htv⟩, xs, hpa, hP⟩ := id M
  have rl := ok.p.r9
  have okl := ok.l
  refine ⟨_, rfl, x, C, dx, _, _, rfl, hx, T.cl, T.nStack, mf_stack, ?_⟩
  refine ⟨_, rfl, x, dx, _, rfl, hx, mf_no (by decide +kernel) (by decide +kernel) (by decide +kernel) (by decide +kernel) (by decide +kernel), x, pa, m, 45, rfl, M, ok, hl, .inl rfl, fun H2 k2 M2 => ?_⟩
  have q2 := q H2 k2 M2
  refine ⟨_, rfl, _, rfl, by rw [tx_len]; exact sz (by omega), _, _, rfl, rfl, _, rfl, ?_⟩
  rw [tx_len]
  unfold topV at q2
  cases el : m.l.getLast? with
  | none =>
    rw [el] at q2
    have e0 : m.l = [] := List.getLast?_eq_none_iff.mp el
    rw [e0]
    exact iteDF (by decide) q2
  | some d =>
    rw [el] at q2
    have hne : m.l ≠ [] := fun z => by
      rw [z] at el
      cases el
    have hpos := List.length_pos_iff.mpr hne
    refine iteD (by omega) ?_
    refine ⟨_, rfl, _, rfl, _, _, d, rfl, rfl, by rw [tx_len]; exact sz (by omega), ?_, q2⟩
    show (ixN m.l.length (-1)).bind (fun j => m.l[j]?) = some d
    have e1 : ixN m.l.length (-1) = some (m.l.length - 1) := by
      unfold ixN
      rw [if_neg (by omega)]
      rw [if_pos (by omega)]
      congr 1
      omega
    rw [e1]
    show m.l[m.l.length - 1]? = some d
    rw [← List.getLast?_eq_getElem?]
    exact el
theorem ok_M_back (D : Dm K C "back" "Machine.back" s_M_back P_M_back) (T : MT K C) (g : Gx mg) : C8.Met P w K mg base 1 C "back" (spMBack C) [] := by
  refine D.met T.cl sc_M_back (fun vs H Q E h => ?_) (fun f cdv A outer s H vs Q E hr h => ?_)
  · obtain ⟨x, pa, m, rfl, M, q1, q2⟩ := h
    rfl
  obtain ⟨x, pa, m, rfl, M, q1, q2⟩ := h
  have nd := sc_M_back.nd
  refine ⟨_, (pss_cons (ps_if (pt_cmpR op_eq (pe_callB call_len_seq rfl g.len PySem.boot_len (pa_cons (pe_fld (pv 0) rfl) pa_nil)) pe_int (nomark _)) (pss_one (ps_ret pe_bl)) pss_nil)
    (pss_cons (ps_asg (pe_bm0 PySem.F.plainAttrs_list PySem.F.slot_list_pop PySem.F.type_list_pop mt_pop (pe_fld (pv 0) rfl)) (pg_tup (by rfl) (pgs_cons (pg_fld (pv 0)) (pgs_cons (pg_fld (pv 0)) (pgs_cons (pg_fld (pv 0)) pgs_nil)))))
    (pss_one (ps_ret pe_bl)))), ?_⟩
  obtain ⟨⟨dx, pv, tv, hx, hpv, htv⟩, xs, hpa, hP⟩ := id M
  have hlen := hP.len
  have hne := M.ne
  refine ⟨_, rfl, x, C, dx, _, _, rfl, hx, T.cl, T.nPast, mf_past, pa, _, rfl, .inl (SqL.of hpa), rfl, _, rfl, ?_⟩
  cases List.eq_nil_or_concat m.past with
  | inl e =>
    have e1 : xs.length = 0 := by rw [hlen, e]; rfl
    rw [e1]
    exact iteD rfl (q1 e H (Same.refl H))
  | inr h =>
    obtain ⟨ps, y, e⟩ := h
    rw [List.concat_eq_append] at e
    refine iteDF (fun z => ?_) ?_
    · injection z with z
      have e1 : xs.length = ps.length + 1 := by rw [hlen, e]; simp
      omega
    rw [e] at hP
    obtain ⟨ea, etv, us, rfl, hea, hetv, hus⟩ := hP.last
    refine ⟨_, rfl, x, C, dx, _, _, rfl, hx, T.cl, T.nPast, mf_past, .inl ⟨rfl, _, SqL.of hpa⟩, pa, _, .ref ea, rfl, rfl, hpa, ?_, ?_⟩
    · show (us ++ [V.ref ea])[(us ++ [V.ref ea]).length - 1]? = some (.ref ea)
      simp
    rw [List.dropLast_concat]
    have tp : Tups H (upd H pa (.lst us)) := Tups.lst hpa
    have hx1 : upd H pa (.lst us) x = some (.ins C dx (mf pv m.l m.z tv pa)) := by
      rw [upd_ne hne]
      exact hx
    have hpa1 : upd H pa (.lst us) pa = some (.lst us) := upd_same
    have k1 : Keep x pa H (upd H pa (.lst us)) := Keep.two (Keep.refl x pa H) _
    have hea1 := tp _ _ hea
    generalize upd H pa (.lst us) = H1 at tp hx1 hpa1 k1 hea1
    have hP1 := hus.tups tp
    refine ⟨ea, _, rfl, SqT.of hea1, rfl, ?_⟩
    refine ⟨_, _, rfl, _, rfl, x, C, dx, _, rfl, hx1, T.cl, T.nStack, (show 5 < 1000 by decide), ?_⟩
    rw [put_stack]
    obtain ⟨k2, t2, hx2, p2⟩ := upx hne hx1 (mf pv y.1 m.z tv pa)
    have hpa2 := p2 _ hpa1
    generalize upd H1 x (.ins C dx (mf pv y.1 m.z tv pa)) = H2 at k2 t2 hx2 hpa2
    refine ⟨_, _, rfl, _, rfl, x, C, dx, _, rfl, hx2, T.cl, T.nSpent, (show 5 < 1000 by decide), ?_⟩
    rw [put_spent]
    obtain ⟨k3, t3, hx3, p3⟩ := upx hne hx2 (mf pv y.1 y.2.1 tv pa)
    have hpa3 := p3 _ hpa2
    generalize upd H2 x (.ins C dx (mf pv y.1 y.2.1 tv pa)) = H3 at k3 t3 hx3 hpa3
    refine ⟨_, _, rfl, _, rfl, x, C, dx, _, rfl, hx3, T.cl, T.nTriple, (show 5 < 1000 by decide), ?_⟩
    rw [put_triple]
    obtain ⟨k4, t4, hx4, p4⟩ := upx hne hx3 (mf pv y.1 y.2.1 etv pa)
    have hpa4 := p4 _ hpa3
    have t14 := t2.trans (t3.trans t4)
    refine ⟨rfl, ?_⟩
    exact q2 ps y e _ (k1.trans (k2.trans (k3.trans k4))) ⟨⟨dx, pv, etv, hx4, hpv.tups (tp.trans t14), hetv.tups (tp.trans t14)⟩, us, hpa4, hP1.tups t14⟩
theorem ok_M_stack (D : Dm K C "stack" "Machine.stack" s_M_stack P_M_stack) (T : MT K C) (g : Gx mg) : C8.Met P w K mg base 1 C "stack" (spMStack C) [] := by
  refine D.met T.cl sc_M_stack (fun vs H Q E h => ?_) (fun f cdv A outer s H vs Q E hr h => ?_)
  · obtain ⟨x, pa, m, rfl, M, q⟩ := h
    rfl
  obtain ⟨x, pa, m, rfl, M, q⟩ := h
  have nd := sc_M_stack.nd
  refine ⟨_, (pss_one (ps_ret (pe_fld (pv 0) rfl))), ?_⟩
  obtain ⟨⟨dx, pv, tv, hx, hpv, htv⟩, xs, hpa, hP⟩ := id M
  exact ⟨_, rfl, x, C, dx, _, _, rfl, hx, T.cl, T.nStack, mf_stack, q H (Same.refl H)⟩
theorem ok_M_spent (D : Dm K C "spent" "Machine.spent" s_M_spent P_M_spent) (T : MT K C) (g : Gx mg) : C8.Met P w K mg base 1 C "spent" (spMSpent C) [] := by
  refine D.met T.cl sc_M_spent (fun vs H Q E h => ?_) (fun f cdv A outer s H vs Q E hr h => ?_)
  · obtain ⟨x, pa, m, rfl, M, q⟩ := h
    rfl
  obtain ⟨x, pa, m, rfl, M, q⟩ := h
  have nd := sc_M_spent.nd
  refine ⟨_, (pss_one (ps_ret (pe_fld (pv 0) rfl))), ?_⟩
  obtain ⟨⟨dx, pv, tv, hx, hpv, htv⟩, xs, hpa, hP⟩ := id M
  exact ⟨_, rfl, x, C, dx, _, _, rfl, hx, T.cl, T.nSpent, mf_spent, q H (Same.refl H)⟩
theorem ok_M_triple (D : Dm K C "triple" "Machine.triple" s_M_triple P_M_triple) (T : MT K C) (g : Gx mg) : C8.Met P w K mg base 1 C "triple" (spMTriple C) [] := by
  refine D.met T.cl sc_M_triple (fun vs H Q E h => ?_) (fun f cdv A outer s H vs Q E hr h => ?_)
  · obtain ⟨x, pa, m, rfl, M, q⟩ := h
    rfl
  obtain ⟨x, pa, m, rfl, M, q⟩ := h
  have nd := sc_M_triple.nd
  refine ⟨_, (pss_one (ps_ret (pe_fld (pv 0) rfl))), ?_⟩
  obtain ⟨⟨dx, pv, tv, hx, hpv, htv⟩, xs, hpa, hP⟩ := id M
  exact ⟨_, rfl, x, C, dx, _, _, rfl, hx, T.cl, T.nTriple, mf_triple, q tv htv⟩
theorem ok_M_deeds (D : Dm K C "deeds" "Machine.deeds" s_M_deeds P_M_deeds) (T : MT K C) (g : Gx mg) : C8.Met P w K mg base 1 C "deeds" (spMDeeds C) [] := by
  refine D.met T.cl sc_M_deeds (fun vs H Q E h => ?_) (fun f cdv A outer s H vs Q E hr h => ?_)
  · obtain ⟨x, pa, m, rfl, M, q⟩ := h
    rfl
  obtain ⟨x, pa, m, rfl, M, q⟩ := h
  have nd := sc_M_deeds.nd
  refine ⟨_, (pss_one (ps_ret (pe_callB call_len_seq rfl g.len PySem.boot_len (pa_cons (pe_fld (pv 0) rfl) pa_nil)))), ?_⟩
  obtain ⟨⟨dx, pv, tv, hx, hpv, htv⟩, xs, hpa, hP⟩ := id M
  have q1 := q H (Same.refl H)
  rw [← hP.len] at q1
  exact ⟨_, rfl, x, C, dx, _, _, rfl, hx, T.cl, T.nPast, mf_past, pa, _, rfl, .inl (SqL.of hpa), q1⟩
theorem ok_M_init (D : Di K mg C "Machine" "Machine.__init__" s_M_init P_M_init) (T : MT K C) (g : Gx mg) (c_check_plan : C8.Cal P w K mg base 3 "check_plan" spChPlan []) (c_check_stack : C8.Cal P w K mg base 3 "check_stack" spChStack []) (c_untouched : C8.Cal P w K mg base 1 "untouched" spUnt []) : C8.Mak P w K mg base 4 "Machine" C (spMInit C) [] := by
  refine D.mak sc_M_init (fun vs H Q E h => ?_) (fun f cdv A outer s H vs Q E hr h => ?_)
  · obtain ⟨x, dx, v, p, l, rfl, hx, hp, ok, hl, hs, q⟩ := h
    rfl
  obtain ⟨x, dx, v, p, l, rfl, hx, hp, ok, hl, hs, q⟩ := h
  have nd := sc_M_init.nd
  refine ⟨_, (pss_cons (ps_expr (C8.pe_c c_check_plan hr (by decide) rfl (pa_cons (pv 1) pa_nil)))
    (pss_cons (ps_expr (C8.pe_c c_check_stack hr (by decide) rfl (pa_cons (pv 1) (pa_cons (pv 2) pa_nil))))
    (pss_cons (ps_fld (pv 0) (pv 1) rfl)
    (pss_cons (ps_fld (pv 0) (pv 2) rfl)
    (pss_cons (ps_fld (pv 0) pe_int rfl)
    (pss_cons (ps_fld (pv 0) (C8.pe_c c_untouched hr (by decide) rfl (pa_cons (pv 1) pa_nil)) rfl)
    (pss_one (ps_fld (pv 0) (pe_lst pa_nil) rfl)))))))), ?_⟩
  refine ⟨_, rfl, v, p, rfl, hp, ok, fun H1 s1 => ?_⟩
  refine ⟨_, rfl, _, rfl, v, p, l, rfl, hp.mono s1, ok, hl, hs, fun H2 s2 => ?_⟩
  have s12 := s1.trans s2
  have hx2 := s12 _ _ hx
  have tx2 : ∀ {H' : Hp} {fs : List (Str × V)}, H' x = some (.ins C dx fs) → ∀ fs', Tups H' (upd H' x (.ins C dx fs')) := fun {H' fs} h fs' =>
    ⟨fun b ys e1 => by rw [upd_ne (ne_of e1 h (by intro z; cases z))]; exact e1, fun b o ys e1 => by rw [upd_ne (ne_of e1 h (by intro z; cases z))]; exact e1⟩
  refine ⟨_, rfl, _, rfl, x, C, dx, _, rfl, hx2, T.cl, T.nPlan, (show 0 < 1000 by decide), ?_⟩
  refine ⟨_, rfl, _, rfl, x, C, dx, _, rfl, upd_same, T.cl, T.nStack, (show 1 < 1000 by decide), ?_⟩
  refine ⟨_, rfl, x, C, dx, _, rfl, upd_same, T.cl, T.nSpent, ?_, ?_⟩
  · simp [putF, sy n_st_pl]
  have k3 : ∀ b o, H b = some o → b ≠ x → upd (upd (upd H2 x (.ins C dx (putF "_plan" v []))) x (.ins C dx (putF "_stack" (.str (tx l)) (putF "_plan" v [])))) x (.ins C dx (putF "_spent" (.int 0) (putF "_stack" (.str (tx l)) (putF "_plan" v [])))) b = some o := fun b o e n => by
    rw [upd_ne n, upd_ne n, upd_ne n]
    exact s12 _ _ e
  have hx3 : upd (upd (upd H2 x (.ins C dx (putF "_plan" v []))) x (.ins C dx (putF "_stack" (.str (tx l)) (putF "_plan" v [])))) x (.ins C dx (putF "_spent" (.int 0) (putF "_stack" (.str (tx l)) (putF "_plan" v [])))) x = some (.ins C dx (putF "_spent" (.int 0) (putF "_stack" (.str (tx l)) (putF "_plan" v [])))) := upd_same
  have t3 : Tups H (upd (upd (upd H2 x (.ins C dx (putF "_plan" v []))) x (.ins C dx (putF "_stack" (.str (tx l)) (putF "_plan" v [])))) x (.ins C dx (putF "_spent" (.int 0) (putF "_stack" (.str (tx l)) (putF "_plan" v []))))) :=
    (Tups.of s12).trans ((tx2 hx2 _).trans ((tx2 upd_same _).trans (tx2 upd_same _)))
  generalize upd (upd (upd H2 x (.ins C dx (putF "_plan" v []))) x (.ins C dx (putF "_stack" (.str (tx l)) (putF "_plan" v [])))) x (.ins C dx (putF "_spent" (.int 0) (putF "_stack" (.str (tx l)) (putF "_plan" v [])))) = H3 at k3 hx3 t3
  refine ⟨_, rfl, v, p, rfl, hp.tups t3, fun H4 v4 s4 h4 => ?_⟩
  have hx4 := s4 _ _ hx3
  refine ⟨_, rfl, x, C, dx, _, rfl, hx4, T.cl, T.nTriple, ?_, ?_⟩
  · simp [putF, sy n_st_pl, sy n_sp_pl, sy n_sp_st]
  have t5 := (tx2 hx4 (putF "_triple" v4 (putF "_spent" (.int 0) (putF "_stack" (.str (tx l)) (putF "_plan" v [])))))
  refine ⟨by show 0 ≤ sizeLine; decide, fun pa hpa => ?_⟩
  have hnx : x ≠ pa := ne_of_none upd_same hpa
  have npa : H pa = none := by
    cases e : H pa with
    | none => rfl
    | some o =>
      rw [upd_ne hnx.symm, s4 _ _ (k3 _ _ e hnx.symm)] at hpa
      cases hpa
  have s6 := Same.new hpa (.lst [])
  refine ⟨_, rfl, x, C, dx, _, rfl, s6 _ _ upd_same, T.cl, T.nPast, ?_, ?_⟩
  · simp [putF, sy n_st_pl, sy n_sp_pl, sy n_sp_st, sy n_tr_pl, sy n_tr_st, sy n_tr_sp]
  rw [mf_new v]
  refine q _ pa (fun b o e n => ?_) npa ⟨⟨dx, v, v4, upd_same, ?_, ?_⟩, [], ?_, rfl⟩
  · rw [upd_ne n]
    refine s6 _ _ ?_
    rw [upd_ne n]
    exact s4 _ _ (k3 _ _ e n)
  · exact hp.tups (t3.trans ((Tups.of s4).trans (t5.trans ((Tups.of s6).trans (tx2 (s6 _ _ upd_same) _)))))
  · exact h4.tups (t5.trans ((Tups.of s6).trans (tx2 (s6 _ _ upd_same) _)))
  · rw [upd_ne hnx.symm]
    exact upd_same
theorem ok_alike (D : Dn K mg "alike" s_alike P_alike) (g : Gx mg) (c_check_plan : C8.Cal P w K mg base 3 "check_plan" spChPlan []) (c_check_work : C8.Cal P w K mg base 3 "check_work" spChWork []) (c_triple_of_work : C8.Cal P w K mg base 11 "triple_of_work" (spTri 8) []) : C8.Cal P w K mg base 12 "alike" spAlikeW [] := by
  refine D.cal sc_alike (fun vs H Q E h => ?_) (fun f cdv A outer s H vs Q E hr h => ?_)
  · obtain ⟨v, p, a, b, t, u, rfl, hp, ok, ha, ta, hb, tb, q⟩ := h
    rfl
  obtain ⟨v, p, a, b, t, u, rfl, hp, ok, ha, ta, hb, tb, q⟩ := h
  have nd := sc_alike.nd
  refine ⟨_, (pss_cons (ps_expr (C8.pe_c c_check_plan hr (by decide) rfl (pa_cons (pv 0) pa_nil)))
    (pss_cons (ps_expr (C8.pe_c c_check_work hr (by decide) rfl (pa_cons (pv 0) (pa_cons (pv 1) pa_nil))))
    (pss_cons (ps_expr (C8.pe_c c_check_work hr (by decide) rfl (pa_cons (pv 0) (pa_cons (pv 2) pa_nil))))
    (pss_one (ps_ret (pe_cmpR (op_eqD hr.units) (C8.pe_c c_triple_of_work hr (by decide) rfl (pa_cons (pv 0) (pa_cons (pv 1) pa_nil))) (C8.pe_c c_triple_of_work hr (by decide) rfl (pa_cons (pv 0) (pa_cons (pv 2) pa_nil))) (nomark _))))))), ?_⟩
  refine ⟨_, rfl, v, p, rfl, hp, ok, fun H1 s1 => ?_⟩
  refine ⟨_, rfl, _, rfl, v, p, a, t, rfl, hp.mono s1, ok, ha.tups (Tups.of s1), ta, fun H2 s2 => ?_⟩
  have s12 := s1.trans s2
  refine ⟨_, rfl, _, rfl, v, p, b, u, rfl, hp.mono s12, ok, hb.tups (Tups.of s12), tb, fun H3 s3 => ?_⟩
  have s13 := s12.trans s3
  refine ⟨_, rfl, _, rfl, v, p, a, t, rfl, hp.mono s13, ok, ha.tups (Tups.of s13), ta.can, ta.dep, fun H4 v4 s4 h4 => ?_⟩
  have s14 := s13.trans s4
  refine ⟨_, rfl, _, rfl, v, p, b, u, rfl, hp.mono s14, ok, hb.tups (Tups.of s14), tb.can, tb.dep, fun H5 v5 s5 h5 => ?_⟩
  exact eq_trip (W.tri_ok (room := p.room) ok.r1 t ta.can) (W.tri_ok (room := p.room) ok.r1 u tb.can) (h4.mono s5) h5 fun k hk => q k H5 (s14.trans s5) hk
theorem ok_parting (D : Dn K mg "parting" s_parting P_parting) (g : Gx mg) (c_check_plan : C8.Cal P w K mg base 3 "check_plan" spChPlan []) (c_check_work : C8.Cal P w K mg base 3 "check_work" spChWork []) (c_triple_of_work : C8.Cal P w K mg base 11 "triple_of_work" (spTri 8) []) (c_stack_behind : C8.Cal P w K mg base 2 "stack_behind" spBehind []) : C8.Cal P w K mg base 12 "parting" spParting [] := by
  refine D.cal sc_parting (fun vs H Q E h => ?_) (fun f cdv A outer s H vs Q E hr h => ?_)
  · obtain ⟨v, p, a, b, t, u, rfl, hp, ok, ha, ta, hb, tb, q1, q2⟩ := h
    rfl
  obtain ⟨v, p, a, b, t, u, rfl, hp, ok, ha, ta, hb, tb, q1, q2⟩ := h
  have nd := sc_parting.nd
  refine ⟨_, (pss_cons (ps_expr (C8.pe_c c_check_plan hr (by decide) rfl (pa_cons (pv 0) pa_nil)))
    (pss_cons (ps_expr (C8.pe_c c_check_work hr (by decide) rfl (pa_cons (pv 0) (pa_cons (pv 1) pa_nil))))
    (pss_cons (ps_expr (C8.pe_c c_check_work hr (by decide) rfl (pa_cons (pv 0) (pa_cons (pv 2) pa_nil))))
    (pss_cons (ps_set (i := 3) nd rfl (.inl rfl) (C8.pe_c c_triple_of_work hr (by decide) rfl (pa_cons (pv 0) (pa_cons (pv 1) pa_nil))))
    (pss_cons (ps_set (i := 4) nd rfl (.inl rfl) (C8.pe_c c_triple_of_work hr (by decide) rfl (pa_cons (pv 0) (pa_cons (pv 2) pa_nil))))
    (pss_cons (ps_for PassesOwn.never rfl (pi_range1 (by rfl) g.range (pa_cons (pe_op op_add (pe_ix ix_tup (pv 0) pe_int (fun _ _ => rfl)) pe_int) pa_nil)) (pg_name (i := 5) nd rfl (.inl rfl)) (pss_cons (ps_set (i := 6) nd rfl (.inl rfl) (pe_op op_mulS (pe_ix ix_str (C8.pe_gc rfl g.SIGNS) pe_int (fun _ _ => rfl)) (pv 5)))
    (pss_one (ps_if (pt_cmpR op_ne (C8.pe_c c_stack_behind hr (by decide) rfl (pa_cons (pv 3) (pa_cons (pv 6) pa_nil))) (C8.pe_c c_stack_behind hr (by decide) rfl (pa_cons (pv 4) (pa_cons (pv 6) pa_nil))) (nomark _)) (pss_one (ps_ret (pv 6))) pss_nil))))
    (pss_one (ps_ret pe_non)))))))), ?_⟩
  have h9 := ok.r9
  obtain ⟨pa, pb, rfl, hpa, hpb⟩ := id hp
  refine ⟨_, rfl, _, p, rfl, hp, ok, fun H1 s1 => ?_⟩
  refine ⟨_, rfl, _, rfl, _, p, a, t, rfl, hp.mono s1, ok, ha.tups (Tups.of s1), ta, fun H2 s2 => ?_⟩
  have s12 := s1.trans s2
  refine ⟨_, rfl, _, rfl, _, p, b, u, rfl, hp.mono s12, ok, hb.tups (Tups.of s12), tb, fun H3 s3 => ?_⟩
  have s13 := s12.trans s3
  refine ⟨_, rfl, _, rfl, _, p, a, t, rfl, hp.mono s13, ok, ha.tups (Tups.of s13), ta.can, ta.dep, fun H4 v4 s4 h4 => ?_⟩
  have s14 := s13.trans s4
  refine ⟨_, rfl, _, rfl, _, p, b, u, rfl, hp.mono s14, ok, hb.tups (Tups.of s14), tb.can, tb.dep, fun H5 v5 s5 h5 => ?_⟩
  have s15 := s14.trans s5
  have o1 := W.tri_ok (room := p.room) ok.r1 t ta.can
  have o2 := W.tri_ok (room := p.room) ok.r1 u tb.can
  have k1 := o1.kl
  have k2 := o2.kl
  have h4' := h4.mono s5
  refine ⟨_, rfl, pa, _, 0, _, rfl, rfl, SqT.of (s15 _ _ hpa), rfl, _, _, rfl, rfl, _, rfl, by omega, by omega, ?_⟩
  refine for_range (lo := 0) (fun i σ H6 => ∃ (o5 o6 : Option V), σ = [some (.ref pa), some a, some b, some v4, some v5, o5, o6] ∧ Same H5 H6 ∧ ∀ s', s' < i → tby (t.tri p.room) (List.replicate s' 97) = tby (u.tri p.room) (List.replicate s' 97))
    ⟨none, none, rfl, Same.refl _, fun s' h => absurd h (Nat.not_lt_zero _)⟩ ?_ ?_
  · rintro i σ H6 hi ⟨o5, o6, rfl, s6, hlt⟩
    have hi' : i ≤ p.room := by omega
    have erep : (List.replicate i [97]).flatten = List.replicate i 97 := by
      clear hlt hi hi'
      induction i with
      | zero => rfl
      | succ i ih => rw [List.replicate_succ, List.flatten_cons, ih, List.replicate_succ]; rfl
    have hlen : (List.replicate i 97).length = i := List.length_replicate
    refine ⟨("abcd" : Str) |> fun _ => tx [97, 98, 99, 100], 0, 97, rfl, rfl, by rw [tx_len]; exact sz (by decide), rfl, _, rfl, [97], i, rfl, (by show V.int (0 + (i : Int)) = _; rw [Int.zero_add]), by show 1 * i ≤ _; omega, by omega, ?_⟩
    rw [erep]
    refine ⟨_, rfl, _, rfl, v4, t.tri p.room, List.replicate i 97, rfl, h4'.mono s6, by omega, by omega, fun H7 s7 => ?_⟩
    refine ⟨_, rfl, _, rfl, v5, u.tri p.room, List.replicate i 97, rfl, h5.mono (s6.trans s7), by omega, by omega, fun H8 s8 => ?_⟩
    have s58 := s6.trans (s7.trans s8)
    refine ⟨rfl, _, rfl, ?_⟩
    by_cases e : tby (t.tri p.room) (List.replicate i 97) = tby (u.tri p.room) (List.replicate i 97)
    · rw [e]
      refine iteNS rfl ?_
      refine ⟨_, _, rfl, s58, fun s' h => ?_⟩
      by_cases e2 : s' = i
      · subst e2
        exact e
      · exact hlt s' (by omega)
    · have e3 : decide (V.str (tx (tby (t.tri p.room) (List.replicate i 97))) = V.str (tx (tby (u.tri p.room) (List.replicate i 97)))) = false := decide_eq_false fun z => by
        injection z with z
        exact e (str_inj.mp z)
      rw [e3]
      refine iteT ?_
      exact ⟨_, rfl, q1 i H8 (s15.trans s58) hi' e hlt⟩
  · rintro σ H6 ⟨o5, o6, rfl, s6, hlt⟩
    exact q2 H6 (s15.trans s6) fun s hs => hlt s (by omega)
theorem mulNN {a b c : Nat} (h : a * b = c) : ((a : Int) * (b : Int)) = ((c : Nat) : Int) := by
  rw [← h, Int.natCast_mul]
theorem ok_texts_of_size (D : Dn K mg "texts_of_size" s_texts_of_size P_texts_of_size) (g : Gx mg) : C8.Cal P w K mg base 1 "texts_of_size" spSize [] := by
  refine D.cal sc_texts_of_size (fun vs H Q E h => ?_) (fun f cdv A outer s H vs Q E hr h => ?_)
  · obtain ⟨many, n, rfl, hm, hn, q⟩ := h
    rfl
  obtain ⟨many, n, rfl, hm, hn, q⟩ := h
  have nd := sc_texts_of_size.nd
  refine ⟨_, (pss_cons (ps_set (i := 2) nd rfl (.inl rfl) pe_int)
    (pss_cons (ps_for PassesOwn.never rfl (pi_range1 (by rfl) g.range (pa_cons (pv 1) pa_nil)) (pg_name (i := 3) nd rfl (.inl rfl)) (pss_one (ps_set (i := 2) nd rfl (.inl rfl) (pe_op op_mul (pv 2) (pv 0)))))
    (pss_one (ps_ret (pv 2))))), ?_⟩
  refine ⟨_, rfl, _, rfl, by omega, by omega, ?_⟩
  refine for_range (lo := 0) (fun i σ H2 => ∃ (o : Option V), σ = [some (.int (many : Int)), some (.int (n : Int)), some (.int ((many ^ i : Nat) : Int)), o] ∧ H2 = H)
    ⟨none, rfl, rfl⟩ ?_ ?_
  · rintro i σ H2 hi ⟨o, rfl, rfl⟩
    have h9 := pow_le9 hm (n := i) (by omega)
    refine ⟨_, rfl, _, rfl, _, _, rfl, rfl, .inl (mulZ (b := 0) (by omega)), some (.int (0 + (i : Int))), ?_, rfl⟩
    rw [← mulNN (Nat.pow_succ (n := many) (m := i)).symm]
    rfl
  · rintro σ H2 ⟨o, rfl, rfl⟩
    have e : ((n : Int)).toNat = n := by omega
    rw [e]
    exact ⟨_, rfl, q H2 (Same.refl _)⟩
theorem ok_texts_up_to (D : Dn K mg "texts_up_to" s_texts_up_to P_texts_up_to) (g : Gx mg) (c_texts_of_size : C8.Cal P w K mg base 1 "texts_of_size" spSize []) : C8.Cal P w K mg base 2 "texts_up_to" spUpto [] := by
  refine D.cal sc_texts_up_to (fun vs H Q E h => ?_) (fun f cdv A outer s H vs Q E hr h => ?_)
  · obtain ⟨many, n, rfl, hm, hn, q⟩ := h
    rfl
  obtain ⟨many, n, rfl, hm, hn, q⟩ := h
  have nd := sc_texts_up_to.nd
  refine ⟨_, (pss_one (ps_ret (pe_callB (cr_sum rfl) rfl g.sum b_sum (pa_cons (pe_lc (own := [("size", 2)]) rfl nd (pi_range1 (by rfl) g.range (pa_cons (pe_op op_add (pv 1) pe_int) pa_nil)) (blkOk_by (own := [("size", 2)]) (N := N_texts_up_to) (sc := defScope s_texts_up_to) (by decide +kernel)) (fun _ _ _ _ _ => (pg_name (i := 2) nd rfl (.inl rfl))) (fun _ _ _ _ _ => pts_nil) (fun _ _ _ _ _ => (C8.pe_c c_texts_of_size (by exact hr) (by decide) rfl (pa_cons (pv 0) (pa_cons (pv 2) pa_nil))))) pa_nil)))), ?_⟩
  refine ⟨_, rfl, _, _, rfl, rfl, ?_⟩
  refine ⟨(n : Int) + 1, rfl, by omega, by omega, fun D hD => ?_⟩
  have e : ((n : Int) + 1).toNat = n + 1 := by omega
  rw [e]
  refine lc_range (lo := 0) (fun i H2 => Same H H2 ∧ H2 D = some (.lst (((List.range i).map fun i => ((many ^ i : Nat) : Int)).map V.int))) ⟨Same.new hD _, upd_same⟩ ?_ ?_
  · rintro i H2 hi ⟨s2, h2⟩
    refine ⟨rfl, ?_⟩
    refine ⟨_, rfl, _, rfl, many, i, by rw [Int.zero_add]; rfl, hm, by omega, fun H3 s3 => ⟨_, s3 _ _ h2, ?_, fun b o e => ?_, ?_⟩⟩
    · rw [List.length_map, List.length_map, List.length_range]
      exact szl (by omega)
    · rw [upd_ne (ne_of_none e hD)]
      exact s3 _ _ (s2 b o e)
    · rw [upd_same, List.range_succ, List.map_append, List.map_append]
      rfl
  · rintro H2 ⟨s2, h2⟩
    refine ⟨D, _, rfl, SqL.of h2, ?_⟩
    have e : ((List.range (n + 1)).map fun i => ((many ^ i : Nat) : Int)).sum = ((tupto many n : Nat) : Int) := by
      rw [← tupto_sum]
      generalize List.range (n + 1) = l
      induction l with
      | nil => rfl
      | cons x r ih => rw [List.map_cons, List.sum_cons, ih, List.map_cons, List.sum_cons, Int.natCast_add]
    rw [e]
    exact q H2 s2
theorem ok_how_many_left (D : Dn K mg "how_many_left" s_how_many_left P_how_many_left) (g : Gx mg) (c_texts_up_to : C8.Cal P w K mg base 2 "texts_up_to" spUpto []) (c_texts_of_size : C8.Cal P w K mg base 1 "texts_of_size" spSize []) : C8.Cal P w K mg base 3 "how_many_left" spLeft [] := by
  refine D.cal sc_how_many_left (fun vs H Q E h => ?_) (fun f cdv A outer s H vs Q E hr h => ?_)
  · obtain ⟨v, p, gq, k, u, rfl, ⟨a, b, rfl, ha, hb⟩, ok, hgk, q⟩ := h
    rfl
  obtain ⟨v, p, gq, k, u, rfl, ⟨a, b, rfl, ha, hb⟩, ok, hgk, q⟩ := h
  have nd := sc_how_many_left.nd
  refine ⟨_, (pss_cons (ps_par (i := 4) (j := 5) (by rfl) nd rfl rfl (by decide) rfl rfl (pa_cons (pe_ix ix_tup (pv 0) pe_int (fun _ _ => rfl)) (pa_cons (pe_ix ix_tup (pv 0) pe_int (fun _ _ => rfl)) pa_nil)) (by rfl))
    (pss_cons (ps_if (pt_cmpR op_eq (pv 2) pe_int (nomark _)) (pss_one (ps_ret (C8.pe_c c_texts_up_to hr (by decide) rfl (pa_cons (pv 5) (pa_cons (pv 4) pa_nil))))) pss_nil)
    (pss_cons (ps_if (pt_cmpR op_eq (pv 3) pe_int (nomark _)) (pss_one (ps_ret (C8.pe_c c_texts_up_to hr (by decide) rfl (pa_cons (pv 5) (pa_cons (pv 1) pa_nil))))) pss_nil)
    (pss_cons (ps_if (pt_cmpR op_lt (pv 3) (pv 2) (nomark _)) (pss_one (ps_ret (C8.pe_c c_texts_of_size hr (by decide) rfl (pa_cons (pv 5) (pa_cons (pv 1) pa_nil))))) pss_nil)
    (pss_one (ps_ret (pe_op op_mul (C8.pe_c c_texts_of_size hr (by decide) rfl (pa_cons (pv 5) (pa_cons (pv 1) pa_nil))) (C8.pe_c c_texts_up_to hr (by decide) rfl (pa_cons (pv 5) (pa_cons (pe_op op_sub (pe_op op_sub (pv 4) (pv 2)) (pv 1)) pa_nil)))))))))), ?_⟩
  have hr9 := ok.r9
  have m4 := ok.m4
  refine ⟨_, rfl, a, _, 0, _, rfl, rfl, SqT.of ha, rfl, _, rfl, a, _, 1, _, rfl, rfl, SqT.of ha, rfl, _, _, rfl, ?_⟩
  refine ⟨_, rfl, rfl, _, rfl, ite2 (fun c => ?_) (fun c => ?_)⟩
  · have k0 : k = 0 := by
      have c1 := of_decide_eq_true c
      injection c1 with c2
      omega
    refine ⟨_, rfl, _, rfl, p.many, p.room, rfl, m4, hr9, fun H1 s1 => ?_⟩
    have e : bleft p.room p.many gq k u = tupto p.many p.room := by
      unfold bleft
      rw [if_pos k0]
    rw [e] at q
    exact q H1 s1
  have k0 : ¬ k = 0 := fun z => by
    subst z
    exact c (decide_eq_true rfl)
  refine ⟨_, rfl, rfl, _, rfl, ite2 (fun c => ?_) (fun c => ?_)⟩
  · have u0 : u = 0 := by
      have c1 := of_decide_eq_true c
      injection c1 with c2
      omega
    refine ⟨_, rfl, _, rfl, p.many, gq, rfl, m4, by omega, fun H1 s1 => ?_⟩
    have e : bleft p.room p.many gq k u = tupto p.many gq := by
      unfold bleft
      rw [if_neg k0, if_pos u0]
    rw [e] at q
    exact q H1 s1
  have u0 : ¬ u = 0 := fun z => by
    subst z
    exact c (decide_eq_true rfl)
  refine ⟨_, rfl, _, rfl, _, _, rfl, rfl, _, rfl, ite2 (fun c => ?_) (fun c => ?_)⟩
  · have uk : u < k := by
      have c1 := of_decide_eq_true c
      omega
    refine ⟨_, rfl, _, rfl, p.many, gq, rfl, m4, by omega, fun H1 s1 => ?_⟩
    have e : bleft p.room p.many gq k u = p.many ^ gq := by
      unfold bleft
      rw [if_neg k0, if_neg u0, if_pos uk]
    rw [e] at q
    exact q H1 s1
  have uk : ¬ u < k := fun z => c (decide_eq_true (by omega))
  refine ⟨_, rfl, _, rfl, p.many, gq, rfl, m4, by omega, fun H1 s1 => ?_⟩
  have e1 : (p.room : Int) - (k : Int) - (gq : Int) = ((p.room - k - gq : Nat) : Int) := by omega
  refine ⟨_, rfl, _, rfl, _, rfl, _, _, rfl, rfl, _, rfl, _, _, rfl, rfl, p.many, p.room - k - gq, (by show [V.int (p.many : Int), V.int ((p.room : Int) - (k : Int) - (gq : Int))] = _; rw [e1]), m4, by omega, fun H2 s2 => ?_⟩
  have h9 := pow_le9 m4 (n := gq) (by omega)
  refine ⟨_, _, rfl, rfl, .inl (mulZ (b := 0) (by omega)), ?_⟩
  show Q (.int (((p.many ^ gq : Nat) : Int) * ((tupto p.many (p.room - k - gq) : Nat) : Int))) H2
  rw [mulNN rfl]
  have e : bleft p.room p.many gq k u = p.many ^ gq * tupto p.many (p.room - k - gq) := by
    unfold bleft
    rw [if_neg k0, if_neg u0, if_neg uk]
  rw [e] at q
  exact q H2 (s1.trans s2)
theorem ok_befores (D : Dn K mg "befores" s_befores P_befores) (g : Gx mg) (c_check_plan : C8.Cal P w K mg base 3 "check_plan" spChPlan []) (c_check_triple : C8.Cal P w K mg base 3 "check_triple" spChTriple []) (c_check_stack : C8.Cal P w K mg base 3 "check_stack" spChStack []) (c_how_many_left : C8.Cal P w K mg base 3 "how_many_left" spLeft []) : C8.Cal P w K mg base 4 "befores" spBefores [] := by
  refine D.cal sc_befores (fun vs H Q E h => ?_) (fun f cdv A outer s H vs Q E hr h => ?_)
  · obtain ⟨v, p, u, t, l, rfl, hp, ok, ht, tok, hl, hs, q⟩ := h
    rfl
  obtain ⟨v, p, u, t, l, rfl, hp, ok, ht, tok, hl, hs, q⟩ := h
  have nd := sc_befores.nd
  refine ⟨_, (pss_cons (ps_expr (C8.pe_c c_check_plan hr (by decide) rfl (pa_cons (pv 0) pa_nil)))
    (pss_cons (ps_expr (C8.pe_c c_check_triple hr (by decide) rfl (pa_cons (pv 0) (pa_cons (pv 1) pa_nil))))
    (pss_cons (ps_expr (C8.pe_c c_check_stack hr (by decide) rfl (pa_cons (pv 0) (pa_cons (pv 2) pa_nil))))
    (pss_cons (ps_asg (pv 1) (pg_tup (by rfl) (pgs_cons (pg_name (i := 3) nd rfl (.inl rfl)) (pgs_cons (pg_name (i := 4) nd rfl (.inl rfl)) (pgs_cons (pg_name (i := 5) nd rfl (.inl rfl)) pgs_nil)))))
    (pss_cons (ps_if (pt_not (pt_val (pe_bm PySem.F.plainAttrs_str PySem.F.slot_str_endswith PySem.F.type_str_endswith mt_endswith (pv 2) (pa_cons (pv 5) pa_nil)))) (pss_one (ps_ret (pe_tup (pa_cons pe_int (pa_cons pe_non pa_nil))))) pss_nil)
    (pss_cons (ps_set (i := 6) nd rfl (.inl rfl) (pe_slice sl_str (pv 2) po_none (po_some (pe_op op_sub (pe_callB call_len_str rfl g.len PySem.boot_len (pa_cons (pv 2) pa_nil)) (pe_callB call_len_str rfl g.len PySem.boot_len (pa_cons (pv 5) pa_nil))))))
    (pss_cons (ps_if (pt_cmpR op_gt (pe_callB call_len_str rfl g.len PySem.boot_len (pa_cons (pv 6) pa_nil)) (pv 4) (nomark _)) (pss_one (ps_ret (pe_tup (pa_cons pe_int (pa_cons pe_non pa_nil))))) pss_nil)
    (pss_cons (ps_set (i := 7) nd rfl (.inl rfl) (pe_ifExp (pt_truth (pv 6) (by intro _; rfl)) (pe_op op_add_str (pv 6) (pe_op op_mulS (pe_ix ix_str (C8.pe_gc rfl g.SIGNS) pe_int (fun _ _ => rfl)) (pv 3))) pe_str))
    (pss_one (ps_ret (pe_tup (pa_cons (C8.pe_c c_how_many_left hr (by decide) rfl (pa_cons (pv 0) (pa_cons (pv 3) (pa_cons (pv 4) (pa_cons (pe_callB call_len_str rfl g.len PySem.boot_len (pa_cons (pv 6) pa_nil)) pa_nil))))) (pa_cons (pv 7) pa_nil))))))))))))), ?_⟩
  have hr9 := ok.r9
  have m4 := ok.m4
  have m1 := ok.m1
  have gk := tok.gk
  have kl := tok.kl
  refine ⟨_, rfl, v, p, rfl, hp, ok, fun H1 s1 => ?_⟩
  refine ⟨_, rfl, _, rfl, v, p, u, t, rfl, hp.mono s1, ok, ht.mono s1, tok, fun H2 s2 => ?_⟩
  have s12 := s1.trans s2
  refine ⟨_, rfl, _, rfl, v, p, l, rfl, hp.mono s12, ok, hl, hs, fun H3 s3 => ?_⟩
  have s13 := s12.trans s3
  obtain ⟨ta, rfl, hta⟩ := ht.mono s13
  have hp3 := hp.mono s13
  refine ⟨_, rfl, ta, _, rfl, SqT.of hta, rfl, _, _, rfl, _, _, rfl, _, _, rfl, rfl, ?_⟩
  have none_ : bef p.room p.many t l = [] → ∀ H' w, Same H3 H' → H' w = some (.tup [.int 0, .non]) → Q (.ref w) H' := fun e H' w s' hw => by
    refine q H' (.ref w) (s13.trans s') ⟨w, rfl, ?_⟩
    rw [e]
    exact hw
  refine ⟨_, rfl, rfl, _, rfl, tx l, tx t.l, rfl, rfl, _, rfl, ?_⟩
  rw [ends_app]
  by_cases hsuf : t.l <:+ l
  · rw [decide_eq_true hsuf]
    refine iteF ?_
    obtain ⟨w, rfl⟩ := hsuf
    have hwl : w.length + t.l.length = (w ++ t.l).length := (List.length_append ..).symm
    have e1 : (((tx (w ++ t.l)).length : Nat) : Int) - (((tx t.l).length : Nat) : Int) = ((w.length : Nat) : Int) := by
      rw [tx_len, tx_len]
      omega
    refine ⟨_, rfl, _, rfl, _, rfl, by rw [tx_len]; exact sz (by omega), _, rfl, _, rfl, by rw [tx_len]; exact sz (by omega), _, _, rfl, rfl, _, rfl, _, rfl, by rw [tx_len]; exact sz (by omega), ?_⟩
    rw [e1, cut_to (by omega), List.take_left]
    refine ⟨_, rfl, _, rfl, by rw [tx_len]; exact sz (by omega), _, rfl, _, _, rfl, rfl, _, rfl, ite2 (fun c => ?_) (fun c => ?_)⟩
    · have hk : t.k < w.length := by
        have := of_decide_eq_true c
        rw [tx_len] at this
        omega
      refine ⟨by show 2 ≤ sizeLine; decide, fun E hE => ?_⟩
      refine none_ (bef_no fun ⟨u2, h1, h2⟩ => ?_) _ E (Same.new hE _) upd_same
      have h3 := List.append_cancel_right h2
      subst h3
      omega
    · have hk : w.length ≤ t.k := by
        rcases Nat.lt_or_ge t.k w.length with h | h
        · exact absurd (decide_eq_true (by rw [tx_len]; omega)) c
        · exact h
      have hws : ∀ c ∈ w, c ∈ signs p.many := fun c hc => hs c (List.mem_append_left _ hc)
      obtain ⟨b1, b2⟩ := bef_is tok m1 m4 hk hws
      have last : ∀ σ2, σ2 = [some v, some (.ref ta), some (.str (tx (w ++ t.l))), some (.int (t.g : Int)), some (.int (t.k : Int)), some (.str (tx t.l)), some (.str (tx w)), some (.str (tx (bfirst t.g w)))] →
          tRet (tTup (tCons (tCall spLeft [] C8.E0 (tCons (tVar 0) (tCons (tVar 3) (tCons (tVar 4) (tCons (tCB (fun xs H Q => ∃ a, xs = [.str a] ∧ a.length ≤ sizeLine ∧ Q (.int (a.length : Int)) H) (tCons (tVar 6) tNil)) tNil))))) (tCons (tVar 7) tNil))) { nx := fun _ H' => Q .non H', rt := Q } σ2 H3 := fun σ2 e => by
        subst e
        refine ⟨_, rfl, _, rfl, _, rfl, _, rfl, _, rfl, by rw [tx_len]; exact sz (by omega), v, p, t.g, t.k, w.length, (by rw [tx_len]; rfl), hp3, ok, gk, fun H4 s4 => ?_⟩
        refine ⟨_, rfl, by show 2 ≤ sizeLine; decide, fun E hE => ?_⟩
        refine q _ _ (s13.trans (s4.trans (Same.new hE _))) ⟨E, rfl, ?_⟩
        rw [upd_same, b1, b2]
        rfl
      refine ⟨_, rfl, _, ⟨by rw [tx_len]; exact sz (by omega), rfl⟩, ?_⟩
      by_cases hw : w = []
      · subst hw
        refine iteF ?_
        refine last _ ?_
        rw [← s_empty]
        rfl
      · have e2 : ((((tx w).length : Nat) : Int) != 0) = true := by
          rw [tx_len]
          have : w.length ≠ 0 := fun z => hw (List.length_eq_zero_iff.mp z)
          exact bne_iff_ne.mpr (by omega)
        rw [e2]
        refine iteT ?_
        have erep : ∀ n : Nat, (List.replicate n [97]).flatten = List.replicate n 97 := fun n => by
          induction n with
          | zero => rfl
          | succ n ih => rw [List.replicate_succ, List.flatten_cons, ih, List.replicate_succ]; rfl
        refine ⟨_, rfl, tx [97, 98, 99, 100], 0, 97, rfl, rfl, by rw [tx_len]; exact sz (by decide), rfl, _, rfl, [97], t.g, rfl, rfl, by show 1 * t.g ≤ _; omega, by omega, ?_⟩
        rw [erep]
        refine ⟨_, _, rfl, rfl, by rw [tx_len, tx_len, List.length_replicate]; exact sz (by omega), ?_⟩
        rw [tx_app]
        refine last _ ?_
        unfold bfirst
        rw [if_neg hw]
        rfl
  · rw [decide_eq_false hsuf]
    refine iteT ?_
    refine ⟨by show 2 ≤ sizeLine; decide, fun E hE => ?_⟩
    exact none_ (bef_no fun ⟨u2, h1, h2⟩ => hsuf ⟨u2, h2.symm⟩) _ E (Same.new hE _) upd_same
theorem ok_law_begun (D : Dn K mg "_law_begun" s_law_begun P_law_begun) (g : Gx mg) : C8.Cal P w K mg base 1 "_law_begun" (spLBegun K) [] := by
  refine D.cal sc_law_begun (fun vs H Q E h => ?_) (fun f cdv A outer s H vs Q E hr h => ?_)
  · obtain ⟨a, ns, rfl, hS, h63, kk⟩ := h
    rfl
  obtain ⟨a, ns, rfl, hS, h63, kk⟩ := h
  have nd := sc_law_begun.nd
  refine ⟨_, (pss_cons (ps_set (i := 1) nd rfl (.inl rfl) pe_int)
    (pss_cons (ps_for PassesOwn.never rfl (pi_list (pv 0)) (pg_name (i := 2) nd rfl (.inl rfl)) (pss_one (ps_set (i := 1) nd rfl (.inl rfl) (pe_op op_modN (pe_op op_add (pe_op op_add (pe_op op_mul (pv 1) pe_int) (pe_op op_mul (pv 2) pe_int)) pe_int) pe_int))))
    (pss_one (ps_ret (pe_lst (pa_cons (pe_callTy call_list_of rfl g.list b_list (pa_cons (pv 0) pa_nil)) (pa_cons (pe_op op_mul (pv 1) (pe_callTy call_int1 rfl g.int b_int (pa_cons (pe_cmpR op_gt (pe_callB call_len_seq rfl g.len PySem.boot_len (pa_cons (pv 0) pa_nil)) pe_int (nomark _)) pa_nil))) pa_nil))))))), ?_⟩
  have hc : ∀ k : Bool, -(2 ^ 64) < (if k = true then (1 : Int) else 0) ∧ (if k = true then (1 : Int) else 0) < 2 ^ 64 := fun k => by
    cases k <;> decide
  refine ⟨_, rfl, a, rfl, ⟨_, hS⟩, for_list (K := K) (a := a) (xs := ns.map V.int) (fun i σ H2 => (∃ (z : Int) (o : Option V), σ = [some (.ref a), some (.int z), o]) ∧ H2 = H)
    ⟨⟨0, none, rfl⟩, rfl⟩ (fun i σ H2 _ h2 => by rw [h2.2]; exact hS) ?_ ?_⟩
  · rintro i x σ H2 hx ⟨⟨z, o, rfl⟩, rfl⟩
    rw [List.getElem?_map] at hx
    obtain ⟨y, hy, rfl⟩ := Option.map_eq_some_iff.mp hx
    refine ⟨_, rfl, _, _, rfl, rfl, .inr ⟨by decide, by decide⟩, _, rfl, _, _, rfl, rfl, .inr ⟨by decide, by decide⟩, _, _, rfl, rfl, _, _, rfl, rfl, _, _, rfl, rfl, by show ((2147483647 : Int) ≠ 0); decide, ?_⟩
    exact ⟨⟨_, _, rfl⟩, rfl⟩
  · rintro σ H2 ⟨⟨z, o, rfl⟩, rfl⟩
    refine ⟨_, rfl, a, _, rfl, .inl hS, fun l hl => ?_⟩
    refine ⟨_, rfl, _, rfl, a, _, rfl, .inl ((Same.new hl _).seq hS), _, _, rfl, rfl, .inr ⟨_, rfl, _, _, rfl, rfl, .inr (hc _), by show 2 ≤ sizeLine; decide, fun D hD => ?_⟩⟩
    have s1 := Same.new hl (.lst (ns.map V.int))
    have hD0 : H2 D = none := s1.free hD
    refine kk D l _ _ (s1.trans (Same.new hD _)) ⟨upd_same, (Same.new hD _) _ _ upd_same, fun e => ?_⟩ hD0 hl
    subst e
    rw [upd_same] at hD
    cases hD
open LamX NdefX
variable {T : List (Addr × Str)}
theorem none_of {H H' : Hp} {D : Addr} (s : Same H H') (h : H' D = none) : H D = none := by
  cases e : H D with
  | none => rfl
  | some o =>
    rw [s _ _ e] at h
    cases h
theorem rep_flat (c : Nat) : ∀ n : Nat, (List.replicate n [c]).flatten = List.replicate n c
  | 0 => rfl
  | n + 1 => by
    rw [List.replicate_succ, List.flatten_cons, rep_flat c n, List.replicate_succ]
    rfl
theorem few_of {p : Pl} {t : Tr} {m : Int} (h1 : m ∈ (ways p.room t).map fun w => (w.1 : Int) + 2 * (w.2 : Int)) (h2 : ∀ y ∈ (ways p.room t).map fun w => (w.1 : Int) + 2 * (w.2 : Int), m ≤ y) : (t.l.length : Int) + m = few p t := by
  have wp : ∀ w : Nat × Nat, wprice 1 1 (fun _ => 1) t.l w = (t.l.length : Int) + ((w.1 : Int) + 2 * (w.2 : Int)) := fun w => by
    unfold wprice
    rw [sprc_1]
    omega
  unfold few LB
  unfold ways at h1 h2
  by_cases h : t.k = 0
  · rw [if_pos h] at h1 h2 ⊢
    simp only [wp]
    simp only [List.map_cons, List.map_nil, List.mem_cons, List.not_mem_nil, or_false] at h1 h2
    have a1 := h2 _ (.inl rfl)
    have a2 := h2 _ (.inr rfl)
    rcases h1 with h1 | h1 <;> omega
  · rw [if_neg h] at h1 h2 ⊢
    simp only [wp]
    simp only [List.map_cons, List.map_nil, List.mem_cons, List.not_mem_nil, or_false] at h1
    rw [h1]
theorem pairs1 {H : Hp} {a : Addr} {g f : Nat} (h : H a = some (.tup [.int (g : Int), .int (f : Int)])) : PairsAt H [(g, f)] [.ref a] := ⟨a, [], rfl, h, rfl⟩
theorem ok_cheapest_sign (D : Dn K mg "cheapest_sign" s_cheapest_sign P_cheapest_sign) (g : Gx mg) : C8.Cal P w K mg base 1 "cheapest_sign" spCSign [] := by
  refine D.cal sc_cheapest_sign (fun vs H Q E h => ?_) (fun f cdv A outer s H vs Q E hr h => ?_)
  · obtain ⟨v, p, rfl, ⟨a, b, rfl, ha, hb⟩, ok, q⟩ := h
    rfl
  obtain ⟨v, p, rfl, ⟨a, b, rfl, ha, hb⟩, ok, q⟩ := h
  have nd := sc_cheapest_sign.nd
  refine ⟨_, (pss_cons (ps_set (i := 1) nd rfl (.inl rfl) (pe_ix ix_tup (pv 0) pe_int (fun _ _ => rfl)))
    (pss_one (ps_ret (pe_ix ix_str (C8.pe_gc rfl g.SIGNS) (pe_bmT PySem.F.plainAttrs_tuple PySem.F.slot_tuple_index PySem.F.type_tuple_index mt_tup_indexI (pv 1) (pa_cons (pe_callB (r := rMinT K) (cr_minT rfl) rfl g.min b_min (pa_cons (pv 1) pa_nil)) pa_nil)) (fun _ _ => rfl))))), ?_⟩
  have hlt := csg_lt ok
  have h4 := ok.m4
  have hm1 := ok.m1
  have hpl : p.pr.idxOf (mnI p.pr) < p.pr.length := by rw [ok.pl]; exact hlt
  refine ⟨_, rfl, a, _, 2, _, rfl, rfl, SqT.of ha, rfl, ?_⟩
  refine ⟨_, rfl, ⟨b, _, rfl, hb⟩, _, rfl, b, p.pr, rfl, hb.sq, by rw [ok.pl]; omega, fun m h1 h2 => ?_⟩
  have e := mnI_of h1 h2
  subst e
  refine ⟨b, p.pr, mnI p.pr, p.pr.idxOf (mnI p.pr), rfl, rfl, hb.sq, ?_, ?_, ?_⟩
  · rw [List.getElem?_eq_getElem hpl, List.getElem_idxOf hpl]
  · intro m hm hq
    obtain ⟨h3, h5⟩ := List.getElem?_eq_some_iff.mp hq
    have := List.not_of_lt_findIdx (p := fun x => x == mnI p.pr) (xs := p.pr) (i := m) hm
    rw [h5] at this
    simp at this
  · have h3 : p.pr.idxOf (mnI p.pr) < ([97, 98, 99, 100] : List Nat).length := by show _ < 4; omega
    refine ⟨_, _, csg p, rfl, rfl, by rw [tx_len]; exact sz (by decide), atI_nat ?_, ?_⟩
    · show ([97, 98, 99, 100] : List Nat)[p.pr.idxOf (mnI p.pr)]? = some (csg p)
      have h6 : p.pr.idxOf (mnI p.pr) = 0 ∨ p.pr.idxOf (mnI p.pr) = 1 ∨ p.pr.idxOf (mnI p.pr) = 2 ∨ p.pr.idxOf (mnI p.pr) = 3 := by omega
      unfold csg
      rcases h6 with h | h | h | h <;> rw [h] <;> rfl
    · exact q H (Same.refl H)
theorem ok_ways (D : Dn K mg "ways" s_ways P_ways) (g : Gx mg) : C8.Cal P w K mg base 1 "ways" spWays [] := by
  refine D.cal sc_ways (fun vs H Q E h => ?_) (fun f cdv A outer s H vs Q E hr h => ?_)
  · obtain ⟨v, p, u, t, rfl, ⟨a, b, rfl, ha, hb⟩, ok, ⟨c, rfl, hc⟩, tok, q⟩ := h
    rfl
  obtain ⟨v, p, u, t, rfl, ⟨a, b, rfl, ha, hb⟩, ok, ⟨c, rfl, hc⟩, tok, q⟩ := h
  have nd := sc_ways.nd
  refine ⟨_, (pss_cons (ps_asg (pv 1) (pg_tup (by rfl) (pgs_cons (pg_name (i := 2) nd rfl (.inl rfl)) (pgs_cons (pg_name (i := 3) nd rfl (.inl rfl)) (pgs_cons (pg_name (i := 4) nd rfl (.inl rfl)) pgs_nil)))))
    (pss_cons (ps_set (i := 5) nd rfl (.inl rfl) (pe_ix ix_tup (pv 0) pe_int (fun _ _ => rfl)))
    (pss_cons (ps_if (pt_cmpR op_gt (pv 3) pe_int (nomark _)) (pss_one (ps_ret (pe_lst (pa_cons (pe_tup (pa_cons (pv 2) (pa_cons (pe_op op_sub (pe_op op_sub (pv 5) (pv 3)) (pe_callB (call_max2 rfl) rfl g.max b_max (pa_cons (pv 2) (pa_cons (pe_callB call_len_str rfl g.len PySem.boot_len (pa_cons (pv 4) pa_nil)) pa_nil)))) pa_nil))) pa_nil)))) pss_nil)
    (pss_one (ps_ret (pe_lst (pa_cons (pe_tup (pa_cons pe_int (pa_cons (pe_op op_sub (pv 5) (pe_callB call_len_str rfl g.len PySem.boot_len (pa_cons (pv 4) pa_nil))) pa_nil))) (pa_cons (pe_tup (pa_cons (pv 5) (pa_cons pe_int pa_nil))) pa_nil)))))))), ?_⟩
  have gk := tok.gk
  have kl := tok.kl
  refine ⟨_, rfl, c, _, rfl, SqT.of hc, rfl, _, _, rfl, _, _, rfl, _, _, rfl, rfl, ?_⟩
  refine ⟨_, rfl, a, _, 0, _, rfl, rfl, SqT.of ha, rfl, ?_⟩
  refine ⟨_, rfl, _, _, rfl, rfl, _, rfl, ite2 (fun k => ?_) (fun k => ?_)⟩
  · have k' : (0 : Int) < (t.k : Int) := of_decide_eq_true k
    have e : (p.room : Int) - (t.k : Int) - (if (((tx t.l).length : Nat) : Int) > (t.g : Int) then (((tx t.l).length : Nat) : Int) else (t.g : Int)) = ((phi p.room t : Nat) : Int) := by
      rw [tx_len]
      unfold phi
      split <;> omega
    refine ⟨_, rfl, _, rfl, _, rfl, _, _, rfl, rfl, _, rfl, _, rfl, _, rfl, by rw [tx_len]; exact sz (by have := ok.r9; omega), _, _, rfl, _, _, rfl, rfl, ?_⟩
    dsimp only
    rw [e]
    refine ⟨by show 2 ≤ sizeLine; decide, fun T1 hT1 => ?_⟩
    refine ⟨by show 1 ≤ sizeLine; decide, fun D hD => ?_⟩
    have s1 := Same.new hT1 (.tup [.int (t.g : Int), .int ((phi p.room t : Nat) : Int)])
    have s2 := Same.new hD (.lst [.ref T1])
    refine q D _ _ (s1.trans s2) (none_of s1 hD) upd_same ?_
    unfold ways
    rw [if_neg (by omega)]
    exact pairs1 (s2 _ _ upd_same)
  · have k' : ¬ (0 : Int) < (t.k : Int) := fun z => k (decide_eq_true z)
    have e : (p.room : Int) - (((tx t.l).length : Nat) : Int) = ((p.room - t.l.length : Nat) : Int) := by
      rw [tx_len]
      omega
    refine ⟨_, rfl, _, rfl, _, rfl, by rw [tx_len]; exact sz (by have := ok.r9; omega), _, _, rfl, rfl, ?_⟩
    dsimp only
    rw [e]
    refine ⟨by show 2 ≤ sizeLine; decide, fun T1 hT1 => ?_⟩
    refine ⟨_, rfl, by show 2 ≤ sizeLine; decide, fun T2 hT2 => ?_⟩
    refine ⟨by show 2 ≤ sizeLine; decide, fun D hD => ?_⟩
    have s1 := Same.new hT1 (.tup [.int 0, .int ((p.room - t.l.length : Nat) : Int)])
    have s2 := Same.new hT2 (.tup [.int (p.room : Int), .int 0])
    have s3 := Same.new hD (.lst [.ref T1, .ref T2])
    refine q D _ _ (s1.trans (s2.trans s3)) (none_of (s1.trans s2) hD) upd_same ?_
    unfold ways
    rw [if_pos (by omega)]
    exact ⟨T1, _, rfl, s3 _ _ (s2 _ _ upd_same), T2, _, rfl, s3 _ _ upd_same, rfl⟩
theorem ok_steps_of_way (D : Dn K mg "steps_of_way" s_steps_of_way P_steps_of_way) (g : Gx mg) (c_cheapest_sign : C8.Cal P w K mg base 1 "cheapest_sign" spCSign []) : C8.Cal P w K mg base 2 "steps_of_way" spStepsW [] := by
  refine D.cal sc_steps_of_way (fun vs H Q E h => ?_) (fun f cdv A outer s H vs Q E hr h => ?_)
  · obtain ⟨v, p, a, w, l, rfl, hp, ok, ha, w1, w2, hl, q⟩ := h
    rfl
  obtain ⟨v, p, a, w, l, rfl, hp, ok, ha, w1, w2, hl, q⟩ := h
  have nd := sc_steps_of_way.nd
  refine ⟨_, (pss_cons (ps_asg (pv 1) (pg_tup (by rfl) (pgs_cons (pg_name (i := 3) nd rfl (.inl rfl)) (pgs_cons (pg_name (i := 4) nd rfl (.inl rfl)) pgs_nil))))
    (pss_cons (ps_set (i := 5) nd rfl (.inl rfl) (pe_op op_add_str (pe_op op_mulS (C8.pe_c c_cheapest_sign hr (by decide) rfl (pa_cons (pv 0) pa_nil)) (pv 4)) (pe_op op_mulS (C8.pe_gc rfl g.POP_STEP) (pv 4))))
    (pss_cons (ps_if (pt_cmpR op_ge (pv 3) (pe_callB call_len_str rfl g.len PySem.boot_len (pa_cons (pv 2) pa_nil)) (nomark _)) (pss_one (ps_ret (pe_op op_add_str (pe_op op_add_str (pv 5) (pe_op op_mulS (C8.pe_gc rfl g.POP_STEP) (pv 3))) (pv 2)))) pss_nil)
    (pss_one (ps_ret (pe_op op_add_str (pe_op op_add_str (pe_op op_mulS (C8.pe_gc rfl g.POP_STEP) (pv 3)) (pv 2)) (pv 5))))))), ?_⟩
  refine ⟨_, rfl, a, _, rfl, SqT.of ha, rfl, _, _, rfl, _, _, rfl, rfl, ?_⟩
  refine ⟨_, rfl, v, p, rfl, hp, ok, fun H1 s1 => ⟨_, rfl, [csg p], w.2, rfl, rfl, by show 1 * w.2 ≤ _; omega, by omega, ?_⟩⟩
  rw [rep_flat]
  refine ⟨_, rfl, [45], w.2, rfl, rfl, by show 1 * w.2 ≤ _; omega, by omega, ?_⟩
  rw [rep_flat]
  refine ⟨_, _, rfl, rfl, by rw [tx_len, tx_len, List.length_replicate, List.length_replicate]; exact sz (by omega), ?_⟩
  rw [tx_app]
  refine ⟨_, rfl, _, rfl, _, rfl, by rw [tx_len]; exact sz (by omega), _, _, rfl, rfl, _, rfl, ite2 (fun k => ?_) (fun k => ?_)⟩
  · have k' : (((tx l).length : Nat) : Int) ≤ (w.1 : Int) := of_decide_eq_true k
    rw [tx_len] at k'
    refine ⟨_, rfl, _, rfl, [45], w.1, rfl, rfl, by show 1 * w.1 ≤ _; omega, by omega, ?_⟩
    rw [rep_flat]
    refine ⟨_, _, rfl, rfl, by rw [tx_len, tx_len, List.length_append, List.length_replicate, List.length_replicate, List.length_replicate]; exact sz (by omega), ?_⟩
    rw [tx_app]
    refine ⟨_, rfl, _, _, rfl, rfl, by rw [tx_len, tx_len, List.length_append, List.length_append, List.length_replicate, List.length_replicate, List.length_replicate]; exact sz (by omega), ?_⟩
    rw [tx_app]
    have q1 := q H1 s1
    unfold wayS at q1
    rw [if_pos (by omega)] at q1
    exact q1
  · have k' : ¬ (((tx l).length : Nat) : Int) ≤ (w.1 : Int) := fun z => k (decide_eq_true z)
    rw [tx_len] at k'
    refine ⟨_, rfl, [45], w.1, rfl, rfl, by show 1 * w.1 ≤ _; omega, by omega, ?_⟩
    rw [rep_flat]
    refine ⟨_, rfl, _, _, rfl, rfl, by rw [tx_len, tx_len, List.length_replicate]; exact sz (by omega), ?_⟩
    rw [tx_app]
    refine ⟨_, rfl, _, _, rfl, rfl, by rw [tx_len, tx_len, List.length_append, List.length_append, List.length_replicate, List.length_replicate, List.length_replicate]; exact sz (by omega), ?_⟩
    rw [tx_app]
    have q1 := q H1 s1
    unfold wayS at q1
    rw [if_neg (by omega)] at q1
    exact q1
theorem ok_price_of_steps (D : Dn K mg "price_of_steps" s_price_of_steps P_price_of_steps) (g : Gx mg) (c_price_of_step : C8.Cal P w K mg base 1 "price_of_step" spPStep []) : C8.Cal P w K mg base 2 "price_of_steps" spPSteps [] := by
  refine D.cal sc_price_of_steps (fun vs H Q E h => ?_) (fun f cdv A outer s H vs Q E hr h => ?_)
  · obtain ⟨v, p, l, rfl, hp, ok, hl, hs, q⟩ := h
    rfl
  obtain ⟨v, p, l, rfl, hp, ok, hl, hs, q⟩ := h
  have nd := sc_price_of_steps.nd
  refine ⟨_, (pss_one (ps_ret (pe_callB (cr_sum rfl) rfl g.sum b_sum (pa_cons (pe_lc (own := [("step", 2)]) rfl nd (pi_str (pv 1)) (blkOk_by (own := [("step", 2)]) (N := N_price_of_steps) (sc := defScope s_price_of_steps) (by decide +kernel)) (fun _ _ _ _ _ => (pg_name (i := 2) nd rfl (.inl rfl))) (fun _ _ _ _ _ => pts_nil) (fun _ _ _ _ _ => (C8.pe_c c_price_of_step (by exact hr) (by decide) rfl (pa_cons (pv 0) (pa_cons (pv 2) pa_nil))))) pa_nil)))), ?_⟩
  refine ⟨_, rfl, _, rfl, fun D hD => ?_⟩
  have hn : (tx l).cps.size = l.length := tx_len l
  refine lc_it (walk_str (z := tx l)) (fun i H2 => Same H H2 ∧ H2 D = some (.lst ((l.take i).map fun c => V.int (cst p c)))) ⟨Same.new hD _, upd_same⟩ (fun _ _ _ _ => trivial) ?_ ?_
  · rintro i x H2 H3 hi ⟨s2, h2⟩ ⟨rfl, c, hc, rfl⟩
    have hc' : l[i]? = some c := by
      rw [← hc]
      simp [tx]
    refine ⟨rfl, ?_⟩
    refine ⟨_, rfl, _, rfl, v, p, c, rfl, hp.mono s2, ok, hs c (List.mem_of_getElem? hc'), fun H4 s4 => ?_⟩
    refine ⟨_, s4 _ _ h2, by rw [List.length_map, List.length_take]; exact szl (by omega), fun b o e => ?_, ?_⟩
    · rw [upd_ne (ne_of_none e hD)]
      exact s4 _ _ (s2 b o e)
    · rw [upd_same, List.take_add_one, hc']
      simp
  · rintro H2 ⟨s2, h2⟩
    rw [hn, List.take_of_length_le (Nat.le_refl _)] at h2
    refine ⟨D, l.map (cst p), rfl, SqL.of (by rw [h2, List.map_map]; rfl), ?_⟩
    exact q H2 s2
theorem ok_fewest (D : Dn K mg "fewest" s_fewest P_fewest) (g : Gx mg) (c_check_plan : C8.Cal P w K mg base 3 "check_plan" spChPlan []) (c_check_triple : C8.Cal P w K mg base 3 "check_triple" spChTriple []) (c_ways : C8.Cal P w K mg base 1 "ways" spWays []) : C8.Cal P w K mg base 4 "fewest" spFew [] := by
  refine D.cal sc_fewest (fun vs H Q E h => ?_) (fun f cdv A outer s H vs Q E hr h => ?_)
  · obtain ⟨v, p, u, t, rfl, hp, ok, ht, tok, q⟩ := h
    rfl
  obtain ⟨v, p, u, t, rfl, hp, ok, ht, tok, q⟩ := h
  have nd := sc_fewest.nd
  refine ⟨_, (pss_cons (ps_expr (C8.pe_c c_check_plan hr (by decide) rfl (pa_cons (pv 0) pa_nil)))
    (pss_cons (ps_expr (C8.pe_c c_check_triple hr (by decide) rfl (pa_cons (pv 0) (pa_cons (pv 1) pa_nil))))
    (pss_one (ps_ret (pe_op op_add (pe_callB call_len_str rfl g.len PySem.boot_len (pa_cons (pe_ix ix_tup (pv 1) pe_int (fun _ _ => rfl)) pa_nil)) (pe_callB (cr_min rfl) rfl g.min b_min (pa_cons (pe_lc (own := [("popped", 2), ("filled", 3)]) rfl nd (pi_list (C8.pe_c c_ways hr (by decide) rfl (pa_cons (pv 0) (pa_cons (pv 1) pa_nil)))) (blkOk_by (own := [("popped", 2), ("filled", 3)]) (N := N_fewest) (sc := defScope s_fewest) (by decide +kernel)) (fun _ _ _ _ _ => (show PG _ _ (gTup K 2 _) from pg_tup (n := 2) (by rfl) (pgs_cons (pg_name (i := 2) nd rfl (.inl rfl)) (pgs_cons (pg_name (i := 3) nd rfl (.inl rfl)) pgs_nil)))) (fun _ _ _ _ _ => pts_nil) (fun _ _ _ _ _ => (pe_op op_add (pv 2) (pe_op op_mul pe_int (pv 3))))) pa_nil))))))), ?_⟩
  refine ⟨_, rfl, v, p, rfl, hp, ok, fun H1 s1 => ?_⟩
  refine ⟨_, rfl, _, rfl, v, p, u, t, rfl, hp.mono s1, ok, ht.mono s1, tok, fun H2 s2 => ?_⟩
  have s12 := s1.trans s2
  obtain ⟨c, rfl, hc⟩ := id ht
  refine ⟨_, rfl, c, _, 2, _, rfl, rfl, SqT.of (s12 _ _ hc), rfl, _, rfl, by rw [tx_len]; exact sz (by have := tok.kl; have := ok.r9; omega), ?_⟩
  refine ⟨_, rfl, _, rfl, v, p, .ref c, t, rfl, hp.mono s12, ok, ht.mono s12, tok, fun D0 H3 xs s3 hD0 hx hP => ?_⟩
  have s13 := s12.trans s3
  refine ⟨D0, rfl, ⟨xs, SqL.of hx⟩, fun D hD => ?_⟩
  have hlen := hP.len
  have hwl : (ways p.room t).length ≤ 2 := by unfold ways; split <;> simp
  have hne : D0 ≠ D := fun z => by rw [z, hD] at hx; cases hx
  refine lc_it (walk_list (a := D0) (xs := xs)) (fun i H4 => Same H3 H4 ∧ H4 D = some (.lst (((ways p.room t).take i).map fun w => V.int ((w.1 : Int) + 2 * (w.2 : Int))))) ⟨Same.new hD _, upd_same⟩ (fun i H4 _ h4 => SqL.of (h4.1 _ _ hx)) ?_ ?_
  · rintro i x H4 H5 hi ⟨s4, h4⟩ ⟨rfl, hxi⟩
    obtain ⟨w, aw, hw, rfl, haw⟩ := hP.get hxi
    refine ⟨aw, _, rfl, SqT.of (s4 _ _ haw), rfl, _, _, rfl, _, _, rfl, rfl, rfl, ?_⟩
    refine ⟨_, rfl, _, rfl, _, _, rfl, rfl, .inl ⟨by decide, by decide⟩, _, _, rfl, rfl, ?_⟩
    refine ⟨_, h4, by rw [List.length_map, List.length_take]; exact szl (by omega), fun b o e => ?_, ?_⟩
    · rw [upd_ne (ne_of_none e hD)]
      exact s4 b o e
    · rw [upd_same, List.take_add_one, hw, List.map_append]
      rfl
  · rintro H4 ⟨s4, h4⟩
    rw [hlen, List.take_of_length_le (Nat.le_refl _)] at h4
    refine ⟨D, (ways p.room t).map fun w => (w.1 : Int) + 2 * (w.2 : Int), rfl, SqL.of (by rw [h4, List.map_map]; rfl), by rw [List.length_map]; exact List.length_pos_iff.mpr (by unfold ways; split <;> simp), fun m h1 h2 => ?_⟩
    have e := few_of (p := p) (t := t) h1 h2
    rw [tx_len]
    refine ⟨_, _, rfl, rfl, ?_⟩
    dsimp only
    rw [e]
    exact q H4 (s13.trans s4)
theorem ok_cheapest_way {cL PT : Addr} (D : DnL K mg "cheapest_way" s_cheapest_way P_cheapest_way cL) (TB : LamX.TabB base mg cL PT) (g : Gx mg) (c_ways : C8.Cal P w K mg base 1 "ways" spWays []) : C8.Cal P w K mg base 3 "cheapest_way" (spChWay [(PT, lamQ)]) [] := by
  refine D.cal sc_cheapest_way (fun vs H Q E h => ?_) (fun f A outer s H vs Q E hr h => ?_)
  · obtain ⟨v, p, u, t, rfl, _⟩ := h
    rfl
  obtain ⟨v, p, u, t, rfl, ⟨a, b, rfl, ha, hb⟩, ok, ht, tok, hT, q⟩ := h
  have nd := sc_cheapest_way.nd
  refine ⟨_, (pss_cons (ps_set (i := 3) nd rfl (.inr rfl) (pe_ix ix_tup (pv 0) pe_int (fun _ _ => rfl)))
    (pss_cons (ps_set (i := 2) nd rfl (.inr rfl) (pe_op op_add (pe_callB (r := rMinT K) (cr_minT rfl) rfl g.min b_min (pa_cons (pe_ix ix_tup (pv 0) pe_int (fun _ _ => rfl)) pa_nil)) (pv 3)))
    (pss_one (ps_ret (pe_minkey (c := cL) (P := PT) (T := [(PT, lamQ)]) (k := 0) (N := ["way", "pop_price", "filler_price"]) (ps := ["way"]) (fr := ["pop_price", "filler_price"]) (js := [3, 2]) rfl rfl g.min (pa_cons (C8.pe_c c_ways hr (by decide) rfl (pa_cons (pv 0) (pa_cons (pv 1) pa_nil))) pa_nil) TB rfl (List.mem_singleton.mpr rfl) (fun p hp _ => by rw [List.mem_singleton.mp hp]; rfl) hr (nscope_by (by decide +kernel)) rfl (ndef_free (fr := ["pop_price", "filler_price"]) (sc := defScope s_cheapest_way) (by decide +kernel)) (ndef_fr (sc := defScope s_cheapest_way) (by decide +kernel)) rfl rfl (fun _ _ _ _ _ _ => rfl) (fun c' f A outer s H => (pe_op op_add (pe_op op_mul (pe_ix (r := rIxT K) ix_tup (pv 0) pe_int (fun _ _ => rfl)) (pv 1)) (pe_op op_mul (pe_ix (r := rIxT K) ix_tup (pv 0) pe_int (fun _ _ => rfl)) (pv 2))))))))), ?_⟩
  have hp : PlanAt H (.ref a) p := ⟨a, b, rfl, ha, hb⟩
  refine ⟨_, rfl, a, _, 3, _, rfl, rfl, SqT.of ha, rfl, ?_⟩
  refine ⟨_, rfl, a, _, 2, _, rfl, rfl, SqT.of ha, rfl, b, p.pr, rfl, hb.sq, List.length_pos_iff.mpr ok.ne, fun m h1 h2 => ?_⟩
  have e := mnI_of h1 h2
  subst e
  refine ⟨_, rfl, _, _, rfl, rfl, ?_⟩
  refine ⟨_, rfl, _, rfl, .ref a, p, u, t, rfl, hp, ok, ht, tok, fun D0 H1 xs s1 hD0 hx hP => ?_⟩
  have hlen := hP.len
  have hw0 : 0 < xs.length := by rw [hlen]; exact List.length_pos_iff.mpr (by unfold SK.ways; split <;> simp)
  refine ⟨Tabs.same hT s1, D0, xs, fun i => wkey p ((SK.ways p.room t).getD i (0, 0)), rfl, hx, hw0, fun H2 i x Q' tu hxi hq => ?_, fun H2 od x e1 t2 hxb => ?_⟩
  · obtain ⟨w0, aw, hw, rfl, haw⟩ := hP.get hxi
    have e : (SK.ways p.room t).getD i (0, 0) = w0 := by simp [List.getD, hw]
    simp only [e] at hq
    have hw9 := ways_le ok tok (List.mem_of_getElem? hw)
    have hq1 := ok.q1
    have hq9 := ok.q9
    have e64 : (2 : Int) ^ 64 = 18446744073709551616 := by decide
    refine ⟨_, rfl, aw, _, 0, _, rfl, rfl, SqT.of (tu _ _ haw), rfl, _, rfl, _, _, rfl, rfl, .inl (by rw [e64]; omega), ?_⟩
    exact ⟨_, rfl, aw, _, 1, _, rfl, rfl, SqT.of (tu _ _ haw), rfl, _, rfl, _, _, rfl, rfl, .inl (by rw [e64]; omega), _, _, rfl, rfl, hq⟩
  · obtain ⟨w0, aw, hw, rfl, haw⟩ := hP.get hxb
    have e : chW p t = w0 := by
      rw [hlen] at hw
      show (SK.ways p.room t)[bestN (fun i => wkey p ((SK.ways p.room t).getD i (0, 0))) (SK.ways p.room t).length]?.getD (0, 0) = w0
      rw [hw]
      rfl
    have hne : H2 D0 = some (.lst xs) := e1 _ _ hx (by intro ps z; cases z)
    refine q aw _ (fun b' o hb' n => ?_) (Tabs.upd t2 hne) ?_
    · have hb1 := e1 b' o (s1 _ _ hb') n
      rw [upd_ne (fun z => by rw [z, hD0] at hb'; cases hb')]
      exact hb1
    · rw [e, upd_ne (fun z => by
        have h3 := e1 _ _ haw (by intro ps z; cases z)
        rw [z, hne] at h3
        cases h3)]
      exact e1 _ _ haw (by intro ps z; cases z)
theorem ok_cheapest (D : Dn K mg "cheapest" s_cheapest P_cheapest) (g : Gx mg) (c_check_plan : C8.Cal P w K mg base 3 "check_plan" spChPlan []) (c_check_triple : C8.Cal P w K mg base 3 "check_triple" spChTriple []) (c_cheapest_way : C8.Cal P w K mg base 3 "cheapest_way" (spChWay T) []) (c_steps_of_way : C8.Cal P w K mg base 2 "steps_of_way" spStepsW []) (c_price_of_steps : C8.Cal P w K mg base 2 "price_of_steps" spPSteps []) : C8.Cal P w K mg base 4 "cheapest" (spCheap T) [] := by
  refine D.cal sc_cheapest (fun vs H Q E h => ?_) (fun f cdv A outer s H vs Q E hr h => ?_)
  · obtain ⟨v, p, u, t, rfl, hp, ok, ht, tok, hT, q⟩ := h
    rfl
  obtain ⟨v, p, u, t, rfl, hp, ok, ht, tok, hT, q⟩ := h
  have nd := sc_cheapest.nd
  refine ⟨_, (pss_cons (ps_expr (C8.pe_c c_check_plan hr (by decide) rfl (pa_cons (pv 0) pa_nil)))
    (pss_cons (ps_expr (C8.pe_c c_check_triple hr (by decide) rfl (pa_cons (pv 0) (pa_cons (pv 1) pa_nil))))
    (pss_cons (ps_set (i := 2) nd rfl (.inl rfl) (C8.pe_c c_cheapest_way hr (by decide) rfl (pa_cons (pv 0) (pa_cons (pv 1) pa_nil))))
    (pss_cons (ps_set (i := 3) nd rfl (.inl rfl) (C8.pe_c c_steps_of_way hr (by decide) rfl (pa_cons (pv 0) (pa_cons (pv 2) (pa_cons (pe_ix ix_tup (pv 1) pe_int (fun _ _ => rfl)) pa_nil)))))
    (pss_one (ps_ret (pe_tup (pa_cons (C8.pe_c c_price_of_steps hr (by decide) rfl (pa_cons (pv 0) (pa_cons (pv 3) pa_nil))) (pa_cons (pv 3) pa_nil))))))))), ?_⟩
  have h9 := ok.r9
  have kl := tok.kl
  refine ⟨_, rfl, v, p, rfl, hp, ok, fun H1 s1 => ?_⟩
  refine ⟨_, rfl, _, rfl, v, p, u, t, rfl, hp.mono s1, ok, ht.mono s1, tok, fun H2 s2 => ?_⟩
  have s12 := s1.trans s2
  refine ⟨_, rfl, _, rfl, v, p, u, t, rfl, hp.mono s12, ok, ht.mono s12, tok, Tabs.same hT s12, fun a H3 e3 t3 ha => ?_⟩
  have e13 : ExtN H H3 := (ExtN.ofS s12).trans e3
  obtain ⟨c, rfl, hc⟩ := id ht
  have hw := ways_le ok tok (chW_mem p t)
  refine ⟨_, rfl, _, rfl, _, rfl, c, _, 2, _, rfl, rfl, SqT.of (Tups.ofN e13 _ _ hc), rfl, v, p, a, chW p t, t.l, rfl, hp.ext e13, ok, ha, hw.1, hw.2, by omega, fun H4 s4 => ?_⟩
  have e14 := e13.trans (ExtN.ofS s4)
  refine ⟨_, rfl, _, rfl, v, p, chS p t, rfl, hp.ext e14, ok, by have := chS_len ok tok; omega, chS_in ok tok, fun H5 s5 => ?_⟩
  have e15 := e14.trans (ExtN.ofS s5)
  refine ⟨_, rfl, by show 2 ≤ sizeLine; decide, fun B hB => ?_⟩
  have sB := Same.new hB (.tup [.int (sprc (cst p) (chS p t)), .str (tx (chS p t))])
  refine q B _ (e15.trans (ExtN.ofS sB)) (Tabs.same (Tabs.same (Tabs.same t3 s4) s5) sB) ?_
  rw [← chS_price ok]
  exact upd_same
theorem ok_fillers (D : Dn K mg "fillers" s_fillers P_fillers) (g : Gx mg) (c_check_plan : C8.Cal P w K mg base 3 "check_plan" spChPlan []) (c_check_triple : C8.Cal P w K mg base 3 "check_triple" spChTriple []) (c_cheapest_way : C8.Cal P w K mg base 3 "cheapest_way" (spChWay T) []) : C8.Cal P w K mg base 4 "fillers" (spFill T) [] := by
  refine D.cal sc_fillers (fun vs H Q E h => ?_) (fun f cdv A outer s H vs Q E hr h => ?_)
  · obtain ⟨v, p, u, t, rfl, hp, ok, ht, tok, hT, q⟩ := h
    rfl
  obtain ⟨v, p, u, t, rfl, hp, ok, ht, tok, hT, q⟩ := h
  have nd := sc_fillers.nd
  refine ⟨_, (pss_cons (ps_expr (C8.pe_c c_check_plan hr (by decide) rfl (pa_cons (pv 0) pa_nil)))
    (pss_cons (ps_expr (C8.pe_c c_check_triple hr (by decide) rfl (pa_cons (pv 0) (pa_cons (pv 1) pa_nil))))
    (pss_one (ps_ret (pe_ix ix_tup (C8.pe_c c_cheapest_way hr (by decide) rfl (pa_cons (pv 0) (pa_cons (pv 1) pa_nil))) pe_int (fun _ _ => rfl)))))), ?_⟩
  refine ⟨_, rfl, v, p, rfl, hp, ok, fun H1 s1 => ?_⟩
  refine ⟨_, rfl, _, rfl, v, p, u, t, rfl, hp.mono s1, ok, ht.mono s1, tok, fun H2 s2 => ?_⟩
  have s12 := s1.trans s2
  refine ⟨_, rfl, _, rfl, v, p, u, t, rfl, hp.mono s12, ok, ht.mono s12, tok, Tabs.same hT s12, fun a H3 e3 t3 ha => ?_⟩
  exact ⟨a, _, 1, _, rfl, rfl, SqT.of ha, rfl, q H3 ((ExtN.ofS s12).trans e3) t3⟩
theorem ok_cuts (D : Dn K mg "cuts" s_cuts P_cuts) (g : Gx mg) : C8.Cal P w K mg base 1 "cuts" spCuts [] := by
  refine D.cal sc_cuts (fun vs H Q E h => ?_) (fun f cdv A outer s H vs Q E hr h => ?_)
  · obtain ⟨v, p, s, rfl, ⟨a, b, rfl, ha, hb⟩, ok, hs, q⟩ := h
    rfl
  obtain ⟨v, p, s, rfl, ⟨a, b, rfl, ha, hb⟩, ok, hs, q⟩ := h
  have nd := sc_cuts.nd
  refine ⟨_, (pss_cons (ps_set (i := 2) nd rfl (.inr rfl) (pe_ix ix_tup (pv 0) pe_int (fun _ _ => rfl)))
    (pss_one (ps_ret (pe_lc2 (own := [("gone", 3), ("kept", 4)]) (vs1 := [4]) rfl nd (pi_range1 (by rfl) g.range (pa_cons (pe_op op_add (pv 2) pe_int) pa_nil)) (blkOk_by (own := [("gone", 3), ("kept", 4)]) (N := N_cuts) (sc := defScope s_cuts) (by decide +kernel)) (by decide) (fun _ _ _ _ _ => (pg_name (i := 3) nd rfl (.inl rfl))) (fun _ _ _ _ _ => pts_nil) (fun _ _ _ _ _ => (pi_range1 (by rfl) g.range (pa_cons (pe_op op_add (pe_op op_sub (pv 2) (pe_callB (call_max2 rfl) rfl g.max b_max (pa_cons (pv 3) (pa_cons (pv 1) pa_nil)))) pe_int) pa_nil))) (fun _ _ _ _ _ => (pg_name (i := 4) nd rfl (.inl rfl))) (fun _ _ _ _ _ => (pts_one (PW.pt (pw_or (pt_cmpR op_gt (pv 4) pe_int (nomark _)) (pw_or1 (pt_cmpR op_eq (pv 3) pe_int (nomark _))))))) (fun _ _ _ _ _ => (pe_tup (pa_cons (pv 3) (pa_cons (pv 4) pa_nil)))))))), ?_⟩
  have r9 := ok.r9
  refine ⟨_, rfl, a, _, 0, _, rfl, rfl, SqT.of ha, rfl, ?_⟩
  refine ⟨_, rfl, _, _, rfl, rfl, (p.room : Int) + 1, rfl, by omega, by omega, fun D hD => ?_⟩
  have eN : ((p.room : Int) + 1).toNat = p.room + 1 := by omega
  rw [eN]
  refine lc2_range (lo := 0) (fun i H2 => Same H H2 ∧ ∃ xs, H2 D = some (.lst xs) ∧ PairsAt H2 (cutN p.room s i) xs ∧ xs.length ≤ 10 * i) ⟨Same.new hD _, [], upd_same, rfl, Nat.zero_le _⟩ ?_ ?_
  · rintro i H2 hi ⟨s2, xs, h2, hP, hx⟩
    have em : (p.room : Int) - (if (s : Int) > (i : Int) then (s : Int) else (i : Int)) + 1 = ((p.room - max i s + 1 : Nat) : Int) := by
      split <;> omega
    refine ⟨rfl, ?_⟩
    refine ⟨_, rfl, _, rfl, _, rfl, _, _, rfl, ?_⟩
    rw [Int.zero_add]
    refine ⟨_, _, rfl, rfl, _, _, rfl, rfl, _, rfl, ?_⟩
    rw [em]
    refine ⟨by omega, by omega, ?_⟩
    have eM : (((p.room - max i s + 1 : Nat)) : Int).toNat = p.room - max i s + 1 := by omega
    rw [eM]
    refine in_range (lo := 0) (fun j H3 => Same H H3 ∧ ∃ ys, H3 D = some (.lst ys) ∧ PairsAt H3 (cutN p.room s i ++ cutR i j) ys ∧ ys.length ≤ 10 * i + j) ⟨s2, xs, h2, by rw [show cutR i 0 = [] from rfl, List.append_nil]; exact hP, hx⟩ ?_ ?_
    · rintro j H3 hj ⟨s3, ys, h3, hP3, hy⟩
      refine ⟨rfl, ?_⟩
      have no : ¬ (0 < j ∨ i = 0) → Same H H3 ∧ ∃ ys, H3 D = some (.lst ys) ∧ PairsAt H3 (cutN p.room s i ++ cutR i (j + 1)) ys ∧ ys.length ≤ 10 * i + (j + 1) := fun c => by
        refine ⟨s3, ys, h3, ?_, by omega⟩
        rw [cutR_succ, if_neg c, List.append_nil]
        exact hP3
      have hb9 : ys.length < 100000 := by omega
      have put : (0 < j ∨ i = 0) → ∀ (T : Addr), H3 T = none → ∃ acc, upd H3 T (.tup [.int (i : Int), .int (0 + (j : Int))]) D = some (.lst acc) ∧ acc.length < sizeLine ∧ Same H (upd (upd H3 T (.tup [.int (i : Int), .int (0 + (j : Int))])) D (.lst (acc ++ [.ref T]))) ∧ ∃ ys, upd (upd H3 T (.tup [.int (i : Int), .int (0 + (j : Int))])) D (.lst (acc ++ [.ref T])) D = some (.lst ys) ∧ PairsAt (upd (upd H3 T (.tup [.int (i : Int), .int (0 + (j : Int))])) D (.lst (acc ++ [.ref T]))) (cutN p.room s i ++ cutR i (j + 1)) ys ∧ ys.length ≤ 10 * i + (j + 1) := fun c T hT => by
        have sT := Same.new hT (.tup [.int (i : Int), .int (0 + (j : Int))])
        refine ⟨ys, sT _ _ h3, szl hb9, fun b o e => ?_, _, upd_same, ?_, by rw [List.length_append]; show ys.length + 1 ≤ _; omega⟩
        · rw [upd_ne (ne_of_none e hD)]
          exact sT _ _ (s3 b o e)
        · rw [cutR_succ, if_pos c, ← List.append_assoc]
          have tu := (Tups.of sT).trans (Tups.lst (ys := ys ++ [.ref T]) (sT _ _ h3))
          refine PairsAt.snoc ?_ (hP3.tups tu)
          rw [upd_ne (fun z => by rw [z, h3] at hT; cases hT), upd_same]
          rw [Int.zero_add]
      refine ⟨_, rfl, _, _, rfl, rfl, _, rfl, ite2 (fun c => ?_) (fun c => ?_)⟩
      · refine iteT ⟨_, rfl, _, rfl, by show 2 ≤ sizeLine; decide, fun T hT => put (.inl ?_) T hT⟩
        have := of_decide_eq_true c
        omega
      · have c1 : ¬ 0 < j := fun z => c (decide_eq_true (by omega))
        refine ⟨_, rfl, rfl, _, rfl, ite2 (fun c2 => ?_) (fun c2 => ?_)⟩
        · have k0 : i = 0 := by
            have c3 := of_decide_eq_true c2
            injection c3 with c4
            omega
          exact ⟨_, rfl, _, rfl, by show 2 ≤ sizeLine; decide, fun T hT => put (.inr k0) T hT⟩
        · refine no fun z => ?_
          rcases z with z | z
          · exact c1 z
          · subst z
            exact c2 rfl
    · rintro H3 ⟨s3, ys, h3, hP3, hy⟩
      refine ⟨s3, ys, h3, ?_, by omega⟩
      rw [cutN_succ]
      exact hP3
  · rintro H2 ⟨s2, xs, h2, hP, hx⟩
    exact q D H2 xs s2 hD h2 hP
theorem ok_how_many_laying (D : Dn K mg "how_many_laying" s_how_many_laying P_how_many_laying) (g : Gx mg) (c_texts_of_size : C8.Cal P w K mg base 1 "texts_of_size" spSize []) (c_cuts : C8.Cal P w K mg base 1 "cuts" spCuts []) : C8.Cal P w K mg base 2 "how_many_laying" spLaying [] := by
  refine D.cal sc_how_many_laying (fun vs H Q E h => ?_) (fun f cdv A outer s H vs Q E hr h => ?_)
  · obtain ⟨v, p, s, rfl, ⟨a, b, rfl, ha, hb⟩, ok, hs, q⟩ := h
    rfl
  obtain ⟨v, p, s, rfl, ⟨a, b, rfl, ha, hb⟩, ok, hs, q⟩ := h
  have nd := sc_how_many_laying.nd
  refine ⟨_, (pss_one (ps_ret (pe_op op_mul (C8.pe_c c_texts_of_size hr (by decide) rfl (pa_cons (pe_ix ix_tup (pv 0) pe_int (fun _ _ => rfl)) (pa_cons (pv 1) pa_nil))) (pe_callB call_len_seq rfl g.len PySem.boot_len (pa_cons (C8.pe_c c_cuts hr (by decide) rfl (pa_cons (pv 0) (pa_cons (pv 1) pa_nil))) pa_nil))))), ?_⟩
  have r9 := ok.r9
  have m4 := ok.m4
  refine ⟨_, rfl, a, _, 1, _, rfl, rfl, SqT.of ha, rfl, _, rfl, p.many, s, rfl, m4, by omega, fun H1 s1 => ?_⟩
  refine ⟨_, rfl, _, rfl, _, p, s, rfl, ⟨a, b, rfl, s1 _ _ ha, PrAt.mono hb s1⟩, ok, hs, fun D H2 xs s2 nD hD hP => ?_⟩
  refine ⟨D, xs, rfl, .inl (SqL.of hD), _, _, rfl, rfl, ?_, ?_⟩
  · rw [hP.len]
    have h1 := cutL_len (s := s) r9
    have h2 := pow_le9 (n := s) m4 (by omega)
    exact .inl (mulZ (b := 0) (by omega))
  · rw [hP.len]
    dsimp only
    rw [mulNN rfl]
    exact q H2 (s1.trans s2)
theorem ok_how_many_triples (D : Dn K mg "how_many_triples" s_how_many_triples P_how_many_triples) (g : Gx mg) (c_how_many_laying : C8.Cal P w K mg base 2 "how_many_laying" spLaying []) : C8.Cal P w K mg base 3 "how_many_triples" spMany [] := by
  refine D.cal sc_how_many_triples (fun vs H Q E h => ?_) (fun f cdv A outer s H vs Q E hr h => ?_)
  · obtain ⟨v, p, rfl, ⟨a, b, rfl, ha, hb⟩, ok, q⟩ := h
    rfl
  obtain ⟨v, p, rfl, ⟨a, b, rfl, ha, hb⟩, ok, q⟩ := h
  have nd := sc_how_many_triples.nd
  refine ⟨_, (pss_one (ps_ret (pe_callB (cr_sum rfl) rfl g.sum b_sum (pa_cons (pe_lc (own := [("size", 1)]) rfl nd (pi_range1 (by rfl) g.range (pa_cons (pe_op op_add (pe_ix ix_tup (pv 0) pe_int (fun _ _ => rfl)) pe_int) pa_nil)) (blkOk_by (own := [("size", 1)]) (N := N_how_many_triples) (sc := defScope s_how_many_triples) (by decide +kernel)) (fun _ _ _ _ _ => (pg_name (i := 1) nd rfl (.inl rfl))) (fun _ _ _ _ _ => pts_nil) (fun _ _ _ _ _ => (C8.pe_c c_how_many_laying (by exact hr) (by decide) rfl (pa_cons (pv 0) (pa_cons (pv 1) pa_nil))))) pa_nil)))), ?_⟩
  have r9 := ok.r9
  refine ⟨_, rfl, a, _, 0, _, rfl, rfl, SqT.of ha, rfl, _, _, rfl, rfl, ?_⟩
  refine ⟨(p.room : Int) + 1, rfl, by omega, by omega, fun D hD => ?_⟩
  have e : ((p.room : Int) + 1).toNat = p.room + 1 := by omega
  rw [e]
  refine lc_range (lo := 0) (fun i H2 => Same H H2 ∧ H2 D = some (.lst (((List.range i).map fun i => ((p.many ^ i * (cutL p.room i).length : Nat) : Int)).map V.int))) ⟨Same.new hD _, upd_same⟩ ?_ ?_
  · rintro i H2 hi ⟨s2, h2⟩
    refine ⟨rfl, ?_⟩
    refine ⟨_, rfl, _, rfl, .ref a, p, i, by rw [Int.zero_add]; rfl, ⟨a, b, rfl, s2 _ _ ha, PrAt.mono hb s2⟩, ok, by omega, fun H3 s3 => ⟨_, s3 _ _ h2, ?_, fun b o e => ?_, ?_⟩⟩
    · rw [List.length_map, List.length_map, List.length_range]
      exact szl (by omega)
    · rw [upd_ne (ne_of_none e hD)]
      exact s3 _ _ (s2 b o e)
    · rw [upd_same, List.range_succ, List.map_append, List.map_append]
      rfl
  · rintro H2 ⟨s2, h2⟩
    refine ⟨D, _, rfl, SqL.of h2, ?_⟩
    have e : ((List.range (p.room + 1)).map fun i => ((p.many ^ i * (cutL p.room i).length : Nat) : Int)).sum = ((tally p.room p.many : Nat) : Int) := by
      unfold tally
      generalize List.range (p.room + 1) = l
      induction l with
      | nil => rfl
      | cons x r ih => rw [List.map_cons, List.sum_cons, ih, List.map_cons, List.sum_cons, Int.natCast_add]
    rw [e]
    exact q H2 s2
theorem ok_count (D : Dn K mg "count" s_count P_count) (g : Gx mg) (c_check_plan : C8.Cal P w K mg base 3 "check_plan" spChPlan []) (c_how_many_triples : C8.Cal P w K mg base 3 "how_many_triples" spMany []) : C8.Cal P w K mg base 4 "count" spMany [] := by
  refine D.cal sc_count (fun vs H Q E h => ?_) (fun f cdv A outer s H vs Q E hr h => ?_)
  · obtain ⟨v, p, rfl, hp, ok, q⟩ := h
    rfl
  obtain ⟨v, p, rfl, hp, ok, q⟩ := h
  have nd := sc_count.nd
  refine ⟨_, (pss_cons (ps_expr (C8.pe_c c_check_plan hr (by decide) rfl (pa_cons (pv 0) pa_nil)))
    (pss_one (ps_ret (C8.pe_c c_how_many_triples hr (by decide) rfl (pa_cons (pv 0) pa_nil))))), ?_⟩
  refine ⟨_, rfl, v, p, rfl, hp, ok, fun H1 s1 => ?_⟩
  exact ⟨_, rfl, v, p, rfl, hp.mono s1, ok, fun H2 s2 => q H2 (s1.trans s2)⟩
theorem in45 : (10 : Int) ^ (18 : Int).toNat = 1000000000000000000 := by decide
theorem in45p : (0 : Int) ≤ 18 ∧ (18 : Int) ≤ 1000000 ∧ (10 : Int).natAbs < 2 ^ 64 := by decide
theorem cut_up (l : List Nat) (n : Nat) : cutS (tx l) none (some (n : Int)) = tx (l.take n) := by
  rw [cut_tx, HT.sIx_none, HT.sIx_nat, List.drop_zero, Nat.sub_zero]
  congr 1
  by_cases h : n ≤ l.length
  · rw [Nat.min_eq_left h]
  · rw [Nat.min_eq_right (by omega), List.take_of_length_le (Nat.le_refl _), List.take_of_length_le (by omega)]
theorem ok_law_are_done_often (D : Dn K mg "_law_are_done_often" s_law_are_done_often P_law_are_done_often) (g : Gx mg) (c_told : C8.Cal P w K mg base 12 "told" spTold []) (c_cost : C8.Cal P w K mg base 10 "cost" spCost []) (c_M_init : C8.Mak P w K mg base 4 "Machine" C (spMInit C) []) (c_M_do : C8.Met P w K mg base 12 C "do" (spMDo C) []) (c_M_spent : C8.Met P w K mg base 1 C "spent" (spMSpent C) []) : C8.Cal P w K mg base 13 "_law_are_done_often" spOften [] := by
  refine D.cal sc_law_are_done_often (fun vs H Q E h => ?_) (fun f cdv A outer s H vs Q E hr h => ?_)
  · obtain ⟨r, n, rfl, r1, r9, hn, q⟩ := h
    rfl
  obtain ⟨r, n, rfl, r1, r9, hn, q⟩ := h
  have nd := sc_law_are_done_often.nd
  refine ⟨_, (pss_cons (ps_par (i := 2) (j := 3) (by rfl) nd rfl rfl (by decide) rfl rfl (pa_cons (pe_tup (pa_cons (pv 0) (pa_cons pe_int (pa_cons (pe_tupF (pa_cons pe_int (pa_cons pe_int pa_nil))) (pa_cons pe_int pa_nil))))) (pa_cons (pe_callB (call_min2 rfl) rfl g.min b_min (pa_cons (pv 0) (pa_cons (pv 1) pa_nil))) pa_nil)) (by rfl))
    (pss_cons (ps_asg (pe_tup (pa_cons (pe_tup (pa_cons pe_str (pa_cons pe_str pa_nil))) (pa_cons (pe_tup (pa_cons pe_str pa_nil)) pa_nil))) (pg_tup (by rfl) (pgs_cons (pg_name (i := 4) nd rfl (.inl rfl)) (pgs_cons (pg_name (i := 5) nd rfl (.inl rfl)) pgs_nil))))
    (pss_cons (ps_if (pt_cmpR (op_neD hr.units) (C8.pe_c c_told hr (by decide) rfl (pa_cons (pv 2) (pa_cons (pe_tup (pa_cons pe_str (pa_cons (pv 1) (pa_cons (pv 4) pa_nil)))) pa_nil))) (pe_tup (pa_cons pe_int (pa_cons (pe_op op_sub (pv 0) (pv 3)) (pa_cons (pe_op op_mulS pe_str (pv 3)) pa_nil)))) (nomark _)) (pss_one (ps_ret pe_bl)) pss_nil)
    (pss_cons (ps_if (pt_cmpR op_ne (C8.pe_c c_cost hr (by decide) rfl (pa_cons (pv 2) (pa_cons (pe_tup (pa_cons pe_str (pa_cons (pv 1) (pa_cons (pv 4) pa_nil)))) pa_nil))) (pe_op op_mul pe_int (pv 1)) (nomark _)) (pss_one (ps_ret pe_bl)) pss_nil)
    (pss_cons (ps_set (i := 6) nd rfl (.inl rfl) (pe_tup (pa_cons (pe_ifExp (pt_cmpR op_lt (pv 3) (pv 0) (nomark _)) (pv 3) pe_int) (pa_cons (pe_op op_sub (pv 0) (pv 3)) (pa_cons pe_str pa_nil)))))
    (pss_cons (ps_if (PW.pt (pw_or (pt_cmpR (op_neD hr.units) (C8.pe_c c_told hr (by decide) rfl (pa_cons (pv 2) (pa_cons (pe_tup (pa_cons pe_str (pa_cons (pv 1) (pa_cons (pv 5) pa_nil)))) pa_nil))) (pv 6) (nomark _)) (pw_or1 (pt_cmpR op_ne (C8.pe_c c_cost hr (by decide) rfl (pa_cons (pv 2) (pa_cons (pe_tup (pa_cons pe_str (pa_cons (pv 1) (pa_cons (pv 5) pa_nil)))) pa_nil))) (pe_op op_mul pe_int (pv 1)) (nomark _))))) (pss_one (ps_ret pe_bl)) pss_nil)
    (pss_cons (ps_par (i := 7) (j := 8) (by rfl) nd rfl rfl (by decide) rfl rfl (pa_cons (pe_tup (pa_cons pe_str (pa_cons (pe_tup (pa_cons (pv 4) (pa_cons (pe_tup (pa_cons pe_str (pa_cons pe_str pa_nil))) (pa_cons (pv 5) pa_nil)))) pa_nil))) (pa_cons (pe_tup (pa_cons pe_str (pa_cons (pe_tup (pa_cons (pv 5) (pa_cons (pv 4) (pa_cons (pv 5) pa_nil)))) pa_nil))) pa_nil)) (by rfl))
    (pss_cons (ps_set (i := 9) nd rfl (.inl rfl) (pe_ifExp (pt_cmpR op_gt (pv 1) pe_int (nomark _)) (pe_callB (call_max2 rfl) rfl g.max b_max (pa_cons (pe_op op_sub (pe_op op_sub (pv 0) (pv 3)) pe_int) (pa_cons pe_int pa_nil))) (pv 0)))
    (pss_cons (ps_if (pt_cmpR (op_neD hr.units) (C8.pe_c c_told hr (by decide) rfl (pa_cons (pv 2) (pa_cons (pe_tup (pa_cons pe_str (pa_cons (pv 1) (pa_cons (pv 7) pa_nil)))) pa_nil))) (pe_tup (pa_cons pe_int (pa_cons (pv 9) (pa_cons (pe_ifExp (pt_cmpR op_gt (pv 0) pe_int (nomark _)) (pe_slice sl_str (pe_op op_mulS pe_str (pv 3)) po_none (po_some (pe_op op_sub (pv 0) pe_int))) pe_str) pa_nil)))) (nomark _)) (pss_one (ps_ret pe_bl)) pss_nil)
    (pss_cons (ps_set (i := 10) nd rfl (.inl rfl) (C8.pe_mk c_M_init hr (by decide) rfl (pa_cons (pv 2) (pa_cons pe_str pa_nil))))
    (pss_cons (ps_if (PW.pt (pw_or (pt_cmpR op_ne (C8.pe_mt c_M_do hr (by decide) (pv 10) (pa_cons (pe_tup (pa_cons pe_str (pa_cons (pv 1) (pa_cons (pv 4) pa_nil)))) pa_nil)) (pe_op op_mulS pe_str (pv 3)) (nomark _)) (pw_or1 (pt_cmpR op_ne (C8.pe_mt0 c_M_spent hr (by decide) (pv 10)) (pe_op op_mul pe_int (pv 1)) (nomark _))))) (pss_one (ps_ret pe_bl)) pss_nil)
    (pss_cons (ps_set (i := 11) nd rfl (.inl rfl) (pe_tup (pa_cons pe_str (pa_cons (pe_tup (pa_cons (pe_tup (pa_cons pe_str (pa_cons (pv 1) (pa_cons (pv 4) pa_nil)))) (pa_cons (pe_tup (pa_cons pe_str (pa_cons (pe_op op_pow pe_int pe_int) (pa_cons (pv 5) pa_nil)))) pa_nil))) pa_nil))))
    (pss_one (ps_ret (pe_and (pe_cmpR (op_eqD hr.units) (C8.pe_c c_told hr (by decide) rfl (pa_cons (pv 2) (pa_cons (pv 11) pa_nil))) (pe_tup (pa_cons pe_int (pa_cons pe_int (pa_cons pe_str pa_nil)))) (nomark _)) (pe_one (pe_cmpR (op_eqD hr.units) (C8.pe_c c_told hr (by decide) rfl (pa_cons (pv 2) (pa_cons (pe_tup (pa_cons pe_str (pa_cons pe_int (pa_cons (pv 8) pa_nil)))) pa_nil))) (pe_tup (pa_cons pe_int (pa_cons (pv 0) (pa_cons pe_str pa_nil)))) (nomark _)))))))))))))))))), ?_⟩
  have s0 : Same H H := Same.refl H
  have elow : (if (n : Int) < (r : Int) then (n : Int) else (r : Int)) = ((lowN r n : Nat) : Int) := by
    show _ = ((min r n : Nat) : Int)
    split <;> omega
  have hlow : lowN r n ≤ r := Nat.min_le_left ..
  have elow2 : (r : Int) - ((lowN r n : Nat) : Int) = ((r - lowN r n : Nat) : Int) := by omega
  refine ⟨_, rfl, ?_⟩
  refine ⟨by (first | (show _ ≤ sizeLine; decide) | (simp only [List.length_cons, List.length_nil]; decide)), fun pb obpb hobpb hNewpb => ?_⟩
  generalize hGenpb : upd _ pb _ = H1
  obtain ⟨s1, hpb⟩ := Same.ofG hNewpb hGenpb
  replace hpb : TupF H1 pb _ := ⟨obpb, hobpb, hpb⟩
  replace s0 := s0.trans s1
  refine ⟨by (first | (show _ ≤ sizeLine; decide) | (simp only [List.length_cons, List.length_nil]; decide)), fun pa hNewpa => ?_⟩
  generalize hGenpa : upd _ pa _ = H2
  obtain ⟨s2, hpa⟩ := Same.ofG hNewpa hGenpa
  replace s0 := s0.trans s2
  replace hpb := TupF.mono hpb s2
  have hp : PlanAt H2 (.ref pa) (pl15 r 2 [3, 2] 5) := PlanAt.mk hpb hpa
  have ok : (pl15 r 2 [3, 2] 5).Ok := pl15_ok r1 r9 (by decide) (by decide) rfl (by decide) (by decide) (by decide)
  refine ⟨_, rfl, _, rfl, _, _, rfl, ?_⟩
  rw [elow]
  refine ⟨_, _, rfl, ?_⟩
  refine ⟨by (first | (show _ ≤ sizeLine; decide) | (simp only [List.length_cons, List.length_nil]; decide)), fun p1 hNewp1 => ?_⟩
  generalize hGenp1 : upd _ p1 _ = H3
  obtain ⟨s3, h1⟩ := Same.ofG hNewp1 hGenp1
  replace s0 := s0.trans s3
  replace hp := hp.mono s3
  refine ⟨by (first | (show _ ≤ sizeLine; decide) | (simp only [List.length_cons, List.length_nil]; decide)), fun p2 hNewp2 => ?_⟩
  generalize hGenp2 : upd _ p2 _ = H4
  obtain ⟨s4, h2⟩ := Same.ofG hNewp2 hGenp2
  replace s0 := s0.trans s4
  replace hp := hp.mono s4
  replace h1 := s4 _ _ h1
  refine ⟨by (first | (show _ ≤ sizeLine; decide) | (simp only [List.length_cons, List.length_nil]; decide)), fun p3 hNewp3 => ?_⟩
  generalize hGenp3 : upd _ p3 _ = H5
  obtain ⟨s5, h3⟩ := Same.ofG hNewp3 hGenp3
  replace s0 := s0.trans s5
  replace hp := hp.mono s5
  replace h1 := s5 _ _ h1
  replace h2 := s5 _ _ h2
  have w1 := wat_push h1
  have w2 := wat_pop h2
  refine ⟨p3, _, rfl, SqT.of h3, rfl, _, _, rfl, _, _, rfl, rfl, ?_⟩
  have wok1 : WOk 2 (.times n (.push 97)) := ⟨⟨hn, in2a⟩, by show 2 ≤ 60; decide, by show 2 ≤ 8; decide⟩
  have wok2 : WOk 2 (.times n .pop) := ⟨⟨hn, trivial⟩, by show 2 ≤ 60; decide, by show 2 ≤ 8; decide⟩
  refine ⟨_, rfl, _, rfl, _, rfl, ?_⟩
  refine ⟨by (first | (show _ ≤ sizeLine; decide) | (simp only [List.length_cons, List.length_nil]; decide)), fun p4 hNewp4 => ?_⟩
  generalize hGenp4 : upd _ p4 _ = H6
  obtain ⟨s6, h4⟩ := Same.ofG hNewp4 hGenp4
  replace s0 := s0.trans s6
  replace hp := hp.mono s6
  replace w1 := w1.tups (Tups.of s6)
  replace w2 := w2.tups (Tups.of s6)
  have w3 := wat_times h4 w1
  refine ⟨.ref pa, pl15 r 2 [3, 2] 5, .ref p4, _, rfl, hp, ok, w3, wok1, fun H7 v7 s7 t7 => ?_⟩
  replace s0 := s0.trans s7
  replace hp := hp.mono s7
  replace w1 := w1.tups (Tups.of s7)
  replace w2 := w2.tups (Tups.of s7)
  replace w3 := w3.tups (Tups.of s7)
  refine ⟨_, rfl, _, rfl, _, _, rfl, rfl, _, rfl, [97], lowN r n, congrArg V.str s_a1, rfl, by show 1 * _ ≤ _; omega, by omega, ?_⟩
  refine ⟨by (first | (show _ ≤ sizeLine; decide) | (simp only [List.length_cons, List.length_nil]; decide)), fun p5 hNewp5 => ?_⟩
  generalize hGenp5 : upd _ p5 _ = H8
  obtain ⟨s8, h5⟩ := Same.ofG hNewp5 hGenp5
  replace s0 := s0.trans s8
  replace hp := hp.mono s8
  replace w1 := w1.tups (Tups.of s8)
  replace w2 := w2.tups (Tups.of s8)
  replace t7 := t7.mono s8
  have t8 : TripAt H8 (.ref p5) ((W.times n (.push 97)).tri r) := by
    show TripAt _ _ (tpw r (tstep r 97) n)
    rw [often_push r1 r9]
    exact trip_mk h5 rfl elow2 (by rw [rep_flat])
  refine ne_trip (W.tri_ok (many := 2) r1 _ wok1.can) t7 t8 ⟨_, rfl, iteF ?_⟩
  -- cost
  refine ⟨_, rfl, _, rfl, _, rfl, ?_⟩
  refine ⟨by (first | (show _ ≤ sizeLine; decide) | (simp only [List.length_cons, List.length_nil]; decide)), fun p6 hNewp6 => ?_⟩
  generalize hGenp6 : upd _ p6 _ = H9
  obtain ⟨s9, h6⟩ := Same.ofG hNewp6 hGenp6
  replace s0 := s0.trans s9
  replace hp := hp.mono s9
  replace w1 := w1.tups (Tups.of s9)
  replace w2 := w2.tups (Tups.of s9)
  have w4 := wat_times h6 w1
  refine ⟨.ref pa, pl15 r 2 [3, 2] 5, .ref p6, _, rfl, hp, ok, w4, wok1, fun H10 s10 => ?_⟩
  replace s0 := s0.trans s10
  replace hp := hp.mono s10
  replace w1 := w1.tups (Tups.of s10)
  replace w2 := w2.tups (Tups.of s10)
  refine ⟨_, rfl, _, _, rfl, rfl, .inl ⟨by decide, by decide⟩, ?_⟩
  have ec1 : V.int ((W.times n (.push 97)).prc (cst (pl15 r 2 [3, 2] 5))) = V.int (3 * (n : Int)) := congrArg V.int (Int.mul_comm (n : Int) 3)
  refine ⟨rfl, _, rfl, iteNS ec1 ?_⟩
  -- pops
  have esk : ∀ (σ : L2.St) (H : Hp) (Q : VK), σ[3]? = some (some (.int ((lowN r n : Nat) : Int))) → σ[0]? = some (some (.int (r : Int))) → Q (.int ((if lowN r n < r then lowN r n else 0 : Nat) : Int)) H → tIf (tTest (tOp (rI0 fun i j => V.bl (decide (i < j))) (tVar 3) (tVar 0))) (tVar 3) (tC (.int 0)) σ H Q := fun σ H Q h3 h0 hq => by
    refine ⟨_, h3, _, h0, _, _, rfl, rfl, _, rfl, ite2 (fun c => ?_) (fun c => ?_)⟩
    · have c1 := of_decide_eq_true c
      rw [if_pos (by omega)] at hq
      exact ⟨_, h3, hq⟩
    · have c1 : ¬ ((lowN r n : Nat) : Int) < (r : Int) := fun z => c (decide_eq_true z)
      rw [if_neg (by omega)] at hq
      exact hq
  refine esk _ _ _ rfl rfl ?_
  refine ⟨_, rfl, _, rfl, _, _, rfl, rfl, ?_⟩
  refine ⟨by (first | (show _ ≤ sizeLine; decide) | (simp only [List.length_cons, List.length_nil]; decide)), fun p7 hNewp7 => ?_⟩
  generalize hGenp7 : upd _ p7 _ = H11
  obtain ⟨s11, h7⟩ := Same.ofG hNewp7 hGenp7
  replace s0 := s0.trans s11
  replace hp := hp.mono s11
  replace w1 := w1.tups (Tups.of s11)
  replace w2 := w2.tups (Tups.of s11)
  have t11 : TripAt H11 (.ref p7) ((W.times n .pop).tri r) := by
    show TripAt _ _ (tpw r (tstep r 45) n)
    rw [often_pop r1 r9]
    exact trip_mk h7 rfl elow2 s_empty
  refine ⟨_, rfl, _, rfl, _, rfl, ?_⟩
  refine ⟨by (first | (show _ ≤ sizeLine; decide) | (simp only [List.length_cons, List.length_nil]; decide)), fun p8 hNewp8 => ?_⟩
  generalize hGenp8 : upd _ p8 _ = H12
  obtain ⟨s12, h8⟩ := Same.ofG hNewp8 hGenp8
  replace s0 := s0.trans s12
  replace hp := hp.mono s12
  replace w1 := w1.tups (Tups.of s12)
  replace w2 := w2.tups (Tups.of s12)
  replace t11 := t11.mono s12
  have w5 := wat_times h8 w2
  refine ⟨.ref pa, pl15 r 2 [3, 2] 5, .ref p8, _, rfl, hp, ok, w5, wok2, fun H13 v13 s13 t13 => ?_⟩
  replace s0 := s0.trans s13
  replace hp := hp.mono s13
  replace w1 := w1.tups (Tups.of s13)
  replace w2 := w2.tups (Tups.of s13)
  replace t11 := t11.mono s13
  refine ⟨_, rfl, ?_⟩
  refine ne_trip (W.tri_ok (many := 2) r1 _ wok2.can) t13 t11 ⟨_, rfl, iteF ?_⟩
  refine ⟨_, rfl, _, rfl, _, rfl, ?_⟩
  refine ⟨by (first | (show _ ≤ sizeLine; decide) | (simp only [List.length_cons, List.length_nil]; decide)), fun p9 hNewp9 => ?_⟩
  generalize hGenp9 : upd _ p9 _ = H14
  obtain ⟨s14, h9⟩ := Same.ofG hNewp9 hGenp9
  replace s0 := s0.trans s14
  replace hp := hp.mono s14
  replace w1 := w1.tups (Tups.of s14)
  replace w2 := w2.tups (Tups.of s14)
  have w6 := wat_times h9 w2
  refine ⟨.ref pa, pl15 r 2 [3, 2] 5, .ref p9, _, rfl, hp, ok, w6, wok2, fun H15 s15 => ?_⟩
  replace s0 := s0.trans s15
  replace hp := hp.mono s15
  replace w1 := w1.tups (Tups.of s15)
  replace w2 := w2.tups (Tups.of s15)
  have ec2 : V.int ((W.times n .pop).prc (cst (pl15 r 2 [3, 2] 5))) = V.int (5 * (n : Int)) := congrArg V.int (Int.mul_comm (n : Int) 5)
  refine ⟨_, rfl, _, _, rfl, rfl, .inl ⟨by decide, by decide⟩, ?_⟩
  refine ⟨rfl, _, rfl, iteNS ec2 ?_⟩
  -- rows
  refine ⟨_, rfl, ?_⟩
  refine ⟨by (first | (show _ ≤ sizeLine; decide) | (simp only [List.length_cons, List.length_nil]; decide)), fun g1 hNewg1 => ?_⟩
  generalize hGeng1 : upd _ g1 _ = H16
  obtain ⟨s16, k1⟩ := Same.ofG hNewg1 hGeng1
  replace s0 := s0.trans s16
  replace hp := hp.mono s16
  replace w1 := w1.tups (Tups.of s16)
  replace w2 := w2.tups (Tups.of s16)
  refine ⟨_, rfl, ?_⟩
  refine ⟨by (first | (show _ ≤ sizeLine; decide) | (simp only [List.length_cons, List.length_nil]; decide)), fun g2 hNewg2 => ?_⟩
  generalize hGeng2 : upd _ g2 _ = H17
  obtain ⟨s17, k2⟩ := Same.ofG hNewg2 hGeng2
  replace s0 := s0.trans s17
  replace hp := hp.mono s17
  replace w1 := w1.tups (Tups.of s17)
  replace w2 := w2.tups (Tups.of s17)
  replace k1 := s17 _ _ k1
  refine ⟨by (first | (show _ ≤ sizeLine; decide) | (simp only [List.length_cons, List.length_nil]; decide)), fun g3 hNewg3 => ?_⟩
  generalize hGeng3 : upd _ g3 _ = H18
  obtain ⟨s18, k3⟩ := Same.ofG hNewg3 hGeng3
  replace s0 := s0.trans s18
  replace hp := hp.mono s18
  replace w1 := w1.tups (Tups.of s18)
  replace w2 := w2.tups (Tups.of s18)
  replace k1 := s18 _ _ k1
  replace k2 := s18 _ _ k2
  have wg := wat_row3 k3 k2 w1 (wat_pushb k1) w2
  refine ⟨_, rfl, _, rfl, _, rfl, ?_⟩
  refine ⟨by (first | (show _ ≤ sizeLine; decide) | (simp only [List.length_cons, List.length_nil]; decide)), fun g4 hNewg4 => ?_⟩
  generalize hGeng4 : upd _ g4 _ = H19
  obtain ⟨s19, k4⟩ := Same.ofG hNewg4 hGeng4
  replace s0 := s0.trans s19
  replace hp := hp.mono s19
  replace w1 := w1.tups (Tups.of s19)
  replace w2 := w2.tups (Tups.of s19)
  replace wg := wg.tups (Tups.of s19)
  refine ⟨by (first | (show _ ≤ sizeLine; decide) | (simp only [List.length_cons, List.length_nil]; decide)), fun g5 hNewg5 => ?_⟩
  generalize hGeng5 : upd _ g5 _ = H20
  obtain ⟨s20, k5⟩ := Same.ofG hNewg5 hGeng5
  replace s0 := s0.trans s20
  replace hp := hp.mono s20
  replace w1 := w1.tups (Tups.of s20)
  replace w2 := w2.tups (Tups.of s20)
  replace wg := wg.tups (Tups.of s20)
  replace k4 := s20 _ _ k4
  have wo := wat_row3 k5 k4 w2 w1 w2
  refine ⟨_, _, rfl, ?_⟩
  have edp : ∀ (σ : L2.St) (H : Hp) (Q : VK), σ[3]? = some (some (.int ((lowN r n : Nat) : Int))) → σ[1]? = some (some (.int (n : Int))) → σ[0]? = some (some (.int (r : Int))) → Q (.int ((if 0 < lowN r n then r - lowN r n - 1 else r : Nat) : Int)) H →
      tIf (tTest (tOp (rI0 fun i j => V.bl (decide (j < i))) (tVar 1) (tC (V.int 0)))) (tCB (fun xs H Q => ∃ i j, xs = [V.int i, V.int j] ∧ Q (V.int (if j > i then j else i)) H) (tCons (tOp (rI0 fun i j => V.int (i - j)) (tOp (rI0 fun i j => V.int (i - j)) (tVar 0) (tVar 3)) (tC (V.int 1))) (tCons (tC (V.int 0)) tNil))) (tVar 0) σ H Q := fun σ H Q h3 h1 h0 hq => by
    have hl : lowN r n = min r n := rfl
    refine ⟨_, h1, _, _, rfl, rfl, _, rfl, ite2 (fun c => ?_) (fun c => ?_)⟩
    · have c1 := of_decide_eq_true c
      rw [if_pos (by omega)] at hq
      refine ⟨_, h0, _, h3, _, _, rfl, rfl, _, _, rfl, rfl, _, _, rfl, ?_⟩
      have e : (if (0 : Int) > (r : Int) - ((lowN r n : Nat) : Int) - 1 then (0 : Int) else (r : Int) - ((lowN r n : Nat) : Int) - 1) = ((r - lowN r n - 1 : Nat) : Int) := by
        split <;> omega
      rw [e]
      exact hq
    · have c1 : ¬ (0 : Int) < (n : Int) := fun z => c (decide_eq_true z)
      rw [if_neg (by omega)] at hq
      exact ⟨_, h0, hq⟩
  refine edp _ _ _ rfl rfl rfl ?_
  have wok3 : WOk 2 (.times n growsW) := ⟨⟨hn, grows_can⟩, by show 5 ≤ 60; decide, by show 3 ≤ 8; decide⟩
  refine ⟨_, rfl, _, rfl, _, rfl, ?_⟩
  refine ⟨by (first | (show _ ≤ sizeLine; decide) | (simp only [List.length_cons, List.length_nil]; decide)), fun p10 hNewp10 => ?_⟩
  generalize hGenp10 : upd _ p10 _ = H21
  obtain ⟨s21, h10⟩ := Same.ofG hNewp10 hGenp10
  replace s0 := s0.trans s21
  replace hp := hp.mono s21
  replace w1 := w1.tups (Tups.of s21)
  replace w2 := w2.tups (Tups.of s21)
  replace wg := wg.tups (Tups.of s21)
  replace wo := wo.tups (Tups.of s21)
  have w7 := wat_times h10 wg
  refine ⟨.ref pa, pl15 r 2 [3, 2] 5, .ref p10, .times n growsW, rfl, hp, ok, w7, wok3, fun H22 v22 s22 t22 => ?_⟩
  replace s0 := s0.trans s22
  replace hp := hp.mono s22
  replace w1 := w1.tups (Tups.of s22)
  replace w2 := w2.tups (Tups.of s22)
  replace wg := wg.tups (Tups.of s22)
  replace wo := wo.tups (Tups.of s22)
  have etx : ∀ (σ : L2.St) (H : Hp) (Q : VK), σ[3]? = some (some (.int ((lowN r n : Nat) : Int))) → σ[0]? = some (some (.int (r : Int))) → Q (.str (tx (if 1 < r then (List.replicate (lowN r n) 97).take (r - 1) else []))) H →
      tIf (tTest (tOp (rI0 fun i j => V.bl (decide (j < i))) (tVar 0) (tC (V.int 1)))) (tSl rSlS (tOp rMulS (tC (V.str "a")) (tVar 3)) tNoPart (tPart (tOp (rI0 fun i j => V.int (i - j)) (tVar 0) (tC (V.int 1))))) (tC (V.str "")) σ H Q := fun σ H Q h3 h0 hq => by
    refine ⟨_, h0, _, _, rfl, rfl, _, rfl, ite2 (fun c => ?_) (fun c => ?_)⟩
    · have c1 := of_decide_eq_true c
      rw [if_pos (by omega)] at hq
      refine ⟨_, h3, [97], lowN r n, congrArg V.str s_a1, rfl, by show 1 * _ ≤ _; omega, by omega, _, h0, _, _, rfl, rfl, _, rfl, _, rfl, ?_, ?_⟩
      · rw [rep_flat, tx_len, List.length_replicate]
        exact sz (by omega)
      · have e : (r : Int) - 1 = ((r - 1 : Nat) : Int) := by omega
        rw [e, rep_flat, cut_up]
        exact hq
    · have c1 : ¬ (1 : Int) < (r : Int) := fun z => c (decide_eq_true z)
      rw [if_neg (by omega)] at hq
      rw [s_empty]
      exact hq
  refine ⟨_, rfl, ?_⟩
  refine etx _ _ _ rfl rfl ?_
  refine ⟨by (first | (show _ ≤ sizeLine; decide) | (simp only [List.length_cons, List.length_nil]; decide)), fun p11 hNewp11 => ?_⟩
  generalize hGenp11 : upd _ p11 _ = H23
  obtain ⟨s23, h11⟩ := Same.ofG hNewp11 hGenp11
  replace s0 := s0.trans s23
  replace hp := hp.mono s23
  replace w1 := w1.tups (Tups.of s23)
  replace w2 := w2.tups (Tups.of s23)
  replace wg := wg.tups (Tups.of s23)
  replace wo := wo.tups (Tups.of s23)
  replace t22 := t22.mono s23
  have t23 : TripAt H23 (.ref p11) ((W.times n growsW).tri r) := by
    show TripAt _ _ (tpw r (growsW.tri r) n)
    rw [often_grows r1 r9]
    exact trip_mk h11 rfl rfl rfl
  refine ne_trip (W.tri_ok (many := 2) r1 _ wok3.can) t22 t23 ⟨_, rfl, iteF ?_⟩
  -- a machine
  refine ⟨_, rfl, fun x dx hx hdx hne => ?_⟩
  have sx : Same H23 (upd (upd H23 dx (.own x)) x (.ins C dx [])) := made_same0 hx hdx
  refine ⟨x, dx, .ref pa, pl15 r 2 [3, 2] 5, [], congrArg (fun z => [V.ref x, V.ref pa, V.str z]) s_empty, upd_same, hp.mono sx, ok, Nat.zero_le _, fun c hc => by simp at hc, fun H24 pm kk24 npm M => ⟨rfl, ?_⟩⟩
  have s24 : Same H23 H24 := made_same hx hdx hne kk24
  have nx : H x = none := none_of s0 hx
  have np : H pm = none := none_of s0 (made_none hx hdx npm)
  replace s0 := s0.trans s24
  replace hp := hp.mono s24
  replace w1 := w1.tups (Tups.of s24)
  replace w2 := w2.tups (Tups.of s24)
  replace wg := wg.tups (Tups.of s24)
  replace wo := wo.tups (Tups.of s24)
  have mok : MS.Ok ⟨pl15 r 2 [3, 2] 5, [], 0, tunt r, []⟩ := ⟨ok, Nat.zero_le _, fun c hc => by simp at hc, tunt_ok, fun y hy => by simp at hy⟩
  obtain ⟨dx1, fs1, ho1, hn1⟩ := M.at
  refine ⟨_, rfl, x, dx1, fs1, rfl, ho1, hn1 _ nf_do, ?_⟩
  refine ⟨_, rfl, _, rfl, ?_⟩
  refine ⟨by (first | (show _ ≤ sizeLine; decide) | (simp only [List.length_cons, List.length_nil]; decide)), fun p12 hNewp12 => ?_⟩
  generalize hGenp12 : upd _ p12 _ = H25
  obtain ⟨s25, h12⟩ := Same.ofG hNewp12 hGenp12
  replace s0 := s0.trans s25
  replace hp := hp.mono s25
  replace w1 := w1.tups (Tups.of s25)
  replace w2 := w2.tups (Tups.of s25)
  replace wg := wg.tups (Tups.of s25)
  replace wo := wo.tups (Tups.of s25)
  replace M := M.mono s25
  have w8 := wat_times h12 w1
  refine ⟨x, pm, _, .ref p12, .times n (.push 97), rfl, M, mok, Nat.zero_le _, w8, wok1, fun H26 k26 M2 => ?_⟩
  replace s0 := Same.keepN s0 k26 nx np
  replace hp := hp.tups (k26.tupsM M)
  replace w1 := w1.tups (k26.tupsM M)
  replace w2 := w2.tups (k26.tupsM M)
  replace wg := wg.tups (k26.tupsM M)
  replace wo := wo.tups (k26.tupsM M)
  have mok2 := mok.deed (t := (W.times n (.push 97)).tri r) (W.tri_ok r1 _ wok1.can) ((W.times n (.push 97)).prc (cst (pl15 r 2 [3, 2] 5)))
  have eby : V.str (tx (tby ((W.times n (.push 97)).tri r) [])) = V.str (tx (List.replicate (lowN r n) [97]).flatten) := by
    rw [rep_flat]
    show V.str (tx (tby (tpw r (tstep r 97) n) [])) = _
    rw [often_push r1 r9]
    simp [tby, ct, tp]
  refine ⟨_, rfl, [97], lowN r n, congrArg V.str s_a1, rfl, by show 1 * _ ≤ _; omega, by omega, ?_⟩
  refine ⟨rfl, _, rfl, iteNS eby ?_⟩
  obtain ⟨dx2, fs2, ho2, hn2⟩ := M2.at
  refine ⟨_, rfl, x, dx2, fs2, rfl, ho2, hn2 _ nf_spent, x, pm, _, rfl, M2, fun H27 s27 => ?_⟩
  replace s0 := s0.trans s27
  replace hp := hp.mono s27
  replace w1 := w1.tups (Tups.of s27)
  replace w2 := w2.tups (Tups.of s27)
  replace wg := wg.tups (Tups.of s27)
  replace wo := wo.tups (Tups.of s27)
  replace M2 := M2.mono s27
  have esp : V.int (0 + (W.times n (.push 97)).prc (cst (pl15 r 2 [3, 2] 5))) = V.int (3 * (n : Int)) := congrArg V.int (by rw [Int.zero_add]; exact Int.mul_comm (n : Int) 3)
  refine ⟨_, rfl, _, _, rfl, rfl, .inl ⟨by decide, by decide⟩, ?_⟩
  refine ⟨rfl, _, rfl, iteNS esp ?_⟩
  -- the least
  refine ⟨_, rfl, _, rfl, ?_⟩
  refine ⟨by (first | (show _ ≤ sizeLine; decide) | (simp only [List.length_cons, List.length_nil]; decide)), fun g6 hNewg6 => ?_⟩
  generalize hGeng6 : upd _ g6 _ = H28
  obtain ⟨s28, k6⟩ := Same.ofG hNewg6 hGeng6
  replace s0 := s0.trans s28
  replace hp := hp.mono s28
  replace w1 := w1.tups (Tups.of s28)
  replace w2 := w2.tups (Tups.of s28)
  replace wg := wg.tups (Tups.of s28)
  replace wo := wo.tups (Tups.of s28)
  have y1 := wat_times k6 w1
  refine ⟨_, _, rfl, rfl, in45p, _, rfl, ?_⟩
  refine ⟨by (first | (show _ ≤ sizeLine; decide) | (simp only [List.length_cons, List.length_nil]; decide)), fun g7 hNewg7 => ?_⟩
  generalize hGeng7 : upd _ g7 _ = H29
  obtain ⟨s29, k7⟩ := Same.ofG hNewg7 hGeng7
  replace s0 := s0.trans s29
  replace hp := hp.mono s29
  replace w1 := w1.tups (Tups.of s29)
  replace w2 := w2.tups (Tups.of s29)
  replace wg := wg.tups (Tups.of s29)
  replace wo := wo.tups (Tups.of s29)
  replace y1 := y1.tups (Tups.of s29)
  have y2 : WAt H29 (.times 1000000000000000000 .pop) (.ref g7) := wat_times (k7.trans (congrArg (fun z => some (HO.tup [V.str "times", V.int z, V.ref p2])) in45)) w2
  refine ⟨by (first | (show _ ≤ sizeLine; decide) | (simp only [List.length_cons, List.length_nil]; decide)), fun g8 hNewg8 => ?_⟩
  generalize hGeng8 : upd _ g8 _ = H30
  obtain ⟨s30, k8⟩ := Same.ofG hNewg8 hGeng8
  replace s0 := s0.trans s30
  replace hp := hp.mono s30
  replace w1 := w1.tups (Tups.of s30)
  replace w2 := w2.tups (Tups.of s30)
  replace wg := wg.tups (Tups.of s30)
  replace wo := wo.tups (Tups.of s30)
  replace y1 := y1.tups (Tups.of s30)
  replace y2 := y2.tups (Tups.of s30)
  refine ⟨by (first | (show _ ≤ sizeLine; decide) | (simp only [List.length_cons, List.length_nil]; decide)), fun g9 hNewg9 => ?_⟩
  generalize hGeng9 : upd _ g9 _ = H31
  obtain ⟨s31, k9⟩ := Same.ofG hNewg9 hGeng9
  replace s0 := s0.trans s31
  replace hp := hp.mono s31
  replace w1 := w1.tups (Tups.of s31)
  replace w2 := w2.tups (Tups.of s31)
  replace wg := wg.tups (Tups.of s31)
  replace wo := wo.tups (Tups.of s31)
  replace y1 := y1.tups (Tups.of s31)
  replace y2 := y2.tups (Tups.of s31)
  replace k8 := s31 _ _ k8
  have y3 : WAt H31 (leastW n) (.ref g9) := wat_row2 k9 k8 y1 y2
  have wok4 : WOk 2 (leastW n) := ⟨⟨by show 2 ≤ 1000; decide, ⟨hn, in2a⟩, ⟨by decide, trivial⟩, trivial⟩, by show 5 ≤ 60; decide, by show 3 ≤ 8; decide⟩
  refine ⟨_, rfl, _, rfl, .ref pa, pl15 r 2 [3, 2] 5, .ref g9, leastW n, rfl, hp, ok, y3, wok4, fun H32 v32 s32 t32 => ?_⟩
  replace s0 := s0.trans s32
  replace hp := hp.mono s32
  replace w1 := w1.tups (Tups.of s32)
  replace w2 := w2.tups (Tups.of s32)
  replace wg := wg.tups (Tups.of s32)
  replace wo := wo.tups (Tups.of s32)
  replace y3 := y3.tups (Tups.of s32)
  refine ⟨by (first | (show _ ≤ sizeLine; decide) | (simp only [List.length_cons, List.length_nil]; decide)), fun p13 hNewp13 => ?_⟩
  generalize hGenp13 : upd _ p13 _ = H33
  obtain ⟨s33, h13⟩ := Same.ofG hNewp13 hGenp13
  replace s0 := s0.trans s33
  replace hp := hp.mono s33
  replace w1 := w1.tups (Tups.of s33)
  replace w2 := w2.tups (Tups.of s33)
  replace wg := wg.tups (Tups.of s33)
  replace wo := wo.tups (Tups.of s33)
  replace y3 := y3.tups (Tups.of s33)
  replace t32 := t32.mono s33
  have t33 : TripAt H33 (.ref p13) ((leastW n).tri r) := by
    rw [least_tri r1 r9]
    exact trip_mk h13 rfl rfl s_empty
  have okl := W.tri_ok (many := 2) r1 _ wok4.can
  refine eq_trip okl okl t32 t33 fun k hk => ?_
  have ek : k = true := hk.mpr rfl
  subst ek
  refine ⟨_, rfl, iteT ?_⟩
  refine ⟨_, rfl, _, rfl, ?_⟩
  refine ⟨by (first | (show _ ≤ sizeLine; decide) | (simp only [List.length_cons, List.length_nil]; decide)), fun p14 hNewp14 => ?_⟩
  generalize hGenp14 : upd _ p14 _ = H34
  obtain ⟨s34, h14⟩ := Same.ofG hNewp14 hGenp14
  replace s0 := s0.trans s34
  replace hp := hp.mono s34
  replace w1 := w1.tups (Tups.of s34)
  replace w2 := w2.tups (Tups.of s34)
  replace wg := wg.tups (Tups.of s34)
  replace wo := wo.tups (Tups.of s34)
  replace y3 := y3.tups (Tups.of s34)
  have y4 := wat_times (n := 0) h14 wo
  have wok5 : WOk 2 (.times 0 goesW) := ⟨⟨by decide, goes_can⟩, by show 5 ≤ 60; decide, by show 3 ≤ 8; decide⟩
  refine ⟨.ref pa, pl15 r 2 [3, 2] 5, .ref p14, .times 0 goesW, rfl, hp, ok, y4, wok5, fun H35 v35 s35 t35 => ?_⟩
  replace s0 := s0.trans s35
  replace hp := hp.mono s35
  replace w1 := w1.tups (Tups.of s35)
  replace w2 := w2.tups (Tups.of s35)
  replace wg := wg.tups (Tups.of s35)
  replace wo := wo.tups (Tups.of s35)
  replace y3 := y3.tups (Tups.of s35)
  refine ⟨_, rfl, ?_⟩
  refine ⟨by (first | (show _ ≤ sizeLine; decide) | (simp only [List.length_cons, List.length_nil]; decide)), fun p15 hNewp15 => ?_⟩
  generalize hGenp15 : upd _ p15 _ = H36
  obtain ⟨s36, h15⟩ := Same.ofG hNewp15 hGenp15
  replace s0 := s0.trans s36
  replace hp := hp.mono s36
  replace w1 := w1.tups (Tups.of s36)
  replace w2 := w2.tups (Tups.of s36)
  replace wg := wg.tups (Tups.of s36)
  replace wo := wo.tups (Tups.of s36)
  replace y3 := y3.tups (Tups.of s36)
  replace t35 := t35.mono s36
  have t36 : TripAt H36 (.ref p15) ((W.times 0 goesW).tri r) := trip_mk h15 rfl rfl s_empty
  have okl := W.tri_ok (many := 2) r1 _ wok5.can
  refine eq_trip okl okl t35 t36 fun k hk => ?_
  have ek : k = true := hk.mpr rfl
  subst ek
  exact q H36 s0
theorem ok_law_sum (D : Dn K mg "_law_sum" s_law_sum P_law_sum) (g : Gx mg) : C8.Cal P w K mg base 1 "_law_sum" spSum15 [] := by
  refine D.cal sc_law_sum (fun vs H Q E h => ?_) (fun f cdv A outer s H vs Q E hr h => ?_)
  · obtain ⟨r, rfl, r1, r9, q⟩ := h
    rfl
  obtain ⟨r, rfl, r1, r9, q⟩ := h
  have nd := sc_law_sum.nd
  refine ⟨_, (pss_cons (ps_set (i := 1) nd rfl (.inl rfl) (pe_op op_add (pv 0) pe_int))
    (pss_cons (ps_for PassesOwn.never rfl (pi_range2 (by rfl) g.range (pa_cons pe_int (pa_cons (pe_op op_add (pv 0) pe_int) pa_nil))) (pg_name (i := 2) nd rfl (.inl rfl)) (pss_one (ps_set (i := 1) nd rfl (.inl rfl) (pe_op op_add (pv 1) (pe_op op_mul (pe_op op_add (pe_op op_sub (pv 0) (pv 2)) pe_int) (pe_op op_add (pe_op op_sub (pv 0) (pv 2)) pe_int))))))
    (pss_one (ps_ret (pv 1))))), ?_⟩
  refine ⟨_, rfl, _, _, rfl, rfl, _, rfl, _, _, rfl, rfl, _, _, rfl, ⟨by decide, by decide, by omega, by omega⟩, ?_⟩
  have eN : ((r : Int) + 1 - 1).toNat = r := by omega
  rw [eN]
  refine for_range (lo := 1) (fun i σ H2 => ∃ (o : Option V), σ = [some (.int (r : Int)), some (.int (((((List.range i).map fun i => (r - i) * (r - i)).sum + (r + 1) : Nat)) : Int)), o] ∧ H2 = H) ⟨none, by
    show [_, _, _] = _
    simp [L2.start], rfl⟩ ?_ ?_
  · rintro i σ H2 hi ⟨o, rfl, rfl⟩
    refine ⟨_, rfl, _, rfl, _, rfl, _, _, rfl, rfl, _, _, rfl, rfl, _, rfl, _, rfl, _, _, rfl, rfl, _, _, rfl, rfl, _, _, rfl, rfl, ?_, _, _, rfl, rfl, some (.int (1 + (i : Int))), ?_, rfl⟩
    · have e1 : (r : Int) - (1 + (i : Int)) + 1 = ((r - i : Nat) : Int) := by omega
      rw [e1]
      exact .inl (mulZ (b := 0) (by omega))
    · have e1 : (r : Int) - (1 + (i : Int)) + 1 = ((r - i : Nat) : Int) := by omega
      rw [List.range_succ, List.map_append, List.sum_append]
      simp only [e1, List.map_cons, List.map_nil, List.sum_cons, List.sum_nil]
      have e2 : (((((List.range i).map fun i => (r - i) * (r - i)).sum + ((r - i) * (r - i) + 0)) + (r + 1) : Nat) : Int) = ((((List.range i).map fun i => (r - i) * (r - i)).sum + (r + 1) : Nat) : Int) + ((r - i : Nat) : Int) * ((r - i : Nat) : Int) := by
        rw [← Int.natCast_mul]
        omega
      rw [e2]
      rfl
  · rintro σ H2 ⟨o, rfl, rfl⟩
    rw [← sum_tab r (by omega)]
    exact ⟨_, rfl, q H2 (Same.refl _)⟩
theorem ok_law_is_emptied (D : Dn K mg "_law_is_emptied" s_law_is_emptied P_law_is_emptied) (g : Gx mg) (c_cheapest : C8.Cal P w K mg base 4 "cheapest" (spCheap T) []) (c_fewest : C8.Cal P w K mg base 4 "fewest" spFew []) (c_fillers : C8.Cal P w K mg base 4 "fillers" (spFill T) []) (c_befores : C8.Cal P w K mg base 4 "befores" spBefores []) (c_count : C8.Cal P w K mg base 4 "count" spMany []) (c_law_sum : C8.Cal P w K mg base 1 "_law_sum" spSum15 []) : C8.Cal P w K mg base 5 "_law_is_emptied" (spEmptied T) [] := by
  refine D.cal sc_law_is_emptied (fun vs H Q E h => ?_) (fun f cdv A outer s H vs Q E hr h => ?_)
  · obtain ⟨r, x, y, rfl, r1, r9, x1, x9, y1, y9, hT, q⟩ := h
    rfl
  obtain ⟨r, x, y, rfl, r1, r9, x1, x9, y1, y9, hT, q⟩ := h
  have nd := sc_law_is_emptied.nd
  refine ⟨_, (pss_cons (ps_set (i := 3) nd rfl (.inl rfl) (pe_tup (pa_cons (pv 0) (pa_cons pe_int (pa_cons (pe_tupF (pa_cons (pv 1) pa_nil)) (pa_cons (pv 2) pa_nil))))))
    (pss_cons (ps_if (PW.pt (pw_or (pt_cmpR (op_neD hr.units) (C8.pe_c c_cheapest hr (by decide) rfl (pa_cons (pv 3) (pa_cons (pe_tup (pa_cons pe_int (pa_cons pe_int (pa_cons pe_str pa_nil)))) pa_nil))) (pe_tup (pa_cons (pe_op op_mul (pv 0) (pv 2)) (pa_cons (pe_op op_mulS pe_str (pv 0)) pa_nil))) (nomark _)) (pw_or1 (pt_cmpR op_ne (C8.pe_c c_fewest hr (by decide) rfl (pa_cons (pv 3) (pa_cons (pe_tup (pa_cons pe_int (pa_cons pe_int (pa_cons pe_str pa_nil)))) pa_nil))) (pv 0) (nomark _))))) (pss_one (ps_ret pe_bl)) pss_nil)
    (pss_cons (ps_set (i := 4) nd rfl (.inl rfl) (pe_op op_mulS pe_str (pv 0)))
    (pss_cons (ps_if (PW.pt (pw_or (pt_cmpR (op_neD hr.units) (C8.pe_c c_cheapest hr (by decide) rfl (pa_cons (pv 3) (pa_cons (pe_tup (pa_cons pe_int (pa_cons pe_int (pa_cons (pv 4) pa_nil)))) pa_nil))) (pe_tup (pa_cons (pe_op op_mul (pv 0) (pv 1)) (pa_cons (pv 4) pa_nil))) (nomark _)) (pw_or1 (pt_cmpR op_ne (C8.pe_c c_fewest hr (by decide) rfl (pa_cons (pv 3) (pa_cons (pe_tup (pa_cons pe_int (pa_cons pe_int (pa_cons (pv 4) pa_nil)))) pa_nil))) (pv 0) (nomark _))))) (pss_one (ps_ret pe_bl)) pss_nil)
    (pss_cons (ps_if (PW.pt (pw_or (pt_cmpR op_ne (C8.pe_c c_fillers hr (by decide) rfl (pa_cons (pv 3) (pa_cons (pe_tup (pa_cons pe_int (pa_cons pe_int (pa_cons pe_str pa_nil)))) pa_nil))) pe_int (nomark _)) (pw_or1 (pt_cmpR (op_neD hr.units) (C8.pe_c c_befores hr (by decide) rfl (pa_cons (pv 3) (pa_cons (pe_tup (pa_cons pe_int (pa_cons pe_int (pa_cons pe_str pa_nil)))) (pa_cons pe_str pa_nil)))) (pe_tup (pa_cons (pe_op op_add (pv 0) pe_int) (pa_cons pe_str pa_nil))) (nomark _))))) (pss_one (ps_ret pe_bl)) pss_nil)
    (pss_one (ps_ret (pe_and (pe_cmpR (op_eqD hr.units) (C8.pe_c c_cheapest hr (by decide) rfl (pa_cons (pv 3) (pa_cons (pe_tup (pa_cons pe_int (pa_cons (pv 0) (pa_cons pe_str pa_nil)))) pa_nil))) (pe_tup (pa_cons pe_int (pa_cons pe_str pa_nil))) (nomark _)) (pe_one (pe_cmpR op_eq (C8.pe_c c_count hr (by decide) rfl (pa_cons (pv 3) pa_nil)) (C8.pe_c c_law_sum hr (by decide) rfl (pa_cons (pv 0) pa_nil)) (nomark _))))))))))), ?_⟩
  have e0 : ExtN H H := ExtN.ofS (Same.refl H)
  have ok : (pl15 r 1 [x] y).Ok := pl15_ok r1 r9 (by decide) (by decide) rfl (fun z hz => by
    have e : z = x := by simpa using hz
    omega) y1 y9
  have k0 : TrOk r 1 ⟨0, 0, []⟩ := ⟨by show 0 + 0 ≤ r; omega, by show 0 + 0 ≤ r; omega, fun _ => rfl, fun c h => by simp at h⟩
  have kA : TrOk r 1 ⟨0, 0, List.replicate r 97⟩ := ⟨by show 0 + 0 ≤ r; omega, by show 0 + (List.replicate r 97).length ≤ r; rw [List.length_replicate]; omega, fun _ => rfl, fun c h => by rw [(List.mem_replicate.mp h).2]; decide⟩
  have kU : TrOk r 1 ⟨0, r, []⟩ := tunt_ok
  refine ⟨_, rfl, _, rfl, ?_⟩
  refine ⟨by (first | (show _ ≤ sizeLine; decide) | (simp only [List.length_cons, List.length_nil]; decide)), fun pb obpb hobpb hNewpb => ?_⟩
  generalize hGenpb : upd _ pb _ = H1
  obtain ⟨s1, hpb⟩ := Same.ofG hNewpb hGenpb
  replace hpb : TupF H1 pb _ := ⟨obpb, hobpb, hpb⟩
  replace e0 := e0.trans (ExtN.ofS s1)
  replace hT := Tabs.same hT s1
  refine ⟨_, rfl, ?_⟩
  refine ⟨by (first | (show _ ≤ sizeLine; decide) | (simp only [List.length_cons, List.length_nil]; decide)), fun pa hNewpa => ?_⟩
  generalize hGenpa : upd _ pa _ = H2
  obtain ⟨s2, hpa⟩ := Same.ofG hNewpa hGenpa
  replace e0 := e0.trans (ExtN.ofS s2)
  replace hT := Tabs.same hT s2
  replace hpb := TupF.mono hpb s2
  have hp : PlanAt H2 (.ref pa) (pl15 r 1 [x] y) := PlanAt.mk hpb hpa
  -- nothing stays
  refine ⟨_, rfl, ?_⟩
  refine ⟨by (first | (show _ ≤ sizeLine; decide) | (simp only [List.length_cons, List.length_nil]; decide)), fun p1 hNewp1 => ?_⟩
  generalize hGenp1 : upd _ p1 _ = H3
  obtain ⟨s3, h1⟩ := Same.ofG hNewp1 hGenp1
  replace e0 := e0.trans (ExtN.ofS s3)
  replace hT := Tabs.same hT s3
  replace hp := hp.mono s3
  have t1 : TripAt H3 (.ref p1) ⟨0, 0, []⟩ := trip_mk h1 rfl rfl s_empty
  refine ⟨.ref pa, pl15 r 1 [x] y, .ref p1, _, rfl, hp, ok, t1, k0, hT, fun a1 H4 e4 hT4 ha1 => ?_⟩
  replace e0 := e0.trans e4
  replace hp := hp.ext e4
  replace hT := hT4
  rw [← chS_price ok, em_s0 r1 x1 y1, em_p45] at ha1
  have cm : ∀ (a : Nat) (z : Int), a ≤ 9 → 1 ≤ z → z ≤ 99 → CMul (a : Int) z := fun a z ha h1 h2 => .inl ⟨by omega, by omega⟩
  refine ⟨_, rfl, _, rfl, _, _, rfl, rfl, cm r y r9 y1 y9, _, rfl, [45], r, congrArg V.str s_minus, rfl, by show 1 * _ ≤ _; omega, by omega, ?_⟩
  refine ⟨by (first | (show _ ≤ sizeLine; decide) | (simp only [List.length_cons, List.length_nil]; decide)), fun p2 hNewp2 => ?_⟩
  generalize hGenp2 : upd _ p2 _ = H5
  obtain ⟨s5, h2⟩ := Same.ofG hNewp2 hGenp2
  replace e0 := e0.trans (ExtN.ofS s5)
  replace hT := Tabs.same hT s5
  replace hp := hp.mono s5
  replace ha1 := s5 _ _ ha1
  refine ne_is ha1 h2 rfl (by rw [rep_flat]) (rep_lt (by decide)) ⟨_, rfl, iteF ?_⟩
  refine ⟨_, rfl, ?_⟩
  refine ⟨by (first | (show _ ≤ sizeLine; decide) | (simp only [List.length_cons, List.length_nil]; decide)), fun p3 hNewp3 => ?_⟩
  generalize hGenp3 : upd _ p3 _ = H6
  obtain ⟨s6, h3⟩ := Same.ofG hNewp3 hGenp3
  replace e0 := e0.trans (ExtN.ofS s6)
  replace hT := Tabs.same hT s6
  replace hp := hp.mono s6
  have t3 : TripAt H6 (.ref p3) ⟨0, 0, []⟩ := trip_mk h3 rfl rfl s_empty
  refine ⟨.ref pa, pl15 r 1 [x] y, .ref p3, _, rfl, hp, ok, t3, k0, fun H7 s7 => ?_⟩
  replace e0 := e0.trans (ExtN.ofS s7)
  replace hT := Tabs.same hT s7
  replace hp := hp.mono s7
  refine ⟨_, rfl, rfl, _, rfl, iteNS (congrArg V.int (em_f0 r1 x1 y1)) ?_⟩
  -- all laid
  refine ⟨_, rfl, [97], r, congrArg V.str s_a1, rfl, by show 1 * _ ≤ _; omega, by omega, ?_⟩
  refine ⟨_, rfl, _, rfl, ?_⟩
  refine ⟨by (first | (show _ ≤ sizeLine; decide) | (simp only [List.length_cons, List.length_nil]; decide)), fun p4 hNewp4 => ?_⟩
  generalize hGenp4 : upd _ p4 _ = H8
  obtain ⟨s8, h4⟩ := Same.ofG hNewp4 hGenp4
  replace e0 := e0.trans (ExtN.ofS s8)
  replace hT := Tabs.same hT s8
  replace hp := hp.mono s8
  have t4 : TripAt H8 (.ref p4) ⟨0, 0, List.replicate r 97⟩ := trip_mk h4 rfl rfl (by rw [rep_flat])
  refine ⟨.ref pa, pl15 r 1 [x] y, .ref p4, _, rfl, hp, ok, t4, kA, hT, fun a2 H9 e9 hT9 ha2 => ?_⟩
  replace e0 := e0.trans e9
  replace hp := hp.ext e9
  replace hT := hT9
  rw [← chS_price ok, em_sA r1 x1 y1, em_p97] at ha2
  refine ⟨_, rfl, _, rfl, _, _, rfl, rfl, cm r x r9 x1 x9, _, rfl, ?_⟩
  refine ⟨by (first | (show _ ≤ sizeLine; decide) | (simp only [List.length_cons, List.length_nil]; decide)), fun p5 hNewp5 => ?_⟩
  generalize hGenp5 : upd _ p5 _ = H10
  obtain ⟨s10, h5⟩ := Same.ofG hNewp5 hGenp5
  replace e0 := e0.trans (ExtN.ofS s10)
  replace hT := Tabs.same hT s10
  replace hp := hp.mono s10
  replace ha2 := s10 _ _ ha2
  refine ne_is ha2 h5 rfl (by rw [rep_flat]) (rep_lt (by decide)) ⟨_, rfl, iteF ?_⟩
  refine ⟨_, rfl, _, rfl, ?_⟩
  refine ⟨by (first | (show _ ≤ sizeLine; decide) | (simp only [List.length_cons, List.length_nil]; decide)), fun p6 hNewp6 => ?_⟩
  generalize hGenp6 : upd _ p6 _ = H11
  obtain ⟨s11, h6⟩ := Same.ofG hNewp6 hGenp6
  replace e0 := e0.trans (ExtN.ofS s11)
  replace hT := Tabs.same hT s11
  replace hp := hp.mono s11
  have t6 : TripAt H11 (.ref p6) ⟨0, 0, List.replicate r 97⟩ := trip_mk h6 rfl rfl (by rw [rep_flat])
  refine ⟨.ref pa, pl15 r 1 [x] y, .ref p6, _, rfl, hp, ok, t6, kA, fun H12 s12 => ?_⟩
  replace e0 := e0.trans (ExtN.ofS s12)
  replace hT := Tabs.same hT s12
  replace hp := hp.mono s12
  refine ⟨_, rfl, rfl, _, rfl, iteNS (congrArg V.int (em_fA r1 x1 y1)) ?_⟩
  -- fillers, what comes ahead
  refine ⟨_, rfl, ?_⟩
  refine ⟨by (first | (show _ ≤ sizeLine; decide) | (simp only [List.length_cons, List.length_nil]; decide)), fun p7 hNewp7 => ?_⟩
  generalize hGenp7 : upd _ p7 _ = H13
  obtain ⟨s13, h7⟩ := Same.ofG hNewp7 hGenp7
  replace e0 := e0.trans (ExtN.ofS s13)
  replace hT := Tabs.same hT s13
  replace hp := hp.mono s13
  have t7 : TripAt H13 (.ref p7) ⟨0, 0, []⟩ := trip_mk h7 rfl rfl s_empty
  refine ⟨.ref pa, pl15 r 1 [x] y, .ref p7, _, rfl, hp, ok, t7, k0, hT, fun H14 e14 hT14 => ?_⟩
  replace e0 := e0.trans e14
  replace hp := hp.ext e14
  replace hT := hT14
  refine ⟨rfl, _, rfl, iteNS (by rw [em_w0 r1 x1 y1]; rfl) ?_⟩
  refine ⟨_, rfl, ?_⟩
  refine ⟨by (first | (show _ ≤ sizeLine; decide) | (simp only [List.length_cons, List.length_nil]; decide)), fun p8 hNewp8 => ?_⟩
  generalize hGenp8 : upd _ p8 _ = H15
  obtain ⟨s15, h8⟩ := Same.ofG hNewp8 hGenp8
  replace e0 := e0.trans (ExtN.ofS s15)
  replace hT := Tabs.same hT s15
  replace hp := hp.mono s15
  have t8 : TripAt H15 (.ref p8) ⟨0, 0, []⟩ := trip_mk h8 rfl rfl s_empty
  refine ⟨.ref pa, pl15 r 1 [x] y, .ref p8, _, [], congrArg (fun z => [V.ref pa, V.ref p8, V.str z]) s_empty, hp, ok, t8, k0, Nat.zero_le _, fun c hc => by simp at hc, fun H16 v16 s16 hb16 => ?_⟩
  replace e0 := e0.trans (ExtN.ofS s16)
  replace hT := Tabs.same hT s16
  replace hp := hp.mono s16
  obtain ⟨b1, b2⟩ := bef_tab r (by omega)
  obtain ⟨a3, rfl, ha3⟩ := hb16
  have ha3 : H16 a3 = some (.tup [.int ((r + 1 : Nat) : Int), .str (tx [])]) := by
    rw [ha3]
    show some (HO.tup [.int (((bef r 1 ⟨0, 0, []⟩ []).length : Nat) : Int), hdV (bef r 1 ⟨0, 0, []⟩ []).head?]) = _
    rw [b1, b2]
    rfl
  refine ⟨_, rfl, _, _, rfl, rfl, ?_⟩
  refine ⟨by (first | (show _ ≤ sizeLine; decide) | (simp only [List.length_cons, List.length_nil]; decide)), fun p9 hNewp9 => ?_⟩
  generalize hGenp9 : upd _ p9 _ = H17
  obtain ⟨s17, h9⟩ := Same.ofG hNewp9 hGenp9
  replace e0 := e0.trans (ExtN.ofS s17)
  replace hT := Tabs.same hT s17
  replace hp := hp.mono s17
  replace ha3 := s17 _ _ ha3
  refine ne_is ha3 h9 (by omega) s_empty (fun c hc => by simp at hc) ⟨_, rfl, iteF ?_⟩
  -- nothing gone
  refine ⟨_, rfl, _, rfl, ?_⟩
  refine ⟨by (first | (show _ ≤ sizeLine; decide) | (simp only [List.length_cons, List.length_nil]; decide)), fun p10 hNewp10 => ?_⟩
  generalize hGenp10 : upd _ p10 _ = H18
  obtain ⟨s18, h10⟩ := Same.ofG hNewp10 hGenp10
  replace e0 := e0.trans (ExtN.ofS s18)
  replace hT := Tabs.same hT s18
  replace hp := hp.mono s18
  have t10 : TripAt H18 (.ref p10) ⟨0, r, []⟩ := trip_mk h10 rfl rfl s_empty
  refine ⟨.ref pa, pl15 r 1 [x] y, .ref p10, _, rfl, hp, ok, t10, kU, hT, fun a4 H19 e19 hT19 ha4 => ?_⟩
  replace e0 := e0.trans e19
  replace hp := hp.ext e19
  replace hT := hT19
  rw [← chS_price ok, em_sU r1 x1 y1] at ha4
  refine ⟨by (first | (show _ ≤ sizeLine; decide) | (simp only [List.length_cons, List.length_nil]; decide)), fun p11 hNewp11 => ?_⟩
  generalize hGenp11 : upd _ p11 _ = H20
  obtain ⟨s20, h11⟩ := Same.ofG hNewp11 hGenp11
  replace e0 := e0.trans (ExtN.ofS s20)
  replace hT := Tabs.same hT s20
  replace hp := hp.mono s20
  replace ha4 := s20 _ _ ha4
  refine eq_is ha4 h11 rfl s_empty (fun c hc => by simp at hc) ⟨_, rfl, iteT ?_⟩
  refine ⟨_, rfl, .ref pa, pl15 r 1 [x] y, rfl, hp, ok, fun H21 s21 => ?_⟩
  replace e0 := e0.trans (ExtN.ofS s21)
  replace hT := Tabs.same hT s21
  replace hp := hp.mono s21
  refine ⟨_, rfl, r, rfl, r1, r9, fun H22 s22 => ?_⟩
  replace e0 := e0.trans (ExtN.ofS s22)
  replace hT := Tabs.same hT s22
  replace hp := hp.mono s22
  refine ⟨rfl, ?_⟩
  have ev : V.int ((tally (pl15 r 1 [x] y).room (pl15 r 1 [x] y).many : Nat) : Int) = V.int ((tally r 1 : Nat) : Int) := rfl
  rw [decide_eq_true ev]
  exact q H22 e0 hT
theorem ok_law_are_parted (D : Dn K mg "_law_are_parted" s_law_are_parted P_law_are_parted) (g : Gx mg) (c_parting : C8.Cal P w K mg base 12 "parting" spParting []) (c_alike : C8.Cal P w K mg base 12 "alike" spAlikeW []) (c_told_of_steps : C8.Cal P w K mg base 4 "told_of_steps" spToldSteps []) (c_fewest : C8.Cal P w K mg base 4 "fewest" spFew []) : C8.Cal P w K mg base 13 "_law_are_parted" spParted15 [] := by
  refine D.cal sc_law_are_parted (fun vs H Q E h => ?_) (fun f cdv A outer s H vs Q E hr h => ?_)
  · obtain ⟨r, rfl, r1, r9, q⟩ := h
    rfl
  obtain ⟨r, rfl, r1, r9, q⟩ := h
  have nd := sc_law_are_parted.nd
  refine ⟨_, (pss_cons (ps_set (i := 1) nd rfl (.inl rfl) (pe_tup (pa_cons (pv 0) (pa_cons pe_int (pa_cons (pe_tupF (pa_cons pe_int (pa_cons pe_int pa_nil))) (pa_cons pe_int pa_nil))))))
    (pss_cons (ps_for PassesOwn.never rfl (pi_range1 (by rfl) g.range (pa_cons (pv 0) pa_nil)) (pg_name (i := 2) nd rfl (.inl rfl)) (pss_cons (ps_par (i := 3) (j := 4) (by rfl) nd rfl rfl (by decide) rfl rfl (pa_cons (pe_op op_add_str (pe_op op_mulS pe_str (pv 2)) (pe_op op_mulS pe_str (pv 2))) (pa_cons (pe_op op_add_str (pe_op op_mulS pe_str (pe_op op_add (pv 2) pe_int)) (pe_op op_mulS pe_str (pe_op op_add (pv 2) pe_int))) pa_nil)) (by rfl))
    (pss_cons (ps_set (i := 5) nd rfl (.inl rfl) (pe_lst pa_nil))
    (pss_cons (ps_for PassesOwn.never rfl (pi_tup (pe_tup (pa_cons (pv 3) (pa_cons (pv 4) pa_nil)))) (pg_name (i := 6) nd rfl (.inl rfl)) (pss_one (ps_expr (pe_bm PySem.F.plainAttrs_list PySem.F.slot_list_append PySem.F.type_list_append mt_append (pv 5) (pa_cons (pe_tup (pa_cons pe_str (pa_cons (pe_callTy call_tuple_of rfl g.tuple b_tuple (pa_cons (pe_lc (own := [("_law_sign", 7)]) rfl nd (pi_str (pv 6)) (blkOk_by (own := [("_law_sign", 7)]) (N := N_law_are_parted) (sc := defScope s_law_are_parted) (by decide +kernel)) (fun _ _ _ _ _ => (pg_name (i := 7) nd rfl (.inl rfl))) (fun _ _ _ _ _ => pts_nil) (fun _ _ _ _ _ => (pe_ifExp (pt_cmpR op_eq (pv 7) pe_str (nomark _)) (pe_tup (pa_cons pe_str (pa_cons pe_str pa_nil))) (pe_tup (pa_cons pe_str pa_nil))))) pa_nil)) pa_nil))) pa_nil)))))
    (pss_cons (ps_if (PW.pt (pw_or (pt_cmpR op_ne (C8.pe_c c_parting hr (by decide) rfl (pa_cons (pv 1) (pa_cons (pe_ix ix_list (pv 5) pe_int (fun _ _ => rfl)) (pa_cons (pe_ix ix_list (pv 5) pe_int (fun _ _ => rfl)) pa_nil)))) (pe_op op_mulS pe_str (pe_op op_sub (pv 0) (pv 2))) (nomark _)) (pw_or1 (pt_val (C8.pe_c c_alike hr (by decide) rfl (pa_cons (pv 1) (pa_cons (pe_ix ix_list (pv 5) pe_int (fun _ _ => rfl)) (pa_cons (pe_ix ix_list (pv 5) pe_int (fun _ _ => rfl)) pa_nil)))))))) (pss_one (ps_ret pe_bl)) pss_nil)
    (pss_one (ps_if (PW.pt (pw_or (pt_cmpR (op_neD hr.units) (C8.pe_c c_told_of_steps hr (by decide) rfl (pa_cons (pv 1) (pa_cons (pv 3) pa_nil))) (pe_tup (pa_cons pe_int (pa_cons (pe_op op_sub (pv 0) (pv 2)) (pa_cons pe_str pa_nil)))) (nomark _)) (pw_or1 (pt_cmpR op_ne (C8.pe_c c_fewest hr (by decide) rfl (pa_cons (pv 1) (pa_cons (pe_tup (pa_cons pe_int (pa_cons (pe_op op_sub (pv 0) (pv 2)) (pa_cons pe_str pa_nil)))) pa_nil))) (pe_op op_mul pe_int (pv 2)) (nomark _))))) (pss_one (ps_ret pe_bl)) pss_nil)))))))
    (pss_one (ps_ret pe_bl)))), ?_⟩
  have s0 : Same H H := Same.refl H
  refine ⟨_, rfl, ?_⟩
  refine ⟨by (first | (show _ ≤ sizeLine; decide) | (simp only [List.length_cons, List.length_nil]; decide)), fun pb obpb hobpb hNewpb => ?_⟩
  generalize hGenpb : upd _ pb _ = H1
  obtain ⟨s1, hpb⟩ := Same.ofG hNewpb hGenpb
  replace hpb : TupF H1 pb _ := ⟨obpb, hobpb, hpb⟩
  replace s0 := s0.trans s1
  refine ⟨by (first | (show _ ≤ sizeLine; decide) | (simp only [List.length_cons, List.length_nil]; decide)), fun pa hNewpa => ?_⟩
  generalize hGenpa : upd _ pa _ = H2
  obtain ⟨s2, hpa⟩ := Same.ofG hNewpa hGenpa
  replace s0 := s0.trans s2
  replace hpb := TupF.mono hpb s2
  have hp : PlanAt H2 (.ref pa) (pl15 r 2 [1, 1] 1) := PlanAt.mk hpb hpa
  have ok : (pl15 r 2 [1, 1] 1).Ok := pl15_ok r1 r9 (by decide) (by decide) rfl (by decide) (by decide) (by decide)
  refine ⟨_, rfl, r, rfl, by omega, by omega, ?_⟩
  have eN : (r : Int).toNat = r := by omega
  rw [eN]
  refine for_range (lo := 0) (fun k σ H3 => ∃ (o2 o3 o4 o5 o6 o7 : Option V), σ = [some (.int (r : Int)), some (.ref pa), o2, o3, o4, o5, o6, o7] ∧ Same H H3 ∧ PlanAt H3 (.ref pa) (pl15 r 2 [1, 1] 1)) ⟨none, none, none, none, none, none, rfl, s0, hp⟩ ?_ ?_
  · rintro k σ H3 hk ⟨o2, o3, o4, o5, o6, o7, rfl, s3, hp3⟩
    have ek : V.int (0 + (k : Int)) = V.int ((k : Nat) : Int) := by rw [Int.zero_add]
    have ek1 : V.int (0 + (k : Int) + 1) = V.int ((k + 1 : Nat) : Int) := congrArg V.int (by omega)
    have szA : ∀ a b : Nat, a ≤ 10 → b ≤ 10 → (tx (List.replicate a [97]).flatten).length + (tx (List.replicate b [45]).flatten).length ≤ sizeLine := fun a b ha hb => by
      rw [rep_flat, rep_flat, tx_len, tx_len, List.length_replicate, List.length_replicate]
      exact sz (by omega)
    refine ⟨_, rfl, [97], k, congrArg V.str s_a1, ek, by show 1 * _ ≤ _; omega, by omega, ?_⟩
    refine ⟨_, rfl, [45], k, congrArg V.str s_minus, ek, by show 1 * _ ≤ _; omega, by omega, ?_⟩
    refine ⟨_, _, rfl, rfl, szA k k (by omega) (by omega), ?_⟩
    refine ⟨_, rfl, _, _, rfl, rfl, [97], k + 1, congrArg V.str s_a1, ek1, by show 1 * _ ≤ _; omega, by omega, ?_⟩
    refine ⟨_, rfl, _, _, rfl, rfl, [45], k + 1, congrArg V.str s_minus, ek1, by show 1 * _ ≤ _; omega, by omega, ?_⟩
    refine ⟨_, _, rfl, rfl, szA (k + 1) (k + 1) (by omega) (by omega), ?_⟩
    refine ⟨_, _, rfl, ?_⟩
    rw [tx_ud, tx_ud]
    have s3H := s3
    refine ⟨by (first | (show _ ≤ sizeLine; decide) | (simp only [List.length_cons, List.length_nil]; decide)), fun D hNewD => ?_⟩
    generalize hGenD : upd _ D _ = H4
    obtain ⟨s4, hD4⟩ := Same.ofG hNewD hGenD
    replace s3 := s3.trans s4
    replace hp3 := hp3.mono s4
    refine ⟨_, rfl, _, rfl, ?_⟩
    refine ⟨by (first | (show _ ≤ sizeLine; decide) | (simp only [List.length_cons, List.length_nil]; decide)), fun p0 hNewp0 => ?_⟩
    generalize hGenp0 : upd _ p0 _ = H5
    obtain ⟨s5, h0⟩ := Same.ofG hNewp0 hGenp0
    replace s3 := s3.trans s5
    replace hp3 := hp3.mono s5
    replace hD4 := s5 _ _ hD4
    have hDn : H3 D = none := hNewD
    have hDo : H D = none := none_of s3H hNewD
    refine ⟨p0, rfl, ⟨_, SqT.of h0⟩, for_tup (xs := [.str (tx (upDown k)), .str (tx (upDown (k + 1)))]) (fun j σ H6 => ∃ (o6 o7 : Option V), σ = [some (.int (r : Int)), some (.ref pa), some (.int (0 + (k : Int))), some (.str (tx (upDown k))), some (.str (tx (upDown (k + 1)))), some (.ref D), o6, o7] ∧ Keep D D H5 H6 ∧ ∃ us, H6 D = some (.lst us) ∧ W2 H6 ([udW k, udW (k + 1)].take j) us) ⟨o6, o7, rfl, fun b o e _ _ => e, [], hD4, rfl⟩ ?_ ?_ ?_⟩
    · rintro j σ H6 hj ⟨o6, o7, rfl, k6, us, hD6, hw6⟩
      refine SqT.of (k6 _ _ h0 (ne_of h0 hD4 (by intro z; cases z)) (ne_of h0 hD4 (by intro z; cases z)))
    · rintro j x σ H6 hx ⟨o6, o7, rfl, k6, us, hD6, hw6⟩
      obtain ⟨kk, hkk, rfl, hwk⟩ : ∃ kk, kk < 11 ∧ x = .str (tx (upDown kk)) ∧ [udW k, udW (k + 1)][j]? = some (udW kk) := by
        match j, hx with
        | 0, hx => exact ⟨k, by omega, (Option.some.inj hx).symm, rfl⟩
        | 1, hx => exact ⟨k + 1, by omega, (Option.some.inj hx).symm, rfl⟩
        | j + 2, hx => simp at hx
      refine ⟨_, rfl, .inl ⟨rfl, _, SqL.of hD6⟩, ?_⟩
      refine ⟨_, rfl, _, rfl, fun E hE => ?_⟩
      have hED : E ≠ D := fun z => by rw [z, hD6] at hE; cases hE
      have hn : (tx (upDown kk)).cps.size = (upDown kk).length := tx_len _
      have hfl := ud_flen kk
      refine lc_it (walk_str (z := tx (upDown kk))) (fun i H7 => Same H6 H7 ∧ ∃ vs, H7 E = some (.lst vs) ∧ W2 H7 (asWork ((upDown kk).take i)) vs) ⟨Same.new hE _, [], upd_same, rfl⟩ (fun _ _ _ _ => trivial) ?_ ?_
      · rintro i x H7 H8 hi ⟨s7, vs, h7, hw⟩ ⟨rfl, c, hc, rfl⟩
        have hc' : (upDown kk)[i]? = some c := by
          rw [← hc]
          simp [tx]
        have hcm := ud_mem (List.mem_of_getElem? hc')
        have hlen := hw.len
        have hsz : vs.length < sizeLine := szl (by
          rw [hlen]
          unfold asWork
          rw [List.length_map, List.length_take]
          omega)
        have es : asWork ((upDown kk).take (i + 1)) = asWork ((upDown kk).take i) ++ [if c = 45 then .pop else .push c] := by
          unfold asWork
          rw [List.take_add_one, hc', List.map_append]
          rfl
        refine ⟨rfl, ?_⟩
        refine ⟨_, rfl, rfl, _, rfl, ite2 (fun zc => ?_) (fun zc => ?_)⟩
        · have z' : c = 97 := by
            have z1 := of_decide_eq_true zc
            injection z1 with z2
            exact List.head_eq_of_cons_eq (str_inj.mp (z2.trans s_a1))
          refine ⟨by show 2 ≤ sizeLine; decide, fun T hT => ?_⟩
          have sT := Same.new hT (.tup [.str "push", .str "a"])
          have hD3 := sT _ _ h7
          have tD : Tups (upd H8 T (.tup [.str "push", .str "a"])) (upd (upd H8 T (.tup [.str "push", .str "a"])) E (.lst (vs ++ [.ref T]))) := Tups.lst hD3
          refine ⟨vs, hD3, hsz, fun b o e => ?_, _, upd_same, ?_⟩
          · rw [upd_ne (ne_of_none e hE)]
            exact sT _ _ (s7 _ _ e)
          · rw [es, if_neg (by omega), z']
            exact (hw.tups ((Tups.of sT).trans tD)).snoc ((wat_push upd_same).tups tD)
        · have z' : c = 45 := by
            rcases hcm with h | h
            · subst h
              exact absurd (decide_eq_true (congrArg V.str s_a1.symm)) zc
            · exact h
          refine ⟨by show 1 ≤ sizeLine; decide, fun T hT => ?_⟩
          have sT := Same.new hT (.tup [.str "pop"])
          have hD3 := sT _ _ h7
          have tD : Tups (upd H8 T (.tup [.str "pop"])) (upd (upd H8 T (.tup [.str "pop"])) E (.lst (vs ++ [.ref T]))) := Tups.lst hD3
          refine ⟨vs, hD3, hsz, fun b o e => ?_, _, upd_same, ?_⟩
          · rw [upd_ne (ne_of_none e hE)]
            exact sT _ _ (s7 _ _ e)
          · rw [es, if_pos z']
            exact (hw.tups ((Tups.of sT).trans tD)).snoc ((wat_pop upd_same).tups tD)
      · rintro H7 ⟨s7, vs, h7, hw⟩
        rw [hn, List.take_of_length_le (Nat.le_refl _)] at hw
        refine ⟨E, vs, rfl, .inl ⟨SqL.of h7, fun T hT => ⟨by show 2 ≤ sizeLine; decide, fun U hU => ?_⟩⟩⟩
        have sT := Same.new hT (.tup vs)
        have sU := Same.new hU (.tup [.str "row", .ref T])
        have s79 := s7.trans (sT.trans sU)
        have hwU : WAt _ (udW kk) (.ref U) := ⟨U, T, vs, rfl, upd_same, sU _ _ upd_same, (hw.tups (Tups.of (sT.trans sU))).ws⟩
        have hD9 := s79 _ _ hD6
        generalize upd (upd H7 T (.tup vs)) U (.tup [.str "row", .ref T]) = H9 at s79 hwU hD9
        refine ⟨D, us, .ref U, rfl, rfl, hD9, szl (by rw [hw6.len]; rw [List.length_take]; show min j 2 < _; omega), _, _, rfl, fun b o e n1 n2 => ?_, _, upd_same, ?_⟩
        · rw [upd_ne n1]
          exact s79 _ _ (k6 _ _ e n1 n2)
        · have tD : Tups H9 (upd H9 D (.lst (us ++ [.ref U]))) := Tups.lst hD9
          rw [List.take_add_one, hwk]
          exact (hw6.tups ((Tups.of s79).trans tD)).snoc (hwU.tups tD)
    rintro σ H6 ⟨o6, o7, rfl, k6, us, hD6, hw6⟩
    have tk : Tups H5 H6 := ⟨fun b xs e => k6 b _ e (ne_of e hD4 (by intro z; cases z)) (ne_of e hD4 (by intro z; cases z)), fun b o xs e => k6 b _ e (ne_of e hD4 (by intro z; cases z)) (ne_of e hD4 (by intro z; cases z))⟩
    replace hp3 := hp3.tups tk
    replace s3 := Same.keepN s3 k6 hDo hDo
    obtain ⟨u0, us1, rfl, w0, u1, us2, rfl, w1, hnil⟩ := hw6
    have hnil' : us2 = [] := hnil
    subst hnil'
    have hk1 : k < r := by omega
    have t0 := ud_tri r (by omega) k (by omega) r1 (by omega)
    have t1 := ud_tri r (by omega) (k + 1) (by omega) r1 (by omega)
    have erk : V.int ((r : Int) - (0 + (k : Int))) = V.int ((r - k : Nat) : Int) := congrArg V.int (by omega)
    refine ⟨_, rfl, _, rfl, D, _, 0, _, rfl, rfl, SqL.of hD6, rfl, _, rfl, D, _, 1, _, rfl, rfl, SqL.of hD6, rfl, ?_⟩
    refine ⟨.ref pa, pl15 r 2 [1, 1] 1, u0, u1, udW k, udW (k + 1), rfl, hp3, ok, w0, ud_ok (by omega), w1, ud_ok (by omega), fun s H7 s7 hs h1 h2 => ?_, fun H7 s7 h1 => ?_⟩
    · have es : s = r - k := ud_least hk1 (by rw [← t0, ← t1]; exact h1) (fun s' hs' => by rw [← t0, ← t1]; exact h2 s' hs')
      subst es
      replace s3 := s3.trans s7
      replace hp3 := hp3.mono s7
      replace hD6 := s7 _ _ hD6
      replace w0 := w0.tups (Tups.of s7)
      replace w1 := w1.tups (Tups.of s7)
      refine ⟨_, rfl, _, rfl, _, _, rfl, rfl, [97], r - k, congrArg V.str s_a1, erk, by show 1 * _ ≤ _; omega, by omega, ?_⟩
      refine ⟨rfl, _, rfl, iteNS (by rw [rep_flat]) ?_⟩
      refine ⟨_, rfl, _, rfl, D, _, 0, _, rfl, rfl, SqL.of hD6, rfl, _, rfl, D, _, 1, _, rfl, rfl, SqL.of hD6, rfl, ?_⟩
      refine ⟨.ref pa, pl15 r 2 [1, 1] 1, u0, u1, udW k, udW (k + 1), rfl, hp3, ok, w0, ud_ok (by omega), w1, ud_ok (by omega), fun b H8 s8 hb => ?_⟩
      replace s3 := s3.trans s8
      replace hp3 := hp3.mono s8
      replace hD6 := s8 _ _ hD6
      replace w0 := w0.tups (Tups.of s8)
      replace w1 := w1.tups (Tups.of s8)
      have eb : b = false := by
        cases b with
        | false => rfl
        | true =>
          have z : (udW k).tri r = (udW (k + 1)).tri r := hb.mp rfl
          rw [t0, t1] at z
          have z2 := congrArg Tr.k z
          simp only at z2
          omega
      subst eb
      refine ⟨false, rfl, iteF ?_⟩
      have kK : TrOk r 2 (⟨0, r - k, []⟩ : Tr) := ⟨by show 0 + (r - k) ≤ r; omega, by show (r - k) + 0 ≤ r; omega, fun z => absurd z (by show ¬ r - k = 0; omega), fun c h => by simp at h⟩
      refine ⟨_, rfl, _, rfl, .ref pa, pl15 r 2 [1, 1] 1, upDown k, rfl, hp3, ok, ?_, fun c hc => ?_, fun H9 v9 s9 t9 => ?_⟩
      · rw [ud_flen]
        omega
      · rcases ud_mem hc with h | h
        · exact .inr (h ▸ in2a)
        · exact .inl h
      rw [show ttold (pl15 r 2 [1, 1] 1).room (upDown k) = _ from upDown_tab r (by omega) k (by omega) r1 (by omega)] at t9
      replace s3 := s3.trans s9
      replace hp3 := hp3.mono s9
      replace hD6 := s9 _ _ hD6
      replace w0 := w0.tups (Tups.of s9)
      replace w1 := w1.tups (Tups.of s9)
      refine ⟨_, rfl, _, rfl, _, _, rfl, rfl, ?_⟩
      refine ⟨by (first | (show _ ≤ sizeLine; decide) | (simp only [List.length_cons, List.length_nil]; decide)), fun p5 hNewp5 => ?_⟩
      generalize hGenp5 : upd _ p5 _ = H10
      obtain ⟨s10, h5⟩ := Same.ofG hNewp5 hGenp5
      replace s3 := s3.trans s10
      replace hp3 := hp3.mono s10
      replace hD6 := s10 _ _ hD6
      replace w0 := w0.tups (Tups.of s10)
      replace w1 := w1.tups (Tups.of s10)
      replace t9 := t9.mono s10
      have t10 : TripAt H10 (.ref p5) ⟨0, r - k, []⟩ := trip_mk h5 rfl (by omega) s_empty
      refine ne_trip kK t9 t10 ⟨_, rfl, iteF ?_⟩
      refine ⟨_, rfl, _, rfl, _, rfl, _, _, rfl, rfl, ?_⟩
      refine ⟨by (first | (show _ ≤ sizeLine; decide) | (simp only [List.length_cons, List.length_nil]; decide)), fun p6 hNewp6 => ?_⟩
      generalize hGenp6 : upd _ p6 _ = H11
      obtain ⟨s11, h6⟩ := Same.ofG hNewp6 hGenp6
      replace s3 := s3.trans s11
      replace hp3 := hp3.mono s11
      replace hD6 := s11 _ _ hD6
      replace w0 := w0.tups (Tups.of s11)
      replace w1 := w1.tups (Tups.of s11)
      have t11 : TripAt H11 (.ref p6) ⟨0, r - k, []⟩ := trip_mk h6 rfl (by omega) s_empty
      refine ⟨.ref pa, pl15 r 2 [1, 1] 1, .ref p6, _, rfl, hp3, ok, t11, kK, fun H12 s12 => ?_⟩
      replace s3 := s3.trans s12
      replace hp3 := hp3.mono s12
      replace hD6 := s12 _ _ hD6
      replace w0 := w0.tups (Tups.of s12)
      replace w1 := w1.tups (Tups.of s12)
      refine ⟨_, rfl, _, _, rfl, rfl, .inl ⟨by decide, by decide⟩, ?_⟩
      refine ⟨rfl, _, rfl, iteNS (congrArg V.int (by rw [ud_few hk1, Int.zero_add])) ?_⟩
      exact ⟨_, _, _, _, _, _, rfl, s3, hp3⟩
    · exact absurd (h1 (r - k) (Nat.sub_le ..)) (by show ¬ tby ((udW k).tri r) _ = tby ((udW (k + 1)).tri r) _; rw [t0, t1]; exact (ud_part hk1).mpr (Nat.le_refl _))
  · rintro σ H3 ⟨o2, o3, o4, o5, o6, o7, rfl, s3, hp3⟩
    exact q H3 s3
theorem ok_law_is_fallen (D : Dn K mg "_law_is_fallen" s_law_is_fallen P_law_is_fallen) (g : Gx mg) (c_M_init : C8.Mak P w K mg base 4 "Machine" C (spMInit C) []) (c_M_push : C8.Met P w K mg base 5 C "push" (spMPush C) []) (c_M_pop : C8.Met P w K mg base 5 C "pop" (spMPop C) []) (c_M_stack : C8.Met P w K mg base 1 C "stack" (spMStack C) []) (c_M_deeds : C8.Met P w K mg base 1 C "deeds" (spMDeeds C) []) (c_M_back : C8.Met P w K mg base 1 C "back" (spMBack C) []) : C8.Cal P w K mg base 6 "_law_is_fallen" spParted15 [] := by
  refine D.cal sc_law_is_fallen (fun vs H Q E h => ?_) (fun f cdv A outer s H vs Q E hr h => ?_)
  · obtain ⟨r, rfl, r1, r9, q⟩ := h
    rfl
  obtain ⟨r, rfl, r1, r9, q⟩ := h
  have nd := sc_law_is_fallen.nd
  refine ⟨_, (pss_cons (ps_set (i := 1) nd rfl (.inr rfl) (C8.pe_mk c_M_init hr (by decide) rfl (pa_cons (pe_tup (pa_cons (pv 0) (pa_cons pe_int (pa_cons (pe_tupF (pa_cons pe_int (pa_cons pe_int (pa_cons pe_int (pa_cons pe_int pa_nil))))) (pa_cons pe_int pa_nil))))) (pa_cons pe_str pa_nil))))
    (pss_cons (ps_setLc (i := 2) (own := [("_law_k", 3)]) rfl nd rfl rfl (sw_true rfl rfl rfl (by decide +kernel)) (pi_range1 (by rfl) g.range (pa_cons (pe_op op_add (pv 0) pe_int) pa_nil)) (blkOk_by (own := [("_law_k", 3)]) (N := N_law_is_fallen) (sc := defScope s_law_is_fallen) (by decide +kernel)) (fun _ _ _ _ _ => (pg_name (i := 3) nd rfl (.inl rfl))) (fun _ _ _ _ _ => pts_nil) (fun _ _ _ _ _ => (C8.pe_mt c_M_push (by exact hr) (by decide) (pv 1) (pa_cons (pe_ix ix_str pe_str (pe_op op_modN (pv 3) pe_int) (fun _ _ => rfl)) pa_nil))))
    (pss_cons (ps_if (PW.pt (pw_or (pt_cmpR (op_neD hr.units) (pv 2) (pe_op op_cat (pe_op op_rep (pe_lst (pa_cons pe_non pa_nil)) (pv 0)) (pe_lst (pa_cons pe_str (pa_cons pe_str (pa_cons pe_str pa_nil))))) (nomark _)) (pw_or1 (pt_cmpR op_ne (C8.pe_mt0 c_M_pop hr (by decide) (pv 1)) (pe_ix ix_str pe_str (pe_op op_modN (pe_op op_add (pv 0) pe_int) pe_int) (fun _ _ => rfl)) (nomark _))))) (pss_one (ps_ret pe_bl)) pss_nil)
    (pss_one (ps_ret (pe_and (pe_cmpR op_eq (pe_callB call_len_str rfl g.len PySem.boot_len (pa_cons (C8.pe_mt0 c_M_stack hr (by decide) (pv 1)) pa_nil)) (pe_op op_sub (pv 0) pe_int) (nomark _)) (pe_and (pe_cmpR op_eq (C8.pe_mt0 c_M_deeds hr (by decide) (pv 1)) (pe_op op_add (pv 0) pe_int) (nomark _)) (pe_one (C8.pe_mt0 c_M_back hr (by decide) (pv 1)))))))))), ?_⟩
  have s0 : Same H H := Same.refl H
  refine ⟨_, rfl, ?_⟩
  refine ⟨by (first | (show _ ≤ sizeLine; decide) | (simp only [List.length_cons, List.length_nil]; decide)), fun pb obpb hobpb hNewpb => ?_⟩
  generalize hGenpb : upd _ pb _ = H1
  obtain ⟨s1, hpb⟩ := Same.ofG hNewpb hGenpb
  replace hpb : TupF H1 pb _ := ⟨obpb, hobpb, hpb⟩
  replace s0 := s0.trans s1
  refine ⟨by (first | (show _ ≤ sizeLine; decide) | (simp only [List.length_cons, List.length_nil]; decide)), fun pa hNewpa => ?_⟩
  generalize hGenpa : upd _ pa _ = H2
  obtain ⟨s2, hpa⟩ := Same.ofG hNewpa hGenpa
  replace s0 := s0.trans s2
  replace hpb := TupF.mono hpb s2
  have hp : PlanAt H2 (.ref pa) ⟨r, 4, [1, 2, 3, 4], 5⟩ := PlanAt.mk hpb hpa
  have ok : Pl.Ok ⟨r, 4, [1, 2, 3, 4], 5⟩ := pl15_ok r1 r9 (by decide) (by decide) rfl (by decide) (by decide) (by decide)
  refine fun x dx hx hdx hne => ?_
  have sx : Same H2 (upd (upd H2 dx (.own x)) x (.ins C dx [])) := made_same0 hx hdx
  refine ⟨x, dx, .ref pa, ⟨r, 4, [1, 2, 3, 4], 5⟩, [], congrArg (fun z => [V.ref x, V.ref pa, V.str z]) s_empty, upd_same, hp.mono sx, ok, Nat.zero_le _, fun c hc => by simp at hc, fun H3 pm kk3 npm M => ⟨rfl, ?_⟩⟩
  have s3 : Same H2 H3 := made_same hx hdx hne kk3
  have nx : H x = none := none_of s0 hx
  have np : H pm = none := none_of s0 (made_none hx hdx npm)
  replace s0 := s0.trans s3
  replace hp := hp.mono s3
  have mf0 : Fal r 0 ⟨⟨r, 4, [1, 2, 3, 4], 5⟩, [], 0, tunt r, []⟩ := ⟨rfl, by simp [fallL], rfl, ⟨ok, Nat.zero_le _, fun c hc => by simp at hc, tunt_ok, fun y hy => by simp at hy⟩⟩
  refine ⟨_, rfl, _, _, rfl, rfl, (r : Int) + 3, rfl, by omega, by omega, fun D hD => ?_⟩
  have eN : ((r : Int) + 3).toNat = r + 3 := by omega
  rw [eN]
  have nD : H D = none := none_of s0 hD
  have sD := Same.new hD (.lst [])
  refine lc_range (lo := 0) (fun i H4 => ∃ m : MS, Same H H4 ∧ MAt C H4 x pm m ∧ Fal r i m ∧ H4 D = some (.lst (((List.range i).map (fallO r)).map optV)) ∧ D ≠ pm) ⟨_, s0.trans sD, M.mono sD, mf0, upd_same, fun z => by
    obtain ⟨xs, e, _⟩ := M.pl
    rw [← z, hD] at e
    cases e⟩ ?_ ?_
  · rintro i H4 hi ⟨m, s4, M4, f4, hD4, nDp⟩
    refine ⟨rfl, ?_⟩
    have ei : V.int (0 + (i : Int)) = V.int ((i : Nat) : Int) := by rw [Int.zero_add]
    obtain ⟨dx4, fs4, ho4, hn4⟩ := M4.at
    have nDx : D ≠ x := ne_of hD4 ho4 (by intro z; cases z)
    refine ⟨_, rfl, x, dx4, fs4, rfl, ho4, hn4 _ nf_push, ?_⟩
    refine ⟨_, rfl, _, _, rfl, rfl, by show (4 : Int) ≠ 0; decide, ("abcd" : Str), _, sg4 i, rfl, rfl, by rw [s_abcd, tx_len]; exact sz (by decide), by rw [Int.zero_add]; exact sg4_at i, ?_⟩
    refine ⟨x, pm, m, sg4 i, rfl, M4, f4.ok, by rw [f4.n]; omega, by rw [f4.p]; exact sg4_in i, fun H5 k5 M5 => ?_⟩
    have f5 := f4.next r1 r9 (by omega)
    have hD5 := k5 _ _ hD4 nDx nDp
    refine ⟨_, hD5, szl (by rw [List.length_map, List.length_map, List.length_range]; omega), _, fun b o e => ?_, M5.updL hD5 nDp, f5, ?_, nDp⟩
    · rw [upd_ne (ne_of_none e nD)]
      exact k5 _ _ (s4 _ _ e) (ne_of_none e nx) (ne_of_none e np)
    · rw [upd_same, f4.p, f4.l, fall_val r1 r9 (by omega), List.range_succ, List.map_append, List.map_append]
      rfl
  · rintro H4 ⟨m, s4, M4, f4, hD4, nDp⟩
    rw [fallO_all r (by omega)] at hD4
    refine ⟨_, rfl, ?_⟩
    refine ⟨by (first | (show _ ≤ sizeLine; decide) | (simp only [List.length_cons, List.length_nil]; decide)), fun la hNewla => ?_⟩
    generalize hGenla : upd _ la _ = H5
    obtain ⟨s5, h1⟩ := Same.ofG hNewla hGenla
    replace s4 := s4.trans s5
    replace M4 := M4.mono s5
    replace hD4 := s5 _ _ hD4
    refine ⟨_, rfl, la, r, _, rfl, rfl, h1, by omega, by omega, by show 1 * _ ≤ sizeLine; exact sz (by omega), fun lb hlb => ?_⟩
    have eN : (r : Int).toNat = r := by omega
    generalize hG : upd H5 lb _ = H6
    obtain ⟨s6, h2⟩ := Same.ofG hlb hG
    replace s4 := s4.trans s6
    replace M4 := M4.mono s6
    replace hD4 := s6 _ _ hD4
    replace h1 := s6 _ _ h1
    refine ⟨by (first | (show _ ≤ sizeLine; decide) | (simp only [List.length_cons, List.length_nil]; decide)), fun lc hNewlc => ?_⟩
    generalize hGenlc : upd _ lc _ = H7
    obtain ⟨s7, h3⟩ := Same.ofG hNewlc hGenlc
    replace s4 := s4.trans s7
    replace M4 := M4.mono s7
    replace hD4 := s7 _ _ hD4
    replace h2 := s7 _ _ h2
    refine ⟨lb, lc, _, _, rfl, rfl, h2, h3, ?_, fun ld hld => ?_⟩
    · rw [eN, List.length_flatten]
      simp
      exact sz (by omega)
    generalize hG : upd H7 ld _ = H8
    obtain ⟨s8, h4⟩ := Same.ofG hld hG
    replace s4 := s4.trans s8
    replace M4 := M4.mono s8
    replace hD4 := s8 _ _ hD4
    replace h2 := s8 _ _ h2
    replace h3 := s8 _ _ h3
    have efl : ∀ n : Nat, (List.replicate n [V.non]).flatten = (List.replicate n (none : Option Nat)).map optV := fun n => by
      induction n with
      | zero => rfl
      | succ n ih =>
        rw [List.replicate_succ, List.flatten_cons, ih, List.replicate_succ]
        rfl
    have h5 : H8 ld = some (.lst ((List.replicate r none ++ [some 97, some 98, some 99]).map optV)) := by
      rw [h4, eN, efl, List.map_append]
      show some (HO.lst (_ ++ [V.str "a", V.str "b", V.str "c"])) = some (HO.lst (_ ++ [V.str (tx [97]), V.str (tx [98]), V.str (tx [99])]))
      rw [s_a1, s_b1, s_c1]
    refine ne_opts hD4 h5 (fun c hc => by
      rcases List.mem_append.mp hc with h | h
      · have := (List.mem_replicate.mp h).2
        cases this
      · simp at h
        omega) ⟨_, rfl, iteF ?_⟩
    obtain ⟨dx5, fs5, ho5, hn5⟩ := M4.at
    refine ⟨_, rfl, x, dx5, fs5, rfl, ho5, hn5 _ nf_pop, x, pm, m, rfl, M4, f4.ok, by rw [f4.n]; omega, fun H9 k9 M9 => ?_⟩
    replace s4 := Same.keepN s4 k9 nx np
    have et : topV m.l = .str (tx [sg4 (r + 2)]) := by
      rw [f4.l]
      unfold topV
      rw [fall_top r (by omega) (r + 3) (by omega) ⟨r1, by omega, by omega⟩]
      show V.str (tx [sg4 (r + 3 - 1)]) = _
      rw [show r + 3 - 1 = r + 2 by omega]
    rw [et]
    have e2 : (r : Int) + 2 = ((r + 2 : Nat) : Int) := by omega
    refine ⟨_, rfl, _, _, rfl, rfl, _, _, rfl, rfl, by show (4 : Int) ≠ 0; decide, ("abcd" : Str), _, sg4 (r + 2), rfl, rfl, by rw [s_abcd, tx_len]; exact sz (by decide), by rw [e2]; exact sg4_at (r + 2), ?_⟩
    refine ⟨rfl, _, rfl, iteNS rfl ?_⟩
    -- the stack, the deeds
    have okd : MS.Ok (m.deed (tstep m.p.room 45) (cst m.p 45)) := f4.ok.deed (tstep_ok f4.ok.p.r1 (.inl rfl)) _
    have el : (m.deed (tstep m.p.room 45) (cst m.p 45)).l.length = r - 1 := by
      show (tby (tstep m.p.room 45) m.l).length = r - 1
      rw [f4.l, f4.p]
      exact fall_pop r (by omega) r1
    have en : (m.deed (tstep m.p.room 45) (cst m.p 45)).past.length = r + 4 := by
      show (m.past ++ [_]).length = r + 4
      rw [List.length_append, f4.n]
      rfl
    generalize m.deed (tstep m.p.room 45) (cst m.p 45) = m2 at M9 okd el en
    obtain ⟨dx6, fs6, ho6, hn6⟩ := M9.at
    refine ⟨_, rfl, x, dx6, fs6, rfl, ho6, hn6 _ nf_stack, x, pm, m2, rfl, M9, fun H10 s10 => ?_⟩
    replace s4 := s4.trans s10
    replace M9 := M9.mono s10
    refine ⟨_, rfl, by rw [tx_len, el]; exact sz (by omega), _, rfl, _, _, rfl, rfl, rfl, ?_⟩
    refine ⟨_, rfl, iteD (congrArg V.int (by rw [tx_len, el]; omega)) ?_⟩
    obtain ⟨dx7, fs7, ho7, hn7⟩ := M9.at
    refine ⟨_, rfl, x, dx7, fs7, rfl, ho7, hn7 _ nf_deeds, x, pm, m2, rfl, M9, fun H11 s11 => ?_⟩
    replace s4 := s4.trans s11
    replace M9 := M9.mono s11
    refine ⟨_, rfl, _, _, rfl, rfl, rfl, _, rfl, iteD (congrArg V.int (by rw [en]; omega)) ?_⟩
    obtain ⟨dx8, fs8, ho8, hn8⟩ := M9.at
    refine ⟨_, rfl, x, dx8, fs8, rfl, ho8, hn8 _ nf_back, x, pm, m2, rfl, M9, fun z => ?_, fun ps y e H12 k12 M12 => ?_⟩
    · rw [z] at en
      simp at en
    · exact q H12 (Same.keepN s4 k12 nx np)
theorem pickOften {K : PySem.W.Frag} {σ : L2.St} {H : Hp} {Q : VK} {p q : Addr} {ns : List Int} {z : Int} (hσ : σ[1]? = some (some (.ref p))) (B : BoxAt H p q ns z)
    (h : ∀ (o : Nat) (ns' : List Int) (z' : Int) (H' : Hp), o ≤ 1000000000000000000 → BoxAt H' p q ns' z' → Keep p q H H' → Q (.int (o : Int)) H') :
    tOp (rIxL K) (tLst (tCons (tCall spTake [] C8.E0 (tCons (tVar 1) (tCons (tC (V.int 12)) tNil))) (tCons (tOp (rI0 fun i j => V.int (i - j)) (tOp (rI CPow fun i j => V.int (i ^ j.toNat)) (tC (V.int 10)) (tC (V.int 18))) (tCall spTake [] C8.E0 (tCons (tVar 1) (tCons (tC (V.int 9)) tNil)))) tNil)))
      (tCall spTake [] C8.E0 (tCons (tVar 1) (tCons (tC (V.int 2)) tNil))) σ H Q := by
  refine ⟨_, hσ, p, q, ns, z, 12, rfl, B, by decide, p9 (by decide), fun f n1 z1 H1 f0 f1 B1 k1 => ?_⟩
  refine ⟨_, _, rfl, rfl, in45p, _, hσ, p, q, n1, z1, 9, rfl, B1, by decide, p9 (by decide), fun e n2 z2 H2 e0 e1 B2 k2 => ?_⟩
  refine ⟨_, _, rfl, rfl, by show 2 ≤ sizeLine; decide, fun D hD => ?_⟩
  rw [in45]
  have sD := Same.new hD (.lst [.int f, .int (1000000000000000000 - e)])
  refine ⟨_, hσ, p, q, n2, z2, 2, rfl, B2.mono sD, by decide, p9 (by decide), fun r n3 z3 H3 r0 r1' B3 k3 => ?_⟩
  have hf := B2.fresh hD
  have hL : H3 D = some (.lst [.int f, .int (1000000000000000000 - e)]) := k3 _ _ upd_same hf.1 hf.2
  have kk := k1.trans (k2.trans ((Keep.of sD).trans k3))
  have hr : r = 0 ∨ r = 1 := by omega
  rcases hr with rfl | rfl
  · refine ⟨D, _, 0, _, rfl, rfl, SqL.of hL, rfl, ?_⟩
    have e1 : f = ((f.toNat : Nat) : Int) := by omega
    rw [e1]
    exact h _ n3 z3 H3 (by omega) B3 kk
  · refine ⟨D, _, 1, _, rfl, rfl, SqL.of hL, rfl, ?_⟩
    have e1 : 1000000000000000000 - e = (((1000000000000000000 - e).toNat : Nat) : Int) := by omega
    rw [e1]
    exact h _ n3 z3 H3 (by omega) B3 kk
/-- 1 + take(box, n) -/
theorem oneTake {σ : L2.St} {H : Hp} {Q : VK} {p q : Addr} {ns : List Int} {z : Int} {n : Int} (hσ : σ[1]? = some (some (.ref p))) (B : BoxAt H p q ns z) (h0 : 0 < n) (h9 : n ≤ 1000)
    (h : ∀ (r : Nat) (ns' : List Int) (z' : Int) (H' : Hp), 1 ≤ r → (r : Int) ≤ n → BoxAt H' p q ns' z' → Keep p q H H' → Q (.int (r : Int)) H') :
    tOp (rI0 fun i j => V.int (i + j)) (tC (V.int 1)) (tCall spTake [] C8.E0 (tCons (tVar 1) (tCons (tC (V.int n)) tNil))) σ H Q := by
  refine ⟨_, hσ, p, q, ns, z, n, rfl, B, h0, p9 (by omega), fun f n1 z1 H1 f0 f1 B1 k1 => ?_⟩
  refine ⟨_, _, rfl, rfl, ?_⟩
  dsimp only
  have e1 : 1 + f = (((1 + f).toNat : Nat) : Int) := by omega
  rw [e1]
  exact h _ n1 z1 H1 (by omega) (by omega) B1 k1
theorem ok_law {f : Addr} {fd : FuncData} (F : L2.Fun K "law" "law" s_law f fd) (g : Gx mg) (c_law_begun : C8.Cal P w K mg base 1 "_law_begun" (spLBegun K) []) (c_law_take : C8.Cal P w K mg base 1 "_law_take" spTake []) (c_law_are_done_often : C8.Cal P w K mg base 13 "_law_are_done_often" spOften []) (c_law_is_emptied : C8.Cal P w K mg base 5 "_law_is_emptied" (spEmptied T) []) (c_law_are_parted : C8.Cal P w K mg base 13 "_law_are_parted" spParted15 []) (c_law_is_fallen : C8.Cal P w K mg base 6 "_law_is_fallen" spParted15 []) : FnOk P w K mg base CX0 14 f fd P_law (spLawT K T) := by
  refine F.ok sc_law (fun vs H Q E h => ?_) (fun cdv A outer s H vs Q E hr h => ?_)
  · obtain ⟨a, ns, rfl, hS, h63, hT, kk⟩ := h
    rfl
  obtain ⟨a, ns, rfl, hS, h63, hT, kk⟩ := h
  have nd := sc_law.nd
  refine ⟨_, (pss_cons (ps_set (i := 1) nd rfl (.inl rfl) (C8.pe_c c_law_begun hr (by decide) rfl (pa_cons (pv 0) pa_nil)))
    (pss_cons (ps_set (i := 2) nd rfl (.inl rfl) (pe_ix ix_list (pe_lst (pa_cons (C8.pe_c c_law_take hr (by decide) rfl (pa_cons (pv 1) (pa_cons pe_int pa_nil))) (pa_cons (pe_op op_sub (pe_op op_pow pe_int pe_int) (C8.pe_c c_law_take hr (by decide) rfl (pa_cons (pv 1) (pa_cons pe_int pa_nil)))) pa_nil))) (C8.pe_c c_law_take hr (by decide) rfl (pa_cons (pv 1) (pa_cons pe_int pa_nil))) (fun _ _ => rfl)))
    (pss_cons (ps_if (pt_not (pt_val (C8.pe_c c_law_are_done_often hr (by decide) rfl (pa_cons (pe_op op_add pe_int (C8.pe_c c_law_take hr (by decide) rfl (pa_cons (pv 1) (pa_cons pe_int pa_nil)))) (pa_cons (pv 2) pa_nil))))) (pss_one (ps_ret pe_bl)) pss_nil)
    (pss_cons (ps_if (pt_not (pt_val (C8.pe_c c_law_is_emptied hr (by decide) rfl (pa_cons (pe_op op_add pe_int (C8.pe_c c_law_take hr (by decide) rfl (pa_cons (pv 1) (pa_cons pe_int pa_nil)))) (pa_cons (pe_op op_add pe_int (C8.pe_c c_law_take hr (by decide) rfl (pa_cons (pv 1) (pa_cons pe_int pa_nil)))) (pa_cons (pe_op op_add pe_int (C8.pe_c c_law_take hr (by decide) rfl (pa_cons (pv 1) (pa_cons pe_int pa_nil)))) pa_nil)))))) (pss_one (ps_ret pe_bl)) pss_nil)
    (pss_one (ps_ret (pe_and (C8.pe_c c_law_are_parted hr (by decide) rfl (pa_cons (pe_op op_add pe_int (C8.pe_c c_law_take hr (by decide) rfl (pa_cons (pv 1) (pa_cons pe_int pa_nil)))) pa_nil)) (pe_one (C8.pe_c c_law_is_fallen hr (by decide) rfl (pa_cons (pe_op op_add pe_int (C8.pe_c c_law_take hr (by decide) rfl (pa_cons (pv 1) (pa_cons pe_int pa_nil)))) pa_nil)))))))))), ?_⟩
  refine ⟨_, rfl, a, ns, rfl, hS, h63, fun p q z H1 s1 B np nq => ?_⟩
  replace hT := Tabs.same hT s1
  refine pickOften rfl B fun o ns2 z2 H2 ho B2 k2 => ?_
  replace hT := Tabs.keep hT B k2
  refine oneTake rfl B2 (by decide) (by decide) fun r1 ns3 z3 H3 a1 b1 B3 k3 => ?_
  replace hT := Tabs.keep hT B2 k3
  refine ⟨_, rfl, r1, o, rfl, a1, by omega, ho, fun H4 s4 => ⟨_, rfl, iteF ?_⟩⟩
  replace hT := Tabs.same hT s4
  replace B3 := B3.mono s4
  refine oneTake rfl B3 (by decide) (by decide) fun r2 ns5 z5 H5 a2 b2 B5 k5 => ?_
  replace hT := Tabs.keep hT B3 k5
  refine oneTake rfl B5 (by decide) (by decide) fun r3 ns6 z6 H6 a3 b3 B6 k6 => ?_
  replace hT := Tabs.keep hT B5 k6
  refine oneTake rfl B6 (by decide) (by decide) fun r4 ns7 z7 H7 a4 b4 B7 k7 => ?_
  replace hT := Tabs.keep hT B6 k7
  refine ⟨r2, (r3 : Int), (r4 : Int), rfl, a2, by omega, by omega, by omega, by omega, by omega, hT, fun H8 e8 hT8 => ⟨_, rfl, iteF ?_⟩⟩
  replace B7 := B7.ext e8
  replace hT := hT8
  refine oneTake rfl B7 (by decide) (by decide) fun r5 ns9 z9 H9 a5 b5 B9 k9 => ?_
  replace hT := Tabs.keep hT B7 k9
  refine ⟨r5, rfl, a5, by omega, fun H10 s10 => ⟨_, rfl, iteT ?_⟩⟩
  replace hT := Tabs.same hT s10
  replace B9 := B9.mono s10
  refine oneTake rfl B9 (by decide) (by decide) fun r6 ns11 z11 H11 a6 b6 B11 k11 => ?_
  exact ⟨r6, rfl, a6, by omega, fun H12 s12 => kk H12⟩
end
/-! ### the end -/
theorem gx_mk {K : PySem.W.Frag} {mg : Str → Option Value} {h : Heap} (X : K.In h) (G : h.Ns mainGlobals mg) {u0 : Value} (v0 : PySem.W.nsIn K mainGlobals "SIGNS" = some (some u0)) (r0 : RelV (.str (tx [97, 98, 99, 100])) u0) {u1 : Value} (v1 : PySem.W.nsIn K mainGlobals "POP_STEP" = some (some u1)) (r1 : RelV (.str (tx [45])) u1) {u2 : Value} (v2 : PySem.W.nsIn K mainGlobals "MOST_ROOM" = some (some u2)) (r2 : RelV (.int 9) u2) {u3 : Value} (v3 : PySem.W.nsIn K mainGlobals "MOST_PRICE" = some (some u3)) (r3 : RelV (.int 99) u3) {u4 : Value} (v4 : PySem.W.nsIn K mainGlobals "MOST_TIMES" = some (some u4)) (r4 : RelV (.int 1000000000000000000) u4) {u5 : Value} (v5 : PySem.W.nsIn K mainGlobals "MOST_WORKS" = some (some u5)) (r5 : RelV (.int 60) u5) {u6 : Value} (v6 : PySem.W.nsIn K mainGlobals "MOST_DEEP" = some (some u6)) (r6 : RelV (.int 8) u6) (z0 : PySem.W.nsIn K mainGlobals "isinstance" = some none) (z1 : PySem.W.nsIn K mainGlobals "bool" = some none) (z2 : PySem.W.nsIn K mainGlobals "int" = some none) (z3 : PySem.W.nsIn K mainGlobals "str" = some none) (z4 : PySem.W.nsIn K mainGlobals "tuple" = some none) (z5 : PySem.W.nsIn K mainGlobals "len" = some none) (z6 : PySem.W.nsIn K mainGlobals "all" = some none) (z7 : PySem.W.nsIn K mainGlobals "max" = some none) (z8 : PySem.W.nsIn K mainGlobals "min" = some none) (z9 : PySem.W.nsIn K mainGlobals "range" = some none) (z10 : PySem.W.nsIn K mainGlobals "list" = some none) (z11 : PySem.W.nsIn K mainGlobals "reversed" = some none) (z12 : PySem.W.nsIn K mainGlobals "sum" = some none) (z13 : PySem.W.nsIn K mainGlobals "abs" = some none) : Gx mg :=
  ⟨⟨_, PySem.W.mg_of X G v0, r0⟩, ⟨_, PySem.W.mg_of X G v1, r1⟩, ⟨_, PySem.W.mg_of X G v2, r2⟩, ⟨_, PySem.W.mg_of X G v3, r3⟩, ⟨_, PySem.W.mg_of X G v4, r4⟩, ⟨_, PySem.W.mg_of X G v5, r5⟩, ⟨_, PySem.W.mg_of X G v6, r6⟩, PySem.W.mg_none_of X G z0, PySem.W.mg_none_of X G z1, PySem.W.mg_none_of X G z2, PySem.W.mg_none_of X G z3, PySem.W.mg_none_of X G z4, PySem.W.mg_none_of X G z5, PySem.W.mg_none_of X G z6, PySem.W.mg_none_of X G z7, PySem.W.mg_none_of X G z8, PySem.W.mg_none_of X G z9, PySem.W.mg_none_of X G z10, PySem.W.mg_none_of X G z11, PySem.W.mg_none_of X G z12, PySem.W.mg_none_of X G z13⟩
theorem all_mk {l : PySem.W.OpenLaw} {w : World} {K : PySem.W.Frag} {h : Heap} {mg : Str → Option Value} {fa fL cW PT C : Addr} (X : K.In h) (G : h.Ns mainGlobals mg) (hfa : mg "law" = some (.ref fa))
    {od an : Option Addr} {sl : Array (Option Value)} {oc kV dc pm cd ct : Value}
    (aL : PySem.W.nsIn K mainGlobals "law" = some (some (.ref fL))) (lL : K.lookup fL = some ⟨oc, od, .func (PySem.W.fnOf "law" "law" (defArgs s_law) (defBody s_law) (defScope s_law) .none kV dc pm an cd ct), sl⟩) (cL : PySem.W.codeIn K cd "law" = true) (kL : PySem.W.keepIn K (.ref fL) = true)
    (g : Gx mg) (T : MT K C)
    (D_signs_of : Dn K mg "signs_of" s_signs_of P_signs_of)
    (D_is_number : Dn K mg "is_number" s_is_number P_is_number)
    (D_is_text_of : Dn K mg "is_text_of" s_is_text_of P_is_text_of)
    (D_are_prices : Dn K mg "are_prices" s_are_prices P_are_prices)
    (D_check_plan : Dn K mg "check_plan" s_check_plan P_check_plan)
    (D_is_stack : Dn K mg "is_stack" s_is_stack P_is_stack)
    (D_check_stack : Dn K mg "check_stack" s_check_stack P_check_stack)
    (D_check_steps : Dn K mg "check_steps" s_check_steps P_check_steps)
    (D_is_triple : Dn K mg "is_triple" s_is_triple P_is_triple)
    (D_check_triple : Dn K mg "check_triple" s_check_triple P_check_triple)
    (D_without_top : Dn K mg "without_top" s_without_top P_without_top)
    (D_top_of : Dn K mg "top_of" s_top_of P_top_of)
    (D_stack_behind : Dn K mg "stack_behind" s_stack_behind P_stack_behind)
    (D_tidied : Dn K mg "tidied" s_tidied P_tidied)
    (D_untouched : Dn K mg "untouched" s_untouched P_untouched)
    (D_join_triples : Dn K mg "join_triples" s_join_triples P_join_triples)
    (D_triple_of_step : Dn K mg "triple_of_step" s_triple_of_step P_triple_of_step)
    (D_triple_of_steps : Dn K mg "triple_of_steps" s_triple_of_steps P_triple_of_steps)
    (D_told_of_steps : Dn K mg "told_of_steps" s_told_of_steps P_told_of_steps)
    (D_law_take : Dn K mg "_law_take" s_law_take P_law_take)
    (D_is_work_alone : Dn K mg "is_work_alone" s_is_work_alone P_is_work_alone)
    (D_works_within : Dn K mg "works_within" s_works_within P_works_within)
    (D_power_triple : Dn K mg "power_triple" s_power_triple P_power_triple)
    (D_price_of_step : Dn K mg "price_of_step" s_price_of_step P_price_of_step)
    (D_triple_of_work : Dn K mg "triple_of_work" s_triple_of_work P_triple_of_work)
    (D_price_of_work : Dn K mg "price_of_work" s_price_of_work P_price_of_work)
    (D_check_work : Dn K mg "check_work" s_check_work P_check_work)
    (D_told : Dn K mg "told" s_told P_told)
    (D_cost : Dn K mg "cost" s_cost P_cost)
    (D_check_sign : Dn K mg "check_sign" s_check_sign P_check_sign)
    (D_M_add_deed : Dm K C "_add_deed" "Machine._add_deed" s_M_add_deed P_M_add_deed)
    (D_M_add_step : Dm K C "_add_step" "Machine._add_step" s_M_add_step P_M_add_step)
    (D_M_do : Dm K C "do" "Machine.do" s_M_do P_M_do)
    (D_M_push : Dm K C "push" "Machine.push" s_M_push P_M_push)
    (D_M_pop : Dm K C "pop" "Machine.pop" s_M_pop P_M_pop)
    (D_M_back : Dm K C "back" "Machine.back" s_M_back P_M_back)
    (D_M_stack : Dm K C "stack" "Machine.stack" s_M_stack P_M_stack)
    (D_M_spent : Dm K C "spent" "Machine.spent" s_M_spent P_M_spent)
    (D_M_triple : Dm K C "triple" "Machine.triple" s_M_triple P_M_triple)
    (D_M_deeds : Dm K C "deeds" "Machine.deeds" s_M_deeds P_M_deeds)
    (D_M_init : Di K mg C "Machine" "Machine.__init__" s_M_init P_M_init)
    (D_alike : Dn K mg "alike" s_alike P_alike)
    (D_parting : Dn K mg "parting" s_parting P_parting)
    (D_texts_of_size : Dn K mg "texts_of_size" s_texts_of_size P_texts_of_size)
    (D_texts_up_to : Dn K mg "texts_up_to" s_texts_up_to P_texts_up_to)
    (D_how_many_left : Dn K mg "how_many_left" s_how_many_left P_how_many_left)
    (D_befores : Dn K mg "befores" s_befores P_befores)
    (D_law_begun : Dn K mg "_law_begun" s_law_begun P_law_begun)
    (D_cheapest_sign : Dn K mg "cheapest_sign" s_cheapest_sign P_cheapest_sign)
    (D_ways : Dn K mg "ways" s_ways P_ways)
    (D_steps_of_way : Dn K mg "steps_of_way" s_steps_of_way P_steps_of_way)
    (D_price_of_steps : Dn K mg "price_of_steps" s_price_of_steps P_price_of_steps)
    (D_fewest : Dn K mg "fewest" s_fewest P_fewest)
    (D_cheapest_way : DnL K mg "cheapest_way" s_cheapest_way P_cheapest_way cW)
    (D_cheapest : Dn K mg "cheapest" s_cheapest P_cheapest)
    (D_fillers : Dn K mg "fillers" s_fillers P_fillers)
    (D_cuts : Dn K mg "cuts" s_cuts P_cuts)
    (D_how_many_laying : Dn K mg "how_many_laying" s_how_many_laying P_how_many_laying)
    (D_how_many_triples : Dn K mg "how_many_triples" s_how_many_triples P_how_many_triples)
    (D_count : Dn K mg "count" s_count P_count)
    (D_law_are_done_often : Dn K mg "_law_are_done_often" s_law_are_done_often P_law_are_done_often)
    (D_law_sum : Dn K mg "_law_sum" s_law_sum P_law_sum)
    (D_law_is_emptied : Dn K mg "_law_is_emptied" s_law_is_emptied P_law_is_emptied)
    (D_law_are_parted : Dn K mg "_law_are_parted" s_law_are_parted P_law_are_parted)
    (D_law_is_fallen : Dn K mg "_law_is_fallen" s_law_is_fallen P_law_is_fallen) :
    ∃ fd : FuncData, (∀ (s : Shared) (v : Value), BindsTo s fd ⟨[v], []⟩ [("_law_script", v)]) ∧ ∀ base : Heap, K.In base → base.Ns mainGlobals mg → LamX.TabB base mg cW PT → FnOk l.prog w K mg base CX0 14 fa fd ["_law_script"] (spLawT K [(PT, lamQ)]) := by
  have e := hfa.symm.trans (PySem.W.mg_of X G aL)
  cases e
  have F := fun_mk (st := s_law) lL cL kL
  refine ⟨PySem.W.fnOf "law" "law" (defArgs s_law) (defBody s_law) (defScope s_law) .none kV dc pm an cd ct, fun s v => .of_eq rfl, fun base _ _ TB => ?_⟩
  have c_signs_of := ok_signs_of (P := l.prog) (w := w) (base := base) D_signs_of g
  have c_is_number := ok_is_number (P := l.prog) (w := w) (base := base) D_is_number g
  have c_is_text_of := ok_is_text_of (P := l.prog) (w := w) (base := base) D_is_text_of g
  have c_are_prices := ok_are_prices (P := l.prog) (w := w) (base := base) D_are_prices g c_is_number
  have c_check_plan := ok_check_plan (P := l.prog) (w := w) (base := base) D_check_plan g c_is_number c_are_prices
  have c_is_stack := ok_is_stack (P := l.prog) (w := w) (base := base) D_is_stack g c_signs_of c_is_text_of
  have c_check_stack := ok_check_stack (P := l.prog) (w := w) (base := base) D_check_stack g c_is_stack
  have c_check_steps := ok_check_steps (P := l.prog) (w := w) (base := base) D_check_steps g c_signs_of c_is_text_of
  have c_is_triple := ok_is_triple (P := l.prog) (w := w) (base := base) D_is_triple g c_is_number c_signs_of c_is_text_of
  have c_check_triple := ok_check_triple (P := l.prog) (w := w) (base := base) D_check_triple g c_is_triple
  have c_without_top := ok_without_top (P := l.prog) (w := w) (base := base) D_without_top g
  have c_top_of := ok_top_of (P := l.prog) (w := w) (base := base) D_top_of g
  have c_stack_behind := ok_stack_behind (P := l.prog) (w := w) (base := base) D_stack_behind g c_without_top c_top_of
  have c_tidied := ok_tidied (P := l.prog) (w := w) (base := base) D_tidied g
  have c_untouched := ok_untouched (P := l.prog) (w := w) (base := base) D_untouched g
  have c_join_triples := ok_join_triples (P := l.prog) (w := w) (base := base) D_join_triples g c_without_top c_top_of c_tidied
  have c_triple_of_step := ok_triple_of_step (P := l.prog) (w := w) (base := base) D_triple_of_step g c_tidied
  have c_triple_of_steps := ok_triple_of_steps (P := l.prog) (w := w) (base := base) D_triple_of_steps g c_untouched c_triple_of_step c_join_triples
  have c_told_of_steps := ok_told_of_steps (P := l.prog) (w := w) (base := base) D_told_of_steps g c_check_plan c_check_steps c_triple_of_steps
  have c_law_take := ok_law_take (P := l.prog) (w := w) (base := base) D_law_take g
  have c_is_work_alone := ok_is_work_alone (P := l.prog) (w := w) (base := base) D_is_work_alone g c_is_number
  have c_works_within := ok_works_within (P := l.prog) (w := w) (base := base) D_works_within g
  have c_power_triple := ok_power_triple (P := l.prog) (w := w) (base := base) D_power_triple g c_untouched c_join_triples
  have c_price_of_step := ok_price_of_step (P := l.prog) (w := w) (base := base) D_price_of_step g
  have c_triple_of_work := ok_triple_of_work (P := l.prog) (w := w) (base := base) D_triple_of_work g c_triple_of_step c_power_triple c_untouched c_join_triples 8
  have c_price_of_work := ok_price_of_work (P := l.prog) (w := w) (base := base) D_price_of_work g c_price_of_step 8
  have c_check_work := ok_check_work (P := l.prog) (w := w) (base := base) D_check_work g c_signs_of c_is_work_alone c_works_within
  have c_told := ok_told (P := l.prog) (w := w) (base := base) D_told g c_check_plan c_check_work c_triple_of_work
  have c_cost := ok_cost (P := l.prog) (w := w) (base := base) D_cost g c_check_plan c_check_work c_price_of_work
  have c_check_sign := ok_check_sign (P := l.prog) (w := w) (base := base) D_check_sign g c_signs_of
  have c_M_add_deed := ok_M_add_deed (P := l.prog) (w := w) (base := base) D_M_add_deed T g c_stack_behind c_join_triples
  have c_M_add_step := ok_M_add_step (P := l.prog) (w := w) (base := base) D_M_add_step T g c_triple_of_step c_price_of_step c_M_add_deed
  have c_M_do := ok_M_do (P := l.prog) (w := w) (base := base) D_M_do T g c_check_work c_triple_of_work c_price_of_work c_M_add_deed
  have c_M_push := ok_M_push (P := l.prog) (w := w) (base := base) D_M_push T g c_check_sign c_M_add_step
  have c_M_pop := ok_M_pop (P := l.prog) (w := w) (base := base) D_M_pop T g c_M_add_step
  have c_M_back := ok_M_back (P := l.prog) (w := w) (base := base) D_M_back T g
  have c_M_stack := ok_M_stack (P := l.prog) (w := w) (base := base) D_M_stack T g
  have c_M_spent := ok_M_spent (P := l.prog) (w := w) (base := base) D_M_spent T g
  have c_M_triple := ok_M_triple (P := l.prog) (w := w) (base := base) D_M_triple T g
  have c_M_deeds := ok_M_deeds (P := l.prog) (w := w) (base := base) D_M_deeds T g
  have c_M_init := ok_M_init (P := l.prog) (w := w) (base := base) D_M_init T g c_check_plan c_check_stack c_untouched
  have c_alike := ok_alike (P := l.prog) (w := w) (base := base) D_alike g c_check_plan c_check_work c_triple_of_work
  have c_parting := ok_parting (P := l.prog) (w := w) (base := base) D_parting g c_check_plan c_check_work c_triple_of_work c_stack_behind
  have c_texts_of_size := ok_texts_of_size (P := l.prog) (w := w) (base := base) D_texts_of_size g
  have c_texts_up_to := ok_texts_up_to (P := l.prog) (w := w) (base := base) D_texts_up_to g c_texts_of_size
  have c_how_many_left := ok_how_many_left (P := l.prog) (w := w) (base := base) D_how_many_left g c_texts_up_to c_texts_of_size
  have c_befores := ok_befores (P := l.prog) (w := w) (base := base) D_befores g c_check_plan c_check_triple c_check_stack c_how_many_left
  have c_law_begun := ok_law_begun (P := l.prog) (w := w) (base := base) D_law_begun g
  have c_cheapest_sign := ok_cheapest_sign (P := l.prog) (w := w) (base := base) D_cheapest_sign g
  have c_ways := ok_ways (P := l.prog) (w := w) (base := base) D_ways g
  have c_steps_of_way := ok_steps_of_way (P := l.prog) (w := w) (base := base) D_steps_of_way g c_cheapest_sign
  have c_price_of_steps := ok_price_of_steps (P := l.prog) (w := w) (base := base) D_price_of_steps g c_price_of_step
  have c_fewest := ok_fewest (P := l.prog) (w := w) (base := base) D_fewest g c_check_plan c_check_triple c_ways
  have c_cheapest_way := ok_cheapest_way (P := l.prog) (w := w) (base := base) D_cheapest_way TB g c_ways
  have c_cheapest := ok_cheapest (P := l.prog) (w := w) (base := base) D_cheapest g c_check_plan c_check_triple c_cheapest_way c_steps_of_way c_price_of_steps
  have c_fillers := ok_fillers (P := l.prog) (w := w) (base := base) D_fillers g c_check_plan c_check_triple c_cheapest_way
  have c_cuts := ok_cuts (P := l.prog) (w := w) (base := base) D_cuts g
  have c_how_many_laying := ok_how_many_laying (P := l.prog) (w := w) (base := base) D_how_many_laying g c_texts_of_size c_cuts
  have c_how_many_triples := ok_how_many_triples (P := l.prog) (w := w) (base := base) D_how_many_triples g c_how_many_laying
  have c_count := ok_count (P := l.prog) (w := w) (base := base) D_count g c_check_plan c_how_many_triples
  have c_law_are_done_often := ok_law_are_done_often (P := l.prog) (w := w) (base := base) D_law_are_done_often g c_told c_cost c_M_init c_M_do c_M_spent
  have c_law_sum := ok_law_sum (P := l.prog) (w := w) (base := base) D_law_sum g
  have c_law_is_emptied := ok_law_is_emptied (P := l.prog) (w := w) (base := base) D_law_is_emptied g c_cheapest c_fewest c_fillers c_befores c_count c_law_sum
  have c_law_are_parted := ok_law_are_parted (P := l.prog) (w := w) (base := base) D_law_are_parted g c_parting c_alike c_told_of_steps c_fewest
  have c_law_is_fallen := ok_law_is_fallen (P := l.prog) (w := w) (base := base) D_law_is_fallen g c_M_init c_M_push c_M_pop c_M_stack c_M_deeds c_M_back
  exact ok_law F g c_law_begun c_law_take c_law_are_done_often c_law_is_emptied c_law_are_parted c_law_is_fallen
theorem mt_mk {K : PySem.W.Frag} {C : Addr} (pg : PySem.W.plainGet K C Str.empty = true) (hd : PySem.W.hasDictIn K C = true) (po : PySem.W.plainOver K C = true) (sa : PySem.W.findIn K (.ref C) "__setattr__" = some (some (.builtin "object.__setattr__"))) (n_plan : PySem.W.findIn K (.ref C) "_plan" = some none) (n_stack : PySem.W.findIn K (.ref C) "_stack" = some none) (n_spent : PySem.W.findIn K (.ref C) "_spent" = some none) (n_triple : PySem.W.findIn K (.ref C) "_triple" = some none) (n_past : PySem.W.findIn K (.ref C) "_past" = some none) : MT K C := ⟨⟨pg, hd, po, sa⟩, n_plan, n_stack, n_spent, n_triple, n_past⟩
theorem law_at {l : PySem.W.OpenLaw} {w : World} {K : PySem.W.Frag} {h : Heap} {mg : Str → Option Value} {fa cL PT : Addr} {k : Nat} (hE : h.get? PT = some { cls := .none, data := .fields #[] }) (hN : K.lookup PT = none) (hC : PySem.W.codeHdIn K cL PT = true) (KX : K.In h)
    (A : ∃ fd : FuncData, (∀ (s : Shared) (v : Value), BindsTo s fd ⟨[v], []⟩ [("_law_script", v)]) ∧ ∀ base : Heap, K.In base → base.Ns mainGlobals mg → LamX.TabB base mg cL PT → FnOk l.prog w K mg base CX0 k fa fd ["_law_script"] (spLawT K [(PT, lamQ)])) : LamX.LawAtS l w K CX0 k 63 "_law_script" mg fa h := by
  obtain ⟨fd, hb, hF⟩ := A
  refine ⟨fd, [(cL, PT)], spLawT K [(PT, lamQ)], fun p hp => ?_, fun p hp => ?_, fun p hp => ?_, hb, fun H a ns hl _ hH hS => ⟨a, ns, rfl, hS, hl, fun p hp => ?_, fun _ => rfl⟩, fun base b1 b2 b3 => hF base b1 b2 (b3 _ (List.mem_singleton.mpr rfl))⟩
  · rw [List.mem_singleton.mp hp]
    exact hE
  · rw [List.mem_singleton.mp hp]
    exact hN
  · rw [List.mem_singleton.mp hp]
    exact PySem.W.codeHd_of_K KX hC
  · rw [List.mem_singleton.mp hp]
    exact LamX.TabS.nil (hH _ (List.mem_singleton.mpr rfl))
end SK
open PySem PySem.W PyProof.Rows
set_option maxRecDepth 100000 in
set_option maxHeartbeats 0 in
theorem PySem.Challenge.cw_sinkstack_k15_whole_known_works_holds : PySem.Challenge.rw_sinkstack_k15_whole_known_works.Holds := by
  w_on; o_law; k_head; (case hw => w_witness2)
  k_fill
  refine LamX.walk_ofTs (n := 63) (k := 14) (x := "_law_script") (CX := fun _ => L2.CX0) rfl (by decide) rfl ⟨rfl, by decide, by decide⟩ (fun w h Y => PySem.W.km_in_of Y) ?F (fun _ _ _ _ _ z => z)
  case F =>
    intro w mg fa h Y KX G hmg
    have hT8 := PySem.W.km_tabs_of Y
    refine' SK.law_at (hT8 _ (List.mem_cons_self ..)) ?hN ?hC KX ?A
    case A =>
     refine' SK.all_mk KX G hmg ?aL ?lL ?cL ?kL (SK.gx_mk KX G ?v0 ?r0 ?v1 ?r1 ?v2 ?r2 ?v3 ?r3 ?v4 ?r4 ?v5 ?r5 ?v6 ?r6 ?z0 ?z1 ?z2 ?z3 ?z4 ?z5 ?z6 ?z7 ?z8 ?z9 ?z10 ?z11 ?z12 ?z13) (SK.mt_mk ?pg ?hd ?po ?sa ?n_plan ?n_stack ?n_spent ?n_triple ?n_past)
      (SK.dn_mk KX G ?a0 ?l0 ?c0 ?k0 (fun _ _ _ _ _ _ us hl => match us, hl with | [_], _ => rfl))
      (SK.dn_mk KX G ?a1 ?l1 ?c1 ?k1 (fun _ _ _ _ _ _ us hl => match us, hl with | [_, _, _], _ => rfl))
      (SK.dn_mk KX G ?a2 ?l2 ?c2 ?k2 (fun _ _ _ _ _ _ us hl => match us, hl with | [_, _], _ => rfl))
      (SK.dn_mk KX G ?a3 ?l3 ?c3 ?k3 (fun _ _ _ _ _ _ us hl => match us, hl with | [_, _], _ => rfl))
      (SK.dn_mk KX G ?a4 ?l4 ?c4 ?k4 (fun _ _ _ _ _ _ us hl => match us, hl with | [_], _ => rfl))
      (SK.dn_mk KX G ?a5 ?l5 ?c5 ?k5 (fun _ _ _ _ _ _ us hl => match us, hl with | [_, _], _ => rfl))
      (SK.dn_mk KX G ?a6 ?l6 ?c6 ?k6 (fun _ _ _ _ _ _ us hl => match us, hl with | [_, _], _ => rfl))
      (SK.dn_mk KX G ?a7 ?l7 ?c7 ?k7 (fun _ _ _ _ _ _ us hl => match us, hl with | [_, _], _ => rfl))
      (SK.dn_mk KX G ?a8 ?l8 ?c8 ?k8 (fun _ _ _ _ _ _ us hl => match us, hl with | [_, _], _ => rfl))
      (SK.dn_mk KX G ?a9 ?l9 ?c9 ?k9 (fun _ _ _ _ _ _ us hl => match us, hl with | [_, _], _ => rfl))
      (SK.dn_mk KX G ?a10 ?l10 ?c10 ?k10 (fun _ _ _ _ _ _ us hl => match us, hl with | [_, _], _ => rfl))
      (SK.dn_mk KX G ?a11 ?l11 ?c11 ?k11 (fun _ _ _ _ _ _ us hl => match us, hl with | [_, _], _ => rfl))
      (SK.dn_mk KX G ?a12 ?l12 ?c12 ?k12 (fun _ _ _ _ _ _ us hl => match us, hl with | [_, _], _ => rfl))
      (SK.dn_mk KX G ?a13 ?l13 ?c13 ?k13 (fun _ _ _ _ _ _ us hl => match us, hl with | [_, _, _], _ => rfl))
      (SK.dn_mk KX G ?a14 ?l14 ?c14 ?k14 (fun _ _ _ _ _ _ us hl => match us, hl with | [_], _ => rfl))
      (SK.dn_mk KX G ?a15 ?l15 ?c15 ?k15 (fun _ _ _ _ _ _ us hl => match us, hl with | [_, _], _ => rfl))
      (SK.dn_mk KX G ?a16 ?l16 ?c16 ?k16 (fun _ _ _ _ _ _ us hl => match us, hl with | [_, _], _ => rfl))
      (SK.dn_mk KX G ?a17 ?l17 ?c17 ?k17 (fun _ _ _ _ _ _ us hl => match us, hl with | [_, _], _ => rfl))
      (SK.dn_mk KX G ?a18 ?l18 ?c18 ?k18 (fun _ _ _ _ _ _ us hl => match us, hl with | [_, _], _ => rfl))
      (SK.dn_mk KX G ?a19 ?l19 ?c19 ?k19 (fun _ _ _ _ _ _ us hl => match us, hl with | [_, _], _ => rfl))
      (SK.dn_mk KX G ?a20 ?l20 ?c20 ?k20 (fun _ _ _ _ _ _ us hl => match us, hl with | [_, _], _ => rfl))
      (SK.dn_mk KX G ?a21 ?l21 ?c21 ?k21 (fun _ _ _ _ _ _ us hl => match us, hl with | [_], _ => rfl))
      (SK.dn_mk KX G ?a22 ?l22 ?c22 ?k22 (fun _ _ _ _ _ _ us hl => match us, hl with | [_, _, _], _ => rfl))
      (SK.dn_mk KX G ?a23 ?l23 ?c23 ?k23 (fun _ _ _ _ _ _ us hl => match us, hl with | [_, _], _ => rfl))
      (SK.dn_mk KX G ?a24 ?l24 ?c24 ?k24 (fun _ _ _ _ _ _ us hl => match us, hl with | [_, _], _ => rfl))
      (SK.dn_mk KX G ?a25 ?l25 ?c25 ?k25 (fun _ _ _ _ _ _ us hl => match us, hl with | [_, _], _ => rfl))
      (SK.dn_mk KX G ?a26 ?l26 ?c26 ?k26 (fun _ _ _ _ _ _ us hl => match us, hl with | [_, _], _ => rfl))
      (SK.dn_mk KX G ?a27 ?l27 ?c27 ?k27 (fun _ _ _ _ _ _ us hl => match us, hl with | [_, _], _ => rfl))
      (SK.dn_mk KX G ?a28 ?l28 ?c28 ?k28 (fun _ _ _ _ _ _ us hl => match us, hl with | [_, _], _ => rfl))
      (SK.dn_mk KX G ?a29 ?l29 ?c29 ?k29 (fun _ _ _ _ _ _ us hl => match us, hl with | [_, _], _ => rfl))
      (SK.dm_mk ?a30 ?i30 ?l30 ?c30 ?k30 (fun _ _ _ _ _ _ us hl => match us, hl with | [_, _, _], _ => rfl))
      (SK.dm_mk ?a31 ?i31 ?l31 ?c31 ?k31 (fun _ _ _ _ _ _ us hl => match us, hl with | [_, _], _ => rfl))
      (SK.dm_mk ?a32 ?i32 ?l32 ?c32 ?k32 (fun _ _ _ _ _ _ us hl => match us, hl with | [_, _], _ => rfl))
      (SK.dm_mk ?a33 ?i33 ?l33 ?c33 ?k33 (fun _ _ _ _ _ _ us hl => match us, hl with | [_, _], _ => rfl))
      (SK.dm_mk ?a34 ?i34 ?l34 ?c34 ?k34 (fun _ _ _ _ _ _ us hl => match us, hl with | [_], _ => rfl))
      (SK.dm_mk ?a35 ?i35 ?l35 ?c35 ?k35 (fun _ _ _ _ _ _ us hl => match us, hl with | [_], _ => rfl))
      (SK.dm_mk ?a36 ?i36 ?l36 ?c36 ?k36 (fun _ _ _ _ _ _ us hl => match us, hl with | [_], _ => rfl))
      (SK.dm_mk ?a37 ?i37 ?l37 ?c37 ?k37 (fun _ _ _ _ _ _ us hl => match us, hl with | [_], _ => rfl))
      (SK.dm_mk ?a38 ?i38 ?l38 ?c38 ?k38 (fun _ _ _ _ _ _ us hl => match us, hl with | [_], _ => rfl))
      (SK.dm_mk ?a39 ?i39 ?l39 ?c39 ?k39 (fun _ _ _ _ _ _ us hl => match us, hl with | [_], _ => rfl))
      (SK.di_mk KX G ?aC ?mkC ?kC ?a40 ?i40 ?l40 ?c40 ?k40 (fun _ _ _ _ _ _ us hl => match us, hl with | [_, _, _], _ => rfl))
      (SK.dn_mk KX G ?a41 ?l41 ?c41 ?k41 (fun _ _ _ _ _ _ us hl => match us, hl with | [_, _, _], _ => rfl))
      (SK.dn_mk KX G ?a42 ?l42 ?c42 ?k42 (fun _ _ _ _ _ _ us hl => match us, hl with | [_, _, _], _ => rfl))
      (SK.dn_mk KX G ?a43 ?l43 ?c43 ?k43 (fun _ _ _ _ _ _ us hl => match us, hl with | [_, _], _ => rfl))
      (SK.dn_mk KX G ?a44 ?l44 ?c44 ?k44 (fun _ _ _ _ _ _ us hl => match us, hl with | [_, _], _ => rfl))
      (SK.dn_mk KX G ?a45 ?l45 ?c45 ?k45 (fun _ _ _ _ _ _ us hl => match us, hl with | [_, _, _, _], _ => rfl))
      (SK.dn_mk KX G ?a46 ?l46 ?c46 ?k46 (fun _ _ _ _ _ _ us hl => match us, hl with | [_, _, _], _ => rfl))
      (SK.dn_mk KX G ?a47 ?l47 ?c47 ?k47 (fun _ _ _ _ _ _ us hl => match us, hl with | [_], _ => rfl))
      (SK.dn_mk KX G ?a48 ?l48 ?c48 ?k48 (fun _ _ _ _ _ _ us hl => match us, hl with | [_], _ => rfl))
      (SK.dn_mk KX G ?a49 ?l49 ?c49 ?k49 (fun _ _ _ _ _ _ us hl => match us, hl with | [_, _], _ => rfl))
      (SK.dn_mk KX G ?a50 ?l50 ?c50 ?k50 (fun _ _ _ _ _ _ us hl => match us, hl with | [_, _, _], _ => rfl))
      (SK.dn_mk KX G ?a51 ?l51 ?c51 ?k51 (fun _ _ _ _ _ _ us hl => match us, hl with | [_, _], _ => rfl))
      (SK.dn_mk KX G ?a52 ?l52 ?c52 ?k52 (fun _ _ _ _ _ _ us hl => match us, hl with | [_, _], _ => rfl))
      (SK.dnL_mk KX G ?a53 ?l53 ?c53 ?k53 (fun _ _ _ _ _ _ us hl => match us, hl with | [_, _], _ => rfl))
      (SK.dn_mk KX G ?a54 ?l54 ?c54 ?k54 (fun _ _ _ _ _ _ us hl => match us, hl with | [_, _], _ => rfl))
      (SK.dn_mk KX G ?a55 ?l55 ?c55 ?k55 (fun _ _ _ _ _ _ us hl => match us, hl with | [_, _], _ => rfl))
      (SK.dn_mk KX G ?a56 ?l56 ?c56 ?k56 (fun _ _ _ _ _ _ us hl => match us, hl with | [_, _], _ => rfl))
      (SK.dn_mk KX G ?a57 ?l57 ?c57 ?k57 (fun _ _ _ _ _ _ us hl => match us, hl with | [_, _], _ => rfl))
      (SK.dn_mk KX G ?a58 ?l58 ?c58 ?k58 (fun _ _ _ _ _ _ us hl => match us, hl with | [_], _ => rfl))
      (SK.dn_mk KX G ?a59 ?l59 ?c59 ?k59 (fun _ _ _ _ _ _ us hl => match us, hl with | [_], _ => rfl))
      (SK.dn_mk KX G ?a60 ?l60 ?c60 ?k60 (fun _ _ _ _ _ _ us hl => match us, hl with | [_, _], _ => rfl))
      (SK.dn_mk KX G ?a61 ?l61 ?c61 ?k61 (fun _ _ _ _ _ _ us hl => match us, hl with | [_], _ => rfl))
      (SK.dn_mk KX G ?a62 ?l62 ?c62 ?k62 (fun _ _ _ _ _ _ us hl => match us, hl with | [_, _, _], _ => rfl))
      (SK.dn_mk KX G ?a63 ?l63 ?c63 ?k63 (fun _ _ _ _ _ _ us hl => match us, hl with | [_], _ => rfl))
      (SK.dn_mk KX G ?a64 ?l64 ?c64 ?k64 (fun _ _ _ _ _ _ us hl => match us, hl with | [_], _ => rfl))
     (case aL => k_is); (case lL => k_is); (case cL => k_is); (case kL => k_is)
     (case aC => k_is); (case mkC => k_is); (case kC => k_is)
     (case pg => k_is); (case hd => k_is); (case po => k_is); (case sa => k_is); (case n_plan => k_is); (case n_stack => k_is); (case n_spent => k_is); (case n_triple => k_is); (case n_past => k_is)
     (case v0 => k_is); (case r0 => exact ⟨_, rfl⟩)
     (case v1 => k_is); (case r1 => exact ⟨_, rfl⟩)
     (case v2 => k_is); (case r2 => exact ⟨_, rfl⟩)
     (case v3 => k_is); (case r3 => exact ⟨_, rfl⟩)
     (case v4 => k_is); (case r4 => exact ⟨_, rfl⟩)
     (case v5 => k_is); (case r5 => exact ⟨_, rfl⟩)
     (case v6 => k_is); (case r6 => exact ⟨_, rfl⟩)
     (case z0 => k_is)
     (case z1 => k_is)
     (case z2 => k_is)
     (case z3 => k_is)
     (case z4 => k_is)
     (case z5 => k_is)
     (case z6 => k_is)
     (case z7 => k_is)
     (case z8 => k_is)
     (case z9 => k_is)
     (case z10 => k_is)
     (case z11 => k_is)
     (case z12 => k_is)
     (case z13 => k_is)
     (case a0 => k_is); (case l0 => k_is); (case c0 => k_is); (case k0 => k_is)
     (case a1 => k_is); (case l1 => k_is); (case c1 => k_is); (case k1 => k_is)
     (case a2 => k_is); (case l2 => k_is); (case c2 => k_is); (case k2 => k_is)
     (case a3 => k_is); (case l3 => k_is); (case c3 => k_is); (case k3 => k_is)
     (case a4 => k_is); (case l4 => k_is); (case c4 => k_is); (case k4 => k_is)
     (case a5 => k_is); (case l5 => k_is); (case c5 => k_is); (case k5 => k_is)
     (case a6 => k_is); (case l6 => k_is); (case c6 => k_is); (case k6 => k_is)
     (case a7 => k_is); (case l7 => k_is); (case c7 => k_is); (case k7 => k_is)
     (case a8 => k_is); (case l8 => k_is); (case c8 => k_is); (case k8 => k_is)
     (case a9 => k_is); (case l9 => k_is); (case c9 => k_is); (case k9 => k_is)
     (case a10 => k_is); (case l10 => k_is); (case c10 => k_is); (case k10 => k_is)
     (case a11 => k_is); (case l11 => k_is); (case c11 => k_is); (case k11 => k_is)
     (case a12 => k_is); (case l12 => k_is); (case c12 => k_is); (case k12 => k_is)
     (case a13 => k_is); (case l13 => k_is); (case c13 => k_is); (case k13 => k_is)
     (case a14 => k_is); (case l14 => k_is); (case c14 => k_is); (case k14 => k_is)
     (case a15 => k_is); (case l15 => k_is); (case c15 => k_is); (case k15 => k_is)
     (case a16 => k_is); (case l16 => k_is); (case c16 => k_is); (case k16 => k_is)
     (case a17 => k_is); (case l17 => k_is); (case c17 => k_is); (case k17 => k_is)
     (case a18 => k_is); (case l18 => k_is); (case c18 => k_is); (case k18 => k_is)
     (case a19 => k_is); (case l19 => k_is); (case c19 => k_is); (case k19 => k_is)
     (case a20 => k_is); (case l20 => k_is); (case c20 => k_is); (case k20 => k_is)
     (case a21 => k_is); (case l21 => k_is); (case c21 => k_is); (case k21 => k_is)
     (case a22 => k_is); (case l22 => k_is); (case c22 => k_is); (case k22 => k_is)
     (case a23 => k_is); (case l23 => k_is); (case c23 => k_is); (case k23 => k_is)
     (case a24 => k_is); (case l24 => k_is); (case c24 => k_is); (case k24 => k_is)
     (case a25 => k_is); (case l25 => k_is); (case c25 => k_is); (case k25 => k_is)
     (case a26 => k_is); (case l26 => k_is); (case c26 => k_is); (case k26 => k_is)
     (case a27 => k_is); (case l27 => k_is); (case c27 => k_is); (case k27 => k_is)
     (case a28 => k_is); (case l28 => k_is); (case c28 => k_is); (case k28 => k_is)
     (case a29 => k_is); (case l29 => k_is); (case c29 => k_is); (case k29 => k_is)
     (case a30 => k_is); (case i30 => k_is); (case l30 => k_is); (case c30 => k_is); (case k30 => k_is)
     (case a31 => k_is); (case i31 => k_is); (case l31 => k_is); (case c31 => k_is); (case k31 => k_is)
     (case a32 => k_is); (case i32 => k_is); (case l32 => k_is); (case c32 => k_is); (case k32 => k_is)
     (case a33 => k_is); (case i33 => k_is); (case l33 => k_is); (case c33 => k_is); (case k33 => k_is)
     (case a34 => k_is); (case i34 => k_is); (case l34 => k_is); (case c34 => k_is); (case k34 => k_is)
     (case a35 => k_is); (case i35 => k_is); (case l35 => k_is); (case c35 => k_is); (case k35 => k_is)
     (case a36 => k_is); (case i36 => k_is); (case l36 => k_is); (case c36 => k_is); (case k36 => k_is)
     (case a37 => k_is); (case i37 => k_is); (case l37 => k_is); (case c37 => k_is); (case k37 => k_is)
     (case a38 => k_is); (case i38 => k_is); (case l38 => k_is); (case c38 => k_is); (case k38 => k_is)
     (case a39 => k_is); (case i39 => k_is); (case l39 => k_is); (case c39 => k_is); (case k39 => k_is)
     (case a40 => k_is); (case i40 => k_is); (case l40 => k_is); (case c40 => k_is); (case k40 => k_is)
     (case a41 => k_is); (case l41 => k_is); (case c41 => k_is); (case k41 => k_is)
     (case a42 => k_is); (case l42 => k_is); (case c42 => k_is); (case k42 => k_is)
     (case a43 => k_is); (case l43 => k_is); (case c43 => k_is); (case k43 => k_is)
     (case a44 => k_is); (case l44 => k_is); (case c44 => k_is); (case k44 => k_is)
     (case a45 => k_is); (case l45 => k_is); (case c45 => k_is); (case k45 => k_is)
     (case a46 => k_is); (case l46 => k_is); (case c46 => k_is); (case k46 => k_is)
     (case a47 => k_is); (case l47 => k_is); (case c47 => k_is); (case k47 => k_is)
     (case a48 => k_is); (case l48 => k_is); (case c48 => k_is); (case k48 => k_is)
     (case a49 => k_is); (case l49 => k_is); (case c49 => k_is); (case k49 => k_is)
     (case a50 => k_is); (case l50 => k_is); (case c50 => k_is); (case k50 => k_is)
     (case a51 => k_is); (case l51 => k_is); (case c51 => k_is); (case k51 => k_is)
     (case a52 => k_is); (case l52 => k_is); (case c52 => k_is); (case k52 => k_is)
     (case a53 => k_is); (case l53 => k_is); (case c53 => k_is); (case k53 => k_is)
     (case a54 => k_is); (case l54 => k_is); (case c54 => k_is); (case k54 => k_is)
     (case a55 => k_is); (case l55 => k_is); (case c55 => k_is); (case k55 => k_is)
     (case a56 => k_is); (case l56 => k_is); (case c56 => k_is); (case k56 => k_is)
     (case a57 => k_is); (case l57 => k_is); (case c57 => k_is); (case k57 => k_is)
     (case a58 => k_is); (case l58 => k_is); (case c58 => k_is); (case k58 => k_is)
     (case a59 => k_is); (case l59 => k_is); (case c59 => k_is); (case k59 => k_is)
     (case a60 => k_is); (case l60 => k_is); (case c60 => k_is); (case k60 => k_is)
     (case a61 => k_is); (case l61 => k_is); (case c61 => k_is); (case k61 => k_is)
     (case a62 => k_is); (case l62 => k_is); (case c62 => k_is); (case k62 => k_is)
     (case a63 => k_is); (case l63 => k_is); (case c63 => k_is); (case k63 => k_is)
     (case a64 => k_is); (case l64 => k_is); (case c64 => k_is); (case k64 => k_is)
    (case hN => first | k_is | kernel_rfl)
    (case hC => first | kernel_rfl | k_is)
