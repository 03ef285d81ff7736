import PyProof.Rows.All
import Wide.All
import OpenK.AllK
import Wide.FinOn
import HandS.Base
import HandS.Call
import HandS.List
import HandS.Comp
import HandS.Ends
import HandS.Iter
import HandS.Text
import HandS.Words
import HandS.WordsList
import HandS.Codes
import HandS.IsInst
import HandS.Walk
import HandS.TupAny
import HandS.Wide
import HandS.Rev
import HandS.Replace
import HandS.Style
import KE.DataMinKey
import KE.KMinKey
import HandS.Lambda
import HandS.Nested
import HandS.Strs
import HandS.TupLe
import HandS.Dict
import HandS.DictComp
import KE.KNestM
import KE.KLam
import HandS.EndTab
import PySem.Challenge.RW_sinkstack_k05_cheapest_by_all_steps
set_option Elab.async false
set_option linter.all false
set_option maxRecDepth 100000
set_option maxHeartbeats 4000000
/-! the mathematics of triples, over lists of numbers -/
namespace SK
def tp (k : Nat) (l : List Nat) : List Nat := l.drop (l.length - k)
def ct (g : Nat) (l : List Nat) : List Nat := l.take (l.length - g)
structure Tr where
  g : Nat
  k : Nat
  l : List Nat
def tby (t : Tr) (x : List Nat) : List Nat := tp t.k (ct t.g x) ++ t.l
def tidy (g k : Nat) (l : List Nat) : Tr := if k = 0 then ⟨0, 0, l⟩ else ⟨g, k, l⟩
def tjoin (t u : Tr) : Tr := tidy (t.g + (u.g - t.l.length)) (min (t.k - (u.g - t.l.length)) (u.k - (ct u.g t.l).length)) (tp u.k (ct u.g t.l) ++ u.l)
def tstep (room c : Nat) : Tr := if c = 45 then tidy 1 (room - 1) [] else ⟨0, room - 1, [c]⟩
def tunt (room : Nat) : Tr := ⟨0, room, []⟩
def ttold (room : Nat) (s : List Nat) : Tr := s.foldl (fun t c => tjoin t (tstep room c)) (tunt room)
def step (room : Nat) (x : List Nat) (c : Nat) : List Nat := if c = 45 then ct 1 x else tp room (x ++ [c])
def gone (room : Nat) (x : List Nat) (s : List Nat) : List Nat := s.foldl (step room) x
def signs (n : Nat) : List Nat := [97, 98, 99, 100].take n
structure TrOk (room many : Nat) (t : Tr) : Prop where
  gk : t.g + t.k ≤ room
  kl : t.k + t.l.length ≤ room
  z : t.k = 0 → t.g = 0
  s : ∀ c ∈ t.l, c ∈ signs many
theorem len_tp (k : Nat) (l : List Nat) : (tp k l).length = min k l.length := by
  unfold tp
  rw [List.length_drop]
  omega
theorem len_ct (g : Nat) (l : List Nat) : (ct g l).length = l.length - g := by
  unfold ct
  rw [List.length_take]
  omega
theorem tp_all {k : Nat} {l : List Nat} (h : l.length ≤ k) : tp k l = l := by
  unfold tp
  rw [Nat.sub_eq_zero_of_le h, List.drop_zero]
theorem tp_zero (l : List Nat) : tp 0 l = [] := by
  unfold tp
  rw [Nat.sub_zero, List.drop_length]
theorem ct_zero (l : List Nat) : ct 0 l = l := by
  unfold ct
  rw [Nat.sub_zero, List.take_length]
theorem ct_all {g : Nat} {l : List Nat} (h : l.length ≤ g) : ct g l = [] := by
  unfold ct
  rw [Nat.sub_eq_zero_of_le h, List.take_zero]
theorem tp_tp (a b : Nat) (l : List Nat) : tp a (tp b l) = tp (min a b) l := by
  unfold tp
  rw [List.drop_drop, List.length_drop]
  congr 1
  omega
theorem ct_ct (a b : Nat) (l : List Nat) : ct a (ct b l) = ct (b + a) l := by
  unfold ct
  rw [List.take_take, List.length_take]
  congr 1
  omega
theorem ct_tp (d k : Nat) (l : List Nat) : ct d (tp k l) = tp (k - d) (ct d l) := by
  unfold ct tp
  rw [List.length_drop, List.length_take, List.drop_take]
  by_cases h : l.length ≤ k
  · have e1 : l.length - k = 0 := by omega
    have e2 : min (l.length - d) l.length - (k - d) = 0 := by omega
    rw [e1, e2, List.drop_zero, Nat.sub_zero, Nat.sub_zero]
  · by_cases h2 : d ≤ k
    · have e2 : min (l.length - d) l.length - (k - d) = l.length - k := by omega
      rw [e2]
      congr 1
      omega
    · have e1 : l.length - (l.length - k) - d = 0 := by omega
      have e2 : l.length - d - (min (l.length - d) l.length - (k - d)) = 0 := by omega
      rw [e1, e2, List.take_zero, List.take_zero]
theorem ct_app_le {g : Nat} {a b : List Nat} (h : g ≤ b.length) : ct g (a ++ b) = a ++ ct g b := by
  unfold ct
  rw [List.length_append, List.take_append]
  have e1 : a.length + b.length - g - a.length = b.length - g := by omega
  rw [e1, List.take_of_length_le (by omega)]
theorem ct_app_ge {g : Nat} {a b : List Nat} (h : b.length ≤ g) : ct g (a ++ b) = ct (g - b.length) a := by
  unfold ct
  rw [List.length_append, List.take_append]
  have e1 : a.length + b.length - g - a.length = 0 := by omega
  rw [e1, List.take_zero, List.append_nil]
  congr 1
  omega
theorem tp_app (k : Nat) (a b : List Nat) : tp k (a ++ b) = tp (k - b.length) a ++ tp k b := by
  unfold tp
  rw [List.length_append, List.drop_append]
  have e1 : a.length + b.length - k - a.length = b.length - k := by omega
  by_cases h : b.length ≤ k
  · have e2 : a.length + b.length - k = a.length - (k - b.length) := by omega
    rw [e1, e2]
  · have e2 : a.length ≤ a.length + b.length - k := by omega
    have e3 : a.length - (k - b.length) = a.length := by omega
    rw [e1, e3, List.drop_eq_nil_of_le e2, List.drop_length]
theorem tby_tidy (g k : Nat) (l x : List Nat) : tby (tidy g k l) x = tby ⟨g, k, l⟩ x := by
  unfold tidy
  by_cases h : k = 0
  · rw [if_pos h]
    subst h
    simp only [tby, tp_zero]
  · rw [if_neg h]
theorem tby_join (t u : Tr) (x : List Nat) : tby (tjoin t u) x = tby u (tby t x) := by
  unfold tjoin
  rw [tby_tidy]
  simp only [tby]
  by_cases h : u.g ≤ t.l.length
  · have e : u.g - t.l.length = 0 := by omega
    rw [ct_app_le h, tp_app, tp_tp, e, Nat.add_zero, Nat.sub_zero, Nat.min_comm, List.append_assoc]
  · have h' : t.l.length ≤ u.g := by omega
    have e : ct u.g t.l = [] := ct_all h'
    rw [ct_app_ge h', e, ct_tp, ct_ct, tp_tp]
    simp only [List.length_nil, Nat.sub_zero]
    rw [tp_all (l := []) (by simp), List.nil_append, Nat.min_comm]
theorem tidy_ok {room many g k : Nat} {l : List Nat} (h1 : 0 < k → g + k ≤ room) (h2 : k + l.length ≤ room) (h3 : ∀ c ∈ l, c ∈ signs many) : TrOk room many (tidy g k l) := by
  unfold tidy
  by_cases h : k = 0
  · rw [if_pos h]
    exact ⟨by simp, by subst h; simpa using h2, fun _ => rfl, h3⟩
  · rw [if_neg h]
    exact ⟨h1 (by omega), h2, fun z => absurd z h, h3⟩
theorem mem_tp {k c : Nat} {l : List Nat} (h : c ∈ tp k l) : c ∈ l := List.mem_of_mem_drop h
theorem mem_ct {k c : Nat} {l : List Nat} (h : c ∈ ct k l) : c ∈ l := List.mem_of_mem_take h
theorem tjoin_ok {room many : Nat} {t u : Tr} (a : TrOk room many t) (b : TrOk room many u) : TrOk room many (tjoin t u) := by
  have := a.gk
  have := a.kl
  have := b.gk
  have := b.kl
  unfold tjoin
  refine tidy_ok (fun h => ?_) ?_ fun c hc => ?_
  · omega
  · rw [List.length_append, len_tp]
    omega
  · rcases List.mem_append.mp hc with h | h
    · exact a.s c (mem_ct (mem_tp h))
    · exact b.s c h
theorem tunt_ok {room many : Nat} : TrOk room many (tunt room) := ⟨by simp [tunt], by simp [tunt], fun _ => rfl, fun c h => by simp [tunt] at h⟩
theorem tstep_ok {room many c : Nat} (hr : 1 ≤ room) (hc : c = 45 ∨ c ∈ signs many) : TrOk room many (tstep room c) := by
  unfold tstep
  by_cases h : c = 45
  · rw [if_pos h]
    exact tidy_ok (fun _ => by omega) (by simp) fun c h => by simp at h
  · rw [if_neg h]
    refine ⟨by simp, by simp; omega, fun _ => rfl, fun d hd => ?_⟩
    have e : d = c := by simpa using hd
    subst e
    exact hc.resolve_left h
theorem ttold_ok {room many : Nat} (hr : 1 ≤ room) : ∀ (s : List Nat) (t : Tr), TrOk room many t → (∀ c ∈ s, c = 45 ∨ c ∈ signs many) → TrOk room many (s.foldl (fun t c => tjoin t (tstep room c)) t)
  | [], _, h, _ => h
  | c :: r, t, h, hs => ttold_ok hr r _ (tjoin_ok h (tstep_ok hr (hs c (List.mem_cons_self ..)))) fun d hd => hs d (List.mem_cons_of_mem _ hd)
theorem tby_step {room c : Nat} {x : List Nat} (hr : 1 ≤ room) (hx : x.length ≤ room) : tby (tstep room c) x = step room x c := by
  unfold tstep step
  by_cases h : c = 45
  · rw [if_pos h, if_pos h, tby_tidy]
    simp only [tby, List.append_nil]
    exact tp_all (by rw [len_ct]; omega)
  · rw [if_neg h, if_neg h, tp_app]
    simp only [tby, ct_zero, List.length_singleton]
    congr 1
    exact (tp_all (by simpa using hr)).symm
theorem step_len {room c : Nat} {x : List Nat} (hx : x.length ≤ room) : (step room x c).length ≤ room := by
  unfold step
  by_cases h : c = 45
  · rw [if_pos h, len_ct]
    omega
  · rw [if_neg h, len_tp]
    omega
theorem gone_len {room : Nat} : ∀ (s x : List Nat), x.length ≤ room → (gone room x s).length ≤ room
  | [], _, h => h
  | c :: r, x, h => gone_len r (step room x c) (step_len h)
theorem tby_fold {room : Nat} (hr : 1 ≤ room) : ∀ (s : List Nat) (t : Tr) (x y : List Nat), (tby t x).length ≤ room → tby (s.foldl (fun t c => tjoin t (tstep room c)) t) x = gone room (tby t x) s
  | [], _, _, _, _ => rfl
  | c :: r, t, x, y, h => by
    have e := tby_fold hr r (tjoin t (tstep room c)) x y (by rw [tby_join, tby_step hr h]; exact step_len h)
    rw [tby_join, tby_step hr h] at e
    exact e
theorem tby_unt {room : Nat} {x : List Nat} (hx : x.length ≤ room) : tby (tunt room) x = x := by
  simp only [tby, tunt, ct_zero, List.append_nil]
  exact tp_all hx
theorem tby_told {room : Nat} (hr : 1 ≤ room) (s : List Nat) {x : List Nat} (hx : x.length ≤ room) : tby (ttold room s) x = gone room x s := by
  have e := tby_fold hr s (tunt room) x [] (by rw [tby_unt hx]; exact hx)
  rw [tby_unt hx] at e
  exact e
end SK
namespace SK
open PySem PySem.Spec PyProof.Rows L2
/-! ### tuples whose object is known to have no dict -/
/-- a tuple, its object plain -/
def TupF (H : Hp) (a : Addr) (xs : List V) : Prop := ∃ ob : Obj, ob.dict = none ∧ H a = some (.frz ob (.tup xs))
theorem TupF.sq {K : PySem.W.Frag} {H : Hp} {a : Addr} {xs : List V} (h : TupF H a xs) : SqT K H a xs := by
  obtain ⟨ob, _, e⟩ := h
  exact .inl (.inr ⟨ob, e⟩)
section
variable {X : Cx} {es : List Expr} {t : TA} {pos cpos apos : Pos}
def tTupF (t : TA) : TE := fun σ H Q => t σ H fun xs H1 => xs.length ≤ sizeLine ∧ ∀ (p : Addr) (ob : Obj), ob.dict = none → H1 p = none → Q (.ref p) (upd H1 p (.frz ob (.tup xs)))
theorem tupF_ok {P : Program} {w : World} {H : Hp} {h : Heap} {us : List Value} {xs : List V} (r : Vals xs us) (z : xs.length ≤ sizeLine) : ObjOk P w H (h.push { cls := .type "tuple", data := .seq us.toArray }) h.objs.size (.frz { cls := .type "tuple", data := .seq us.toArray } (.tup xs)) :=
  ⟨Heap.get?_push_size _ rfl, z, us, r, ⟨_, Heap.get?_push_size _ rfl, rfl, _, rfl⟩⟩
theorem pe_tupF {x1} (h : PA X es t) : PE X (.Tuple es x1 pos) (tTupF t) := by
  refine ⟨fun pins s σ H Q I hq => ?_⟩
  refine wpAny_Tuple_spliced (thn (h.run pos pins s σ H _ I hq) fun us s1 ⟨xs, H1, I1, r, z, q⟩ => ⟨by rw [← r.length]; exact z, ?_⟩)
  have hf : H1 s1.heap.objs.size = none := I1.hok.fresh (Nat.le_refl _)
  exact ⟨.ref s1.heap.objs.size, upd H1 s1.heap.objs.size (.frz { cls := .type "tuple", data := .seq us.toArray } (.tup xs)), I1.laid (t' := s1.toks) (fun b u e => Heap.get?_push_of_some _ e) (Nat.le_refl _) (tupF_ok r z), rfl, q _ _ rfl hf⟩
theorem call_tupleF : CallR X (.type "tuple") (fun xs H Q => ∃ p ys, xs = [.ref p] ∧ SqL X.K H p ys ∧ ∀ (l : Addr) (ob : Obj), ob.dict = none → H l = none → Q (.ref l) (upd H l (.frz ob (.tup ys)))) := by
  intro pins s σ H xs us Q I r h
  obtain ⟨p, ys, rfl, hq, q⟩ := h
  obtain ⟨u, rfl, rx⟩ := vals1 r
  cases rx
  obtain ⟨its, r', pl, hz⟩ := I.list hq
  have hlen := r'.length
  refine call_tuple_list pl.isList (fun h' kp => ?_) (by simp only [List.size_toArray] <;> omega)
  have I1 : Inv X pins σ H { s with heap := h' } := I.kept (t' := s.toks) kp
  have I2 : Inv X pins σ (upd H h'.objs.size (.frz { cls := .type "tuple", data := .seq its.toArray } (.tup ys))) { s with heap := h'.push { cls := .type "tuple", data := .seq its.toArray } } :=
    I1.laid (t' := s.toks) (fun b o e => Heap.get?_push_of_some _ e) (Nat.le_refl _) (tupF_ok r' hz)
  exact ⟨.ref h'.objs.size, _, I2, rfl, q _ _ rfl (I1.hok.fresh (Nat.le_refl _))⟩
/-- t + u, t not empty -/
def rCatF (K : PySem.W.Frag) : R2 := fun x y H Q => ∃ a b xs ys, x = .ref a ∧ y = .ref b ∧ SqT K H a xs ∧ SqT K H b ys ∧ xs ≠ [] ∧ xs.length + ys.length ≤ sizeLine ∧
  (ys = [] → Q (.ref a) H) ∧ (ys ≠ [] → ∀ (p : Addr) (ob : Obj), ob.dict = none → H p = none → Q (.ref p) (upd H p (.frz ob (.tup (xs ++ ys)))))
theorem op_catF : OpR X (binaryOp .Add) (rCatF X.K) := by
  intro pins s σ H x y v u Q I rx ry h
  obtain ⟨a, b, xs, ys, rfl, rfl, ha, hb, hx, hz, q1, q2⟩ := h
  cases rx
  cases ry
  obtain ⟨its, r1, p1, _⟩ := I.tuple ha
  obtain ⟨its2, r2, p2, _⟩ := I.tuple hb
  refine HT.cat_tup p1 p2 (fun z => hx (r1.nil_iff.mp z)) (fun z => ⟨.ref a, H, I, rfl, q1 (r2.nil_iff.mp z)⟩) (fun z => ?_) (by rw [← r1.length, ← r2.length]; exact hz)
  exact ⟨.ref s.heap.objs.size, _, I.laid (t' := s.toks) (fun b ob q => Heap.get?_push_of_some _ q) (Nat.le_refl _) (tupF_ok (r1.append r2) (by rw [List.length_append]; exact hz)), rfl, q2 (fun w => z (r2.nil_iff.mpr w)) _ _ rfl (I.hok.fresh (Nat.le_refl _))⟩
/-- a method of such a tuple -/
def tBMT (r : V → List V → Hp → VK → Prop) (to : TE) (t : TA) : TE := fun σ H Q => to σ H fun x H1 => (∃ a xs, x = .ref a ∧ TupF H1 a xs) ∧ t σ H1 fun vs H2 => r x vs H2 Q
theorem pe_bmT {name : Str} {id : String} {o e : Expr} {to : TE} {r : V → List V → Hp → VK → Prop} (pa : PlainAttrs "tuple") (slot : Slot "tuple" name id) (hty : typeOf (.builtin id) = pure (.type "method_descriptor")) (hm : MtR X id r) (ho : PE X o to) (ha : PA X (e :: es) t)
    (hbase : attributeBase o name X.env (eval o X.env) = eval o X.env := by rfl)
    (hfew : ((backTo cpos (starEach (e :: es) X.env)).all (fun x => !x.1) && (backToKw cpos (keywordEach [] X.env)).all (fun x => x.1.isSome)
      && decide ((e :: es).length + ([] : List Keyword).length + (if ([] : List Keyword).isEmpty then 0 else 1) < 30)) = true := by rfl)
    (hline : (apos.endLine == cpos.line) = true := by rfl) (hs : starEach (e :: es) X.env = (false, eval e X.env) :: starEach es X.env := by rfl) (hplain : (backTo cpos (starEach es X.env)).any (·.1) = false := by rfl) :
    PE X (.Call (.Attribute o name apos) (e :: es) [] cpos) (tBMT r to t) := by
  refine ⟨fun pins s σ H Q I h => ?_⟩
  refine wpAny_Call_method_late hbase hfew hline rfl (thn (ho.run pins s σ H _ I h) fun v s1 ⟨x, H1, I1, r1, ty, q1⟩ => ?_)
  obtain ⟨a, xs, rfl, ob, hd, hH⟩ := ty
  cases r1
  obtain ⟨hob, hz, its, rv, hit⟩ := I1.hok a _ hH
  obtain ⟨o', ho', hc, _⟩ := hit
  rw [hob] at ho'
  cases ho'
  refine ⟨"tuple", id, pa, slot, hty, ⟨ob, hob, hc⟩, fun b e => ?_, ?_⟩
  · cases e
    exact ⟨ob, hob, hd⟩
  have hA := ha.run cpos pins s1 σ H1 _ I1 q1
  rw [hs] at hA ⊢
  refine Calls.callWith_builtin (by show (false || (backTo cpos (starEach es X.env)).any (·.1)) = false; rw [hplain] <;> rfl) (Calls.evalArgs_plain ?_)
  exact thn hA fun us s2 ⟨vs, H2, I2, r2, q2⟩ => hm pins s2 σ H2 (.ref a) vs (.ref a) us Q I2 rfl r2 q2
end
end SK
namespace SK
open PySem PySem.Spec PyProof.Rows L2
/-! ### a def of the module, by its name -/
structure Dn (K : PySem.W.Frag) (mg : Str → Option Value) (x : Str) (st : Stmt) (ps : List Str) : Prop where
  ex : ∃ (f : Addr) (fd : FuncData), L2.Fun K x x st f fd ∧ mg x = some (.ref f) ∧ Binds K fd ps []
abbrev Cal := @C8.Cal
section
variable {P : Program} {w : World} {K : PySem.W.Frag} {mg : Str → Option Value} {base : Heap}
theorem Dn.cal {x : Str} {st : Stmt} {N ps : List Str} {k : Nat} {sp : Sp} (D : Dn K mg x st ps) (S : FnScope N ps (defScope st)) (len : ∀ vs H Q E, sp vs H Q E → vs.length = ps.length)
    (hbody : ∀ (f : Addr) (cdv : Value) (A : Around) (outer : List Env) (s : Shared) (H : Hp) (vs : List V) (Q : VK) (E : XK), Room k (A.deeper (envOfC x (defScope st) s.heap.objs.size f cdv)) → sp vs H Q E →
      ∃ t, PSs (cxOf CX0 P w K mg base N x (defScope st) f cdv A outer s H E).nox (defBody st) t ∧ t { nx := fun _ H' => Q .non H', rt := Q } (start N vs) H) : C8.Cal P w K mg base (k + 1) x sp [] := by
  obtain ⟨f, fd, F, hm, b⟩ := D.ex
  exact ⟨f, fd, ps, [], F.ok S len (fun cdv A outer s H vs Q E => hbody f cdv A outer s H vs Q E), hm, F.kp, b, .nil⟩
theorem dn_mk {x : Str} {st : Stmt} {ps : List Str} {h : Heap} {f : Addr} {oc : Value} {od an : Option Addr} {osl : Array (Option Value)} {kV doc pm cd ct : Value} (X : K.In h) (G : h.Ns mainGlobals mg)
    (a : PySem.W.nsIn K mainGlobals x = some (some (.ref f))) (l : K.lookup f = some ⟨oc, od, .func (PySem.W.fnOf x x (defArgs st) (defBody st) (defScope st) .none kV doc pm an cd ct), osl⟩)
    (c : PySem.W.codeIn K cd x = true) (k : PySem.W.keepIn K (.ref f) = true)
    (hb : ∀ (kV doc pm : Value) (an : Option Addr) (cdv ct : Value) (us : List Value), us.length = ps.length → bindArgs (PySem.W.fnOf x x (defArgs st) (defBody st) (defScope st) .none kV doc pm an cdv ct) ⟨us, []⟩ = pure (ps.zip us)) : Dn K mg x st ps := by
  have F := fun_mk (st := st) l c k
  exact ⟨f, _, F, PySem.W.mg_of X G a, F.binds hb⟩
end
/-! ### heaps -/
theorem Same.new {H : Hp} {p : Addr} (h : H p = none) (o : HO) : Same H (upd H p o) := fun b u q => by rw [upd_ne (ne_of_none q h)]; exact q
theorem sz {n : Nat} (h : n ≤ 100000) : n ≤ sizeLine := Nat.le_trans h (by decide)
theorem szl {n : Nat} (h : n < 100000) : n < sizeLine := Nat.lt_of_lt_of_le h (by decide)
/-! ### texts -/
def tx (l : List Nat) : Str := ⟨l.toArray⟩
theorem tx_len (l : List Nat) : (tx l).length = l.length := by
  show l.toArray.size = _
  rw [List.size_toArray]
theorem tx_list (l : List Nat) : (tx l).cps.toList = l := rfl
theorem tx_app (a b : List Nat) : tx a ++ tx b = tx (a ++ b) := by
  show Str.append _ _ = _
  unfold Str.append tx
  simp
theorem cut_tx (l : List Nat) (lo hi : Option Int) : cutS (tx l) lo hi = tx ((l.drop (HT.sIx l.length 0 lo)).take (HT.sIx l.length l.length hi - HT.sIx l.length 0 lo)) := by
  unfold cutS
  rw [tx_len, tx_list]
  rfl
theorem cut_to {l : List Nat} {n : Nat} (h : n ≤ l.length) : cutS (tx l) none (some (n : Int)) = tx (l.take n) := by
  rw [cut_tx, HT.sIx_none, HT.sIx_nat, List.drop_zero, Nat.sub_zero, Nat.min_eq_left h]
theorem cut_from {l : List Nat} {n : Nat} (h : n ≤ l.length) : cutS (tx l) (some (n : Int)) none = tx (l.drop n) := by
  rw [cut_tx, HT.sIx_none, HT.sIx_nat, Nat.min_eq_left h, List.take_of_length_le (by rw [List.length_drop]; exact Nat.le_refl _)]
theorem cut_back {l : List Nat} {n : Nat} (h : 0 < n) : cutS (tx l) (some (-(n : Int))) none = tx (l.drop (l.length - n)) := by
  have e : HT.sIx l.length 0 (some (-(n : Int))) = l.length - n := by
    show (if (-(n : Int)) < 0 then (-(n : Int) + (l.length : Int)).toNat else _) = _
    rw [if_pos (by omega)]
    omega
  rw [cut_tx, HT.sIx_none, e, List.take_of_length_le (by rw [List.length_drop]; exact Nat.le_refl _)]
theorem cut_but {l : List Nat} {n : Nat} (h : 0 < n) : cutS (tx l) none (some (-(n : Int))) = tx (l.take (l.length - n)) := by
  have e : HT.sIx l.length l.length (some (-(n : Int))) = l.length - n := by
    show (if (-(n : Int)) < 0 then (-(n : Int) + (l.length : Int)).toNat else _) = _
    rw [if_pos (by omega)]
    omega
  rw [cut_tx, HT.sIx_none, e, List.drop_zero, Nat.sub_zero]
theorem str_inj {a b : List Nat} : tx a = tx b ↔ a = b := by
  constructor
  · intro h
    have := congrArg (fun z : Str => z.cps.toList) h
    simpa [tx] using this
  · intro h
    rw [h]
/-! ### plans and triples as they stand in the heap -/
structure Pl where
  room : Nat
  many : Nat
  pr : List Int
  pop : Int
structure Pl.Ok (p : Pl) : Prop where
  r1 : 1 ≤ p.room
  r9 : p.room ≤ 9
  m1 : 1 ≤ p.many
  m4 : p.many ≤ 4
  pl : p.pr.length = p.many
  pr : ∀ x ∈ p.pr, 1 ≤ x ∧ x ≤ 99
  q1 : 1 ≤ p.pop
  q9 : p.pop ≤ 99
/-- the prices as they stand -/
def PrAt (H : Hp) (b : Addr) (p : Pl) : Prop := TupF H b (p.pr.map V.int)
theorem PrAt.mono {H H' : Hp} {b : Addr} {p : Pl} (h : PrAt H b p) (s : Same H H') : PrAt H' b p := by
  obtain ⟨ob, h1, h2⟩ := h
  exact ⟨ob, h1, s _ _ h2⟩
theorem PrAt.ty {K : PySem.W.Frag} {H : Hp} {b : Addr} {p : Pl} (h : PrAt H b p) : TyX K H (.ref b) (.type "tuple") := by
  obtain ⟨ob, h1, h2⟩ := h
  exact .fTuple h2
def PlanAt (H : Hp) (v : V) (p : Pl) : Prop := ∃ a b, v = .ref a ∧ H a = some (.tup [.int p.room, .int p.many, .ref b, .int p.pop]) ∧ PrAt H b p
def TripAt (H : Hp) (v : V) (t : Tr) : Prop := ∃ a, v = .ref a ∧ H a = some (.tup [.int t.g, .int t.k, .str (tx t.l)])
theorem PlanAt.mono {H H' : Hp} {v : V} {p : Pl} (h : PlanAt H v p) (e : Same H H') : PlanAt H' v p := by
  obtain ⟨a, b, h1, h2, h3⟩ := h
  exact ⟨a, b, h1, e _ _ h2, h3.mono e⟩
theorem TripAt.mono {H H' : Hp} {v : V} {t : Tr} (h : TripAt H v t) (e : Same H H') : TripAt H' v t := by
  obtain ⟨a, h1, h2⟩ := h
  exact ⟨a, h1, e _ _ h2⟩
theorem signs_len (n : Nat) : (signs n).length ≤ 4 := by
  unfold signs
  rw [List.length_take]
  exact Nat.min_le_right ..
/-! ### kinds of values -/
theorem ty_int {K : PySem.W.Frag} {H : Hp} {i : Int} : TyX K H (.int i) (.type "int") := .base (.int i)
theorem ty_str {K : PySem.W.Frag} {H : Hp} {i : Str} : TyX K H (.str i) (.type "str") := .base (.str i)
theorem ty_tup {K : PySem.W.Frag} {H : Hp} {a : Addr} {xs : List V} (h : H a = some (.tup xs)) : TyX K H (.ref a) (.type "tuple") := .base (.tup h)
theorem ty_lst {K : PySem.W.Frag} {H : Hp} {a : Addr} {xs : List V} (h : H a = some (.lst xs)) : TyX K H (.ref a) (.type "list") := .base (.lst h)
theorem ty_non {K : PySem.W.Frag} {H : Hp} : TyX K H .non (.type "NoneType") := .base .non
theorem ty_bl {K : PySem.W.Frag} {H : Hp} {b : Bool} : TyX K H (.bl b) (.type "bool") := .base (.bl b)
theorem k_int_int : kitB "int" "int" = some true := by decide +kernel
theorem k_int_bool : kitB "int" "bool" = some false := by decide +kernel
theorem k_int_tup : kitB "int" "tuple" = some false := by decide +kernel
theorem k_int_lst : kitB "int" "list" = some false := by decide +kernel
theorem k_str_str : kitB "str" "str" = some true := by decide +kernel
theorem k_str_bool : kitB "str" "bool" = some false := by decide +kernel
theorem k_str_int : kitB "str" "int" = some false := by decide +kernel
theorem k_tup_tup : kitB "tuple" "tuple" = some true := by decide +kernel
theorem k_tup_int : kitB "tuple" "int" = some false := by decide +kernel
theorem k_tup_bool : kitB "tuple" "bool" = some false := by decide +kernel
theorem k_tup_str : kitB "tuple" "str" = some false := by decide +kernel
theorem k_tup_lst : kitB "tuple" "list" = some false := by decide +kernel
theorem k_lst_lst : kitB "list" "list" = some true := by decide +kernel
theorem k_lst_tup : kitB "list" "tuple" = some false := by decide +kernel
theorem k_lst_int : kitB "list" "int" = some false := by decide +kernel
theorem k_lst_bool : kitB "list" "bool" = some false := by decide +kernel
theorem k_lst_str : kitB "list" "str" = some false := by decide +kernel
theorem k_bool_bool : kitB "bool" "bool" = some true := by decide +kernel
theorem k_bool_int : kitB "bool" "int" = some true := by decide +kernel
theorem b_isi : bootBuiltins "isinstance" = some (.builtin "isinstance") := by decide +kernel
theorem b_all : bootBuiltins "all" = some (.builtin "all") := by decide +kernel
theorem b_max : bootBuiltins "max" = some (.builtin "max") := by decide +kernel
theorem b_min : bootBuiltins "min" = some (.builtin "min") := by decide +kernel
theorem b_bool : bootBuiltins "bool" = some (.type "bool") := by decide +kernel
theorem b_int : bootBuiltins "int" = some (.type "int") := by decide +kernel
theorem b_str : bootBuiltins "str" = some (.type "str") := by decide +kernel
theorem b_tuple : bootBuiltins "tuple" = some (.type "tuple") := by decide +kernel
theorem b_list : bootBuiltins "list" = some (.type "list") := by decide +kernel
theorem s_empty : ("" : Str) = tx [] := by decide +kernel
theorem s_minus : ("-" : Str) = tx [45] := by decide +kernel
theorem s_abcd : ("abcd" : Str) = tx [97, 98, 99, 100] := by decide +kernel
/-! ### promises of the program's defs -/
/-- hands back this value, all that stood stands -/
def giv (v : V) (H : Hp) (Q : VK) : Prop := ∀ H', Same H H' → Q v H'
def spSigns : Sp := fun vs H Q _ => ∃ v p, vs = [v] ∧ PlanAt H v p ∧ p.Ok ∧ giv (.str (tx (signs p.many))) H Q
def spNum : Sp := fun vs H Q _ => ∃ i lo hi : Int, vs = [.int i, .int lo, .int hi] ∧ giv (.bl (decide (lo ≤ i ∧ i ≤ hi))) H Q
def spTextOf : Sp := fun vs H Q _ => ∃ l sg : List Nat, vs = [.str (tx l), .str (tx sg)] ∧ l.length ≤ 10000 ∧ giv (.bl (decide (∀ c ∈ l, c ∈ sg))) H Q
def spChPlan : Sp := fun vs H Q _ => ∃ v p, vs = [v] ∧ PlanAt H v p ∧ p.Ok ∧ giv .non H Q
def spPrices : Sp := fun vs H Q _ => ∃ b p, vs = [.ref b, .int (p : Pl).many] ∧ PrAt H b p ∧ p.Ok ∧ giv (.bl true) H Q
def spChStack : Sp := fun vs H Q _ => ∃ v p l, vs = [v, .str (tx l)] ∧ PlanAt H v p ∧ p.Ok ∧ l.length ≤ p.room ∧ (∀ c ∈ l, c ∈ signs p.many) ∧ giv .non H Q
def spIsStack : Sp := fun vs H Q _ => ∃ v p l, vs = [v, .str (tx l)] ∧ PlanAt H v p ∧ p.Ok ∧ l.length ≤ p.room ∧ (∀ c ∈ l, c ∈ signs p.many) ∧ giv (.bl true) H Q
def spChSteps : Sp := fun vs H Q _ => ∃ v p l, vs = [v, .str (tx l)] ∧ PlanAt H v p ∧ p.Ok ∧ l.length ≤ 10000 ∧ (∀ c ∈ l, c = 45 ∨ c ∈ signs p.many) ∧ giv .non H Q
def spChTriple : Sp := fun vs H Q _ => ∃ v p u t, vs = [v, u] ∧ PlanAt H v p ∧ p.Ok ∧ TripAt H u t ∧ TrOk p.room p.many t ∧ giv .non H Q
def spIsTriple : Sp := fun vs H Q _ => ∃ v p u t, vs = [v, u] ∧ PlanAt H v p ∧ p.Ok ∧ TripAt H u t ∧ TrOk p.room p.many t ∧ giv (.bl true) H Q
/-- a new triple -/
def givT (t : Tr) (H : Hp) (Q : VK) : Prop := ∀ H' v, Same H H' → TripAt H' v t → Q v H'
def spWithout : Sp := fun vs H Q _ => ∃ (l : List Nat) (n : Nat), vs = [.str (tx l), .int n] ∧ l.length ≤ 10000 ∧ giv (.str (tx (ct n l))) H Q
def spTop : Sp := fun vs H Q _ => ∃ (l : List Nat) (n : Nat), vs = [.str (tx l), .int n] ∧ l.length ≤ 10000 ∧ giv (.str (tx (tp n l))) H Q
def spBehind : Sp := fun vs H Q _ => ∃ u t l, vs = [u, .str (tx l)] ∧ TripAt H u t ∧ l.length ≤ 1000 ∧ (t : Tr).l.length ≤ 1000 ∧ giv (.str (tx (tby t l))) H Q
def spTidied : Sp := fun vs H Q _ => ∃ (g k : Nat) (l : List Nat), vs = [.int g, .int k, .str (tx l)] ∧ givT (tidy g k l) H Q
def spJoin : Sp := fun vs H Q _ => ∃ a b t u, vs = [a, b] ∧ TripAt H a t ∧ TripAt H b u ∧ (t : Tr).l.length ≤ 1000 ∧ (u : Tr).l.length ≤ 1000 ∧ givT (tjoin t u) H Q
def spUnt : Sp := fun vs H Q _ => ∃ v p, vs = [v] ∧ PlanAt H v p ∧ givT (tunt p.room) H Q
def spTStep : Sp := fun vs H Q _ => ∃ v p c, vs = [v, .str (tx [c])] ∧ PlanAt H v p ∧ p.Ok ∧ givT (tstep p.room c) H Q
def spTSteps : Sp := fun vs H Q _ => ∃ v p l, vs = [v, .str (tx l)] ∧ PlanAt H v p ∧ p.Ok ∧ (∀ c ∈ l, c = 45 ∨ c ∈ signs p.many) ∧ givT (ttold p.room l) H Q
def spToldSteps : Sp := fun vs H Q _ => ∃ v p l, vs = [v, .str (tx l)] ∧ PlanAt H v p ∧ p.Ok ∧ l.length ≤ 10000 ∧ (∀ c ∈ l, c = 45 ∨ c ∈ signs p.many) ∧ givT (ttold p.room l) H Q
def spDone : Sp := fun vs H Q _ => ∃ v p u t l, vs = [v, u, .str (tx l)] ∧ PlanAt H v p ∧ p.Ok ∧ TripAt H u t ∧ TrOk p.room p.many t ∧ l.length ≤ p.room ∧ (∀ c ∈ l, c ∈ signs p.many) ∧ giv (.str (tx (tby t l))) H Q
end SK
namespace SK
open PySem PySem.Spec PyProof.Rows L2
/-! ### the box of draws -/
structure BoxAt (H : Hp) (p q : Addr) (ns : List Int) (z : Int) : Prop where
  b : H p = some (.lst [.ref q, .int z])
  l : H q = some (.lst (ns.map V.int))
  ne : p ≠ q
/-- all but the box stands -/
def Keep (p q : Addr) (H H' : Hp) : Prop := ∀ b o, H b = some o → b ≠ p → b ≠ q → H' b = some o
theorem Keep.refl (p q : Addr) (H : Hp) : Keep p q H H := fun _ _ h _ _ => h
theorem Keep.trans {p q : Addr} {H H1 H2 : Hp} (a : Keep p q H H1) (b : Keep p q H1 H2) : Keep p q H H2 := fun c o h h1 h2 => b c o (a c o h h1 h2) h1 h2
theorem Keep.of {p q : Addr} {H H' : Hp} (s : Same H H') : Keep p q H H' := fun b o h _ _ => s b o h
theorem BoxAt.mono {H H' : Hp} {p q : Addr} {ns : List Int} {z : Int} (h : BoxAt H p q ns z) (s : Same H H') : BoxAt H' p q ns z := ⟨s _ _ h.b, s _ _ h.l, h.ne⟩
theorem BoxAt.no {H : Hp} {p q : Addr} {ns : List Int} {z : Int} (h : BoxAt H p q ns z) {b : Addr} {o : HO} (e : H b = some o) (ho : ∀ xs, o ≠ .lst xs) : b ≠ p ∧ b ≠ q :=
  ⟨ne_of e h.b (ho _), ne_of e h.l (ho _)⟩
theorem Keep.tup {p q : Addr} {H H' : Hp} {ns : List Int} {z : Int} (k : Keep p q H H') (h : BoxAt H p q ns z) {a : Addr} {xs : List V} (e : H a = some (.tup xs)) : H' a = some (.tup xs) :=
  k a _ e (h.no e fun _ => by intro z; cases z).1 (h.no e fun _ => by intro z; cases z).2
theorem PlanAt.keep {p q : Addr} {H H' : Hp} {ns : List Int} {z : Int} {v : V} {pl : Pl} (h : PlanAt H v pl) (b : BoxAt H p q ns z) (k : Keep p q H H') : PlanAt H' v pl := by
  obtain ⟨a, c, e, h1, h2⟩ := h
  obtain ⟨ob, h3, h4⟩ := h2
  exact ⟨a, c, e, k.tup b h1, ob, h3, k _ _ h4 (b.no h4 fun _ => by intro z; cases z).1 (b.no h4 fun _ => by intro z; cases z).2⟩
theorem TripAt.keep {p q : Addr} {H H' : Hp} {ns : List Int} {z : Int} {v : V} {t : Tr} (h : TripAt H v t) (b : BoxAt H p q ns z) (k : Keep p q H H') : TripAt H' v t := by
  obtain ⟨a, e, h1⟩ := h
  exact ⟨a, e, k.tup b h1⟩
/-- a list made later than the box -/
theorem BoxAt.fresh {H : Hp} {p q D : Addr} {ns : List Int} {z : Int} (h : BoxAt H p q ns z) (e : H D = none) : D ≠ p ∧ D ≠ q := by
  constructor
  · intro x
    subst x
    rw [h.b] at e
    cases e
  · intro x
    subst x
    rw [h.l] at e
    cases e
/-- a draw -/
def spTake : Sp := fun vs H Q _ => ∃ (p q : Addr) (ns : List Int) (z n : Int), vs = [.ref p, .int n] ∧ BoxAt H p q ns z ∧ 0 < n ∧ n < 2 ^ 9000 ∧
  ∀ (r : Int) (ns' : List Int) (z' : Int) (H' : Hp), 0 ≤ r → r < n → BoxAt H' p q ns' z' → Keep p q H H' → Q (.int r) H'
theorem shp : ∀ ns : List Int, SeqAt.shaped (.list (ns.map PyData.int)) = true := by
  have h1 : ∀ ns : List Int, PyData.canLayAll0 (ns.map PyData.int) = true := fun ns => by
    induction ns with
    | nil => rfl
    | cons n r ih =>
      show (PyData.canLay0 (.int n) && PyData.canLayAll0 (r.map PyData.int)) = true
      rw [ih]
      rfl
  have h2 : ∀ ns : List Int, PyData.depthAll (ns.map PyData.int) = 0 := fun ns => by
    induction ns with
    | nil => rfl
    | cons n r ih =>
      show max (PyData.depth (.int n)) (PyData.depthAll (r.map PyData.int)) = 0
      rw [ih]
      rfl
  intro ns
  show (PyData.canLayAll0 (ns.map PyData.int) && decide (PyData.depthAll (ns.map PyData.int) + 1 ≤ 64)) = true
  rw [h1, h2]
  rfl
theorem dpAll {K : PySem.W.Frag} {H : Hp} : ∀ ns : List Int, DpAll K H (ns.map V.int) (ns.map PyData.int)
  | [] => .nil
  | n :: r => .cons (.int n) (dpAll r)
theorem fmod_in {x n : Int} (h : 0 < n) : 0 ≤ x.fmod n ∧ x.fmod n < n := by
  rw [Int.fmod_eq_emod_of_nonneg _ (by omega)]
  exact ⟨Int.emod_nonneg _ (by omega), Int.emod_lt_of_pos _ h⟩
theorem divW {i j : Int} (h : 0 < j) (h2 : j < 2 ^ 9000) : CDivW i j := wide_div (b := 9000) h (by
  have e : ((j.natAbs : Nat) : Int) = j := Int.natAbs_of_nonneg (by omega)
  have e2 : ((j.natAbs : Nat) : Int) < ((2 ^ 9000 : Nat) : Int) := by
    rw [e]
    exact_mod_cast h2
  exact Int.ofNat_lt.mp e2) (by decide) (by decide)
theorem p9 {n : Int} (h : n ≤ 2000000000000000000) : n < 2 ^ 9000 := Int.lt_of_le_of_lt h (by decide +kernel)
theorem at0 {x : V} {r : List V} : atI (x :: r) 0 = some x := atI_nat (j := 0) rfl
theorem ix0 {x : V} {r : List V} : ixN (x :: r).length 0 = some 0 := by
  unfold ixN
  simp
theorem sq0 {x : V} {r : List V} : seqIndex? 0 (x :: r).length = some 0 := by
  unfold seqIndex?
  simp
/-! ### what is alike -/
def Sc : V → Prop
  | .non => True
  | .bl _ => True
  | .int _ => True
  | .str _ => True
  | _ => False
def Alk (H : Hp) : Nat → V → V → Prop
  | 0, _, _ => False
  | n + 1, v, w => (v = w ∧ Sc v) ∨ ∃ (a b : Addr) (xs ys : List V), v = .ref a ∧ w = .ref b ∧ ((H a = some (.tup xs) ∧ H b = some (.tup ys)) ∨ (H a = some (.lst xs) ∧ H b = some (.lst ys))) ∧ xs.length = ys.length ∧ ys.length ≤ 10000 ∧
      ∀ (i : Nat) (x y : V), xs[i]? = some x → ys[i]? = some y → Alk H n x y
theorem Alk.mono {H H' : Hp} (s : Same H H') : ∀ {n : Nat} {v w : V}, Alk H n v w → Alk H' n v w
  | 0, _, _, h => h
  | n + 1, v, w, h => by
    rcases h with h | ⟨a, b, xs, ys, h1, h2, h3, h4, h5, h6⟩
    · exact .inl h
    · refine .inr ⟨a, b, xs, ys, h1, h2, ?_, h4, h5, fun i x y e1 e2 => Alk.mono s (h6 i x y e1 e2)⟩
      rcases h3 with ⟨u1, u2⟩ | ⟨u1, u2⟩
      · exact .inl ⟨s _ _ u1, s _ _ u2⟩
      · exact .inr ⟨s _ _ u1, s _ _ u2⟩
def spAlike (n : Nat) : Sp := fun vs H Q _ => ∃ v w, vs = [v, w] ∧ Alk H n v w ∧ giv (.bl true) H Q
theorem alk_trip {H : Hp} {n : Nat} {v w : V} {t : Tr} (hv : TripAt H v t) (hw : TripAt H w t) : Alk H (n + 2) v w := by
  obtain ⟨a, rfl, ha⟩ := hv
  obtain ⟨b, rfl, hb⟩ := hw
  refine .inr ⟨a, b, _, _, rfl, rfl, .inl ⟨ha, hb⟩, rfl, by show 3 ≤ 10000; decide, fun i x y e1 e2 => ?_⟩
  have e : x = y := Option.some.inj (e1.symm.trans e2)
  subst e
  refine .inl ⟨rfl, ?_⟩
  match i, e1 with
  | 0, e1 => cases e1; trivial
  | 1, e1 => cases e1; trivial
  | 2, e1 => cases e1; trivial
/-! ### the law's own promises -/
def spLStep : Sp := fun vs H Q _ => ∃ v p l c, vs = [v, .str (tx l), .str (tx [c])] ∧ PlanAt H v p ∧ p.Ok ∧ l.length ≤ 1000 ∧ giv (.str (tx (step p.room l c))) H Q
def spLGone : Sp := fun vs H Q _ => ∃ v p l s, vs = [v, .str (tx l), .str (tx s)] ∧ PlanAt H v p ∧ p.Ok ∧ l.length ≤ p.room ∧ giv (.str (tx (gone p.room l s))) H Q
def spLPlan : Sp := fun vs H Q _ => ∃ (p q : Addr) (ns : List Int) (z : Int) (r s : Nat), vs = [.ref p, .int r, .int s] ∧ BoxAt H p q ns z ∧ 1 ≤ r ∧ r ≤ 9 ∧ 1 ≤ s ∧ s ≤ 4 ∧
  ∀ (pl : Pl) (v : V) (ns' : List Int) (z' : Int) (H' : Hp), pl.Ok → pl.room ≤ r → pl.many ≤ s → PlanAt H' v pl → BoxAt H' p q ns' z' → Keep p q H H' → Q v H'
def spLSteps : Sp := fun vs H Q _ => ∃ (p q : Addr) (ns : List Int) (z : Int) (v : V) (pl : Pl) (n : Nat), vs = [.ref p, v, .int n] ∧ BoxAt H p q ns z ∧ PlanAt H v pl ∧ pl.Ok ∧ n ≤ 1000 ∧
  ∀ (l : List Nat) (ns' : List Int) (z' : Int) (H' : Hp), l.length ≤ n → (∀ c ∈ l, c = 45 ∨ c ∈ signs pl.many) → BoxAt H' p q ns' z' → Keep p q H H' → Q (.str (tx l)) H'
def spLSigns : Sp := fun vs H Q _ => ∃ (p q : Addr) (ns : List Int) (z : Int) (v : V) (pl : Pl) (n : Nat), vs = [.ref p, v, .int n] ∧ BoxAt H p q ns z ∧ PlanAt H v pl ∧ pl.Ok ∧ n ≤ 1000 ∧
  ∀ (l : List Nat) (ns' : List Int) (z' : Int) (H' : Hp), l.length ≤ n → (∀ c ∈ l, c ∈ signs pl.many) → BoxAt H' p q ns' z' → Keep p q H H' → Q (.str (tx l)) H'
def spLTriple : Sp := fun vs H Q _ => ∃ (p q : Addr) (ns : List Int) (z : Int) (v : V) (pl : Pl), vs = [.ref p, v] ∧ BoxAt H p q ns z ∧ PlanAt H v pl ∧ pl.Ok ∧
  ∀ (t : Tr) (u : V) (ns' : List Int) (z' : Int) (H' : Hp), TrOk pl.room pl.many t → TripAt H' u t → BoxAt H' p q ns' z' → Keep p q H H' → Q u H'
def spLBy : Sp := fun vs H Q _ => ∃ u t l, vs = [u, .str (tx l)] ∧ TripAt H u t ∧ l.length ≤ 1000 ∧ (t : Tr).l.length ≤ 1000 ∧ giv (.str (tx (tby t l))) H Q
def spLBegun (K : PySem.W.Frag) : Sp := fun vs H Q _ => ∃ (a : Addr) (ns : List Int), vs = [.ref a] ∧ SqL K H a (ns.map V.int) ∧ ns.length ≤ 63 ∧
  ∀ (p q : Addr) (z : Int) (H' : Hp), Same H H' → BoxAt H' p q ns z → H p = none → H q = none → Q (.ref p) H'
/-- all texts of so many signs, in turn; all stacks -/
def lay (many : Nat) : Nat → List (List Nat)
  | 0 => [[]]
  | n + 1 => (lay many n).flatMap fun l => (signs many).map fun c => l ++ [c]
def stk (many : Nat) : Nat → List (List Nat)
  | 0 => [[]]
  | n + 1 => stk many n ++ lay many (n + 1)
def spLStacks : Sp := fun vs H Q _ => ∃ v p, vs = [v] ∧ PlanAt H v p ∧ p.Ok ∧ ∀ (D : Addr) (H' : Hp), Same H H' → H D = none → H' D = some (.lst ((stk p.many p.room).map fun l => V.str (tx l))) → Q (.ref D) H'
def spLaw (K : PySem.W.Frag) : Sp := fun vs H Q _ => ∃ (a : Addr) (ns : List Int), vs = [.ref a] ∧ SqL K H a (ns.map V.int) ∧ ns.length ≤ 63 ∧ ∀ H', Q (.bl true) H'
theorem lay_len (many : Nat) : ∀ n, (lay many n).length = (signs many).length ^ n
  | 0 => rfl
  | n + 1 => by
    have h : ∀ xs : List (List Nat), (xs.flatMap fun l => (signs many).map fun c => l ++ [c]).length = xs.length * (signs many).length := fun xs => by
      induction xs with
      | nil => simp
      | cons x r ih =>
        rw [List.flatMap_cons, List.length_append, ih, List.length_map, List.length_cons, Nat.succ_mul, Nat.add_comm]
    show ((lay many n).flatMap _).length = _
    rw [h, lay_len many n, Nat.pow_succ]
theorem lay_le (many : Nat) {n : Nat} (h : n ≤ 9) : (lay many n).length ≤ 262144 := by
  rw [lay_len]
  have h1 := signs_len many
  calc (signs many).length ^ n ≤ 4 ^ n := Nat.pow_le_pow_left h1 n
    _ ≤ 4 ^ 9 := Nat.pow_le_pow_right (by decide) h
    _ = 262144 := by decide
theorem stk_le (many : Nat) : ∀ {n : Nat}, n ≤ 9 → (stk many n).length ≤ (n + 1) * 262144
  | 0, _ => by show 1 ≤ _; omega
  | n + 1, h => by
    have h1 := stk_le many (n := n) (by omega)
    have h2 := lay_le many h
    show (stk many n ++ lay many (n + 1)).length ≤ _
    rw [List.length_append]
    omega
theorem lay_mem {many : Nat} : ∀ {n : Nat} {l : List Nat}, l ∈ lay many n → l.length = n ∧ ∀ c ∈ l, c ∈ signs many
  | 0, l, h => by
    have e : l = [] := by simpa [lay] using h
    subst e
    exact ⟨rfl, fun c hc => by simp at hc⟩
  | n + 1, l, h => by
    obtain ⟨k, hk, h2⟩ := List.mem_flatMap.mp (show l ∈ (lay many n).flatMap _ from h)
    obtain ⟨c, hc, rfl⟩ := List.mem_map.mp h2
    obtain ⟨h3, h4⟩ := lay_mem hk
    refine ⟨by simp [h3], fun d hd => ?_⟩
    rcases List.mem_append.mp hd with h5 | h5
    · exact h4 d h5
    · have : d = c := by simpa using h5
      subst this
      exact hc
theorem stk_mem {many : Nat} : ∀ {n : Nat} {l : List Nat}, l ∈ stk many n → l.length ≤ n ∧ ∀ c ∈ l, c ∈ signs many
  | 0, l, h => by
    have := lay_mem (many := many) (n := 0) h
    exact ⟨Nat.le_of_eq this.1, this.2⟩
  | n + 1, l, h => by
    rcases List.mem_append.mp (show l ∈ stk many n ++ lay many (n + 1) from h) with h1 | h1
    · have := stk_mem h1
      exact ⟨by omega, this.2⟩
    · have := lay_mem h1
      exact ⟨Nat.le_of_eq this.1, this.2⟩
end SK
/-! works, their triples, their steps; the mathematics -/
namespace SK
/-! ### triples are told apart by what they do -/
theorem len_tby (t : Tr) (x : List Nat) : (tby t x).length = min t.k (x.length - t.g) + t.l.length := by
  simp only [tby]
  rw [List.length_append, len_tp, len_ct]
theorem tr_ext {room many : Nat} {t u : Tr} (a : TrOk room many t) (b : TrOk room many u) {c : Nat} (h : ∀ s, s ≤ room → tby t (List.replicate s c) = tby u (List.replicate s c)) : t = u := by
  have h0 := h 0 (Nat.zero_le _)
  have hl : t.l = u.l := by
    simp only [tby, List.replicate_zero, ct, tp, List.length_nil, List.take_nil, List.drop_nil, List.nil_append] at h0
    exact h0
  have hn : ∀ s, s ≤ room → min t.k (s - t.g) = min u.k (s - u.g) := fun s hs => by
    have e := congrArg List.length (h s hs)
    rw [len_tby, len_tby, List.length_replicate, hl] at e
    omega
  have := a.gk
  have := b.gk
  have ht := a.z
  have hu := b.z
  have hk : t.k = u.k := by
    have e := hn room (Nat.le_refl _)
    omega
  have hg : t.g = u.g := by
    by_cases h1 : t.k = 0
    · have := ht h1
      have := hu (by omega)
      omega
    · have e1 := hn (t.g + 1) (by omega)
      have e2 := hn (u.g + 1) (by omega)
      omega
  cases t
  cases u
  simp only at hl hk hg
  subst hl hk hg
  rfl
theorem tjoin_assoc {room many : Nat} {t u v : Tr} (a : TrOk room many t) (b : TrOk room many u) (c : TrOk room many v) : tjoin (tjoin t u) v = tjoin t (tjoin u v) :=
  tr_ext (c := 97) (tjoin_ok (tjoin_ok a b) c) (tjoin_ok a (tjoin_ok b c)) fun s _ => by rw [tby_join, tby_join, tby_join, tby_join]
theorem tby_len {room many : Nat} {t : Tr} (a : TrOk room many t) (x : List Nat) : (tby t x).length ≤ room := by
  rw [len_tby]
  have := a.kl
  omega
theorem tunt_left {room many : Nat} {t : Tr} (a : TrOk room many t) : tjoin (tunt room) t = t :=
  tr_ext (c := 97) (tjoin_ok tunt_ok a) a fun s hs => by rw [tby_join, tby_unt (by rw [List.length_replicate]; exact hs)]
theorem tunt_right {room many : Nat} {t : Tr} (a : TrOk room many t) : tjoin t (tunt room) = t :=
  tr_ext (c := 97) (tjoin_ok a tunt_ok) a fun s hs => by rw [tby_join, tby_unt (tby_len a _)]
/-- done so often -/
def tpw (room : Nat) (t : Tr) : Nat → Tr
  | 0 => tunt room
  | n + 1 => tjoin (tpw room t n) t
theorem tpw_ok {room many : Nat} {t : Tr} (a : TrOk room many t) : ∀ n, TrOk room many (tpw room t n)
  | 0 => tunt_ok
  | n + 1 => tjoin_ok (tpw_ok a n) a
theorem tpw_add {room many : Nat} {t : Tr} (a : TrOk room many t) (m : Nat) : ∀ n, tpw room t (m + n) = tjoin (tpw room t m) (tpw room t n)
  | 0 => (tunt_right (tpw_ok a m)).symm
  | n + 1 => by
    show tjoin (tpw room t (m + n)) t = tjoin (tpw room t m) (tjoin (tpw room t n) t)
    rw [tpw_add a m n, tjoin_assoc (tpw_ok a m) (tpw_ok a n) a]
theorem tpw_one {room many : Nat} {t : Tr} (a : TrOk room many t) : tpw room t 1 = t := tunt_left a
theorem tpw_two {room many : Nat} {t : Tr} (a : TrOk room many t) : ∀ n, tpw room (tjoin t t) n = tpw room t (2 * n)
  | 0 => rfl
  | n + 1 => by
    have e : 2 * (n + 1) = 2 * n + 2 := by omega
    have e2 : tpw room t 2 = tjoin t t := by
      show tjoin (tpw room t 1) t = _
      rw [tpw_one a]
    rw [e, tpw_add a, e2]
    show tjoin (tpw room (tjoin t t) n) (tjoin t t) = _
    rw [tpw_two a n]
/-- one turn of the doubling -/
theorem tpw_odd {room many : Nat} {t u : Tr} {n : Nat} (a : TrOk room many t) (b : TrOk room many u) (h : n % 2 = 1) : tjoin u (tpw room t n) = tjoin (tjoin u t) (tpw room (tjoin t t) (n / 2)) := by
  have e : n = 1 + 2 * (n / 2) := by omega
  rw [tpw_two a, tjoin_assoc b a (tpw_ok a _)]
  congr 1
  have e3 : tpw room t n = tpw room t (1 + 2 * (n / 2)) := by rw [← e]
  rw [e3, tpw_add a, tpw_one a]
theorem tpw_even {room many : Nat} {t u : Tr} {n : Nat} (a : TrOk room many t) (h : n % 2 = 0) : tjoin u (tpw room t n) = tjoin u (tpw room (tjoin t t) (n / 2)) := by
  rw [tpw_two a]
  have e : n = 2 * (n / 2) := by omega
  have e3 : tpw room t n = tpw room t (2 * (n / 2)) := by rw [← e]
  rw [e3]
/-! ### steps one behind another -/
theorem ttold_from {room many : Nat} {u : Tr} (hr : 1 ≤ room) (b : TrOk room many u) : ∀ (s : List Nat), (∀ c ∈ s, c = 45 ∨ c ∈ signs many) → ∀ t, TrOk room many t → s.foldl (fun t c => tjoin t (tstep room c)) (tjoin u t) = tjoin u (s.foldl (fun t c => tjoin t (tstep room c)) t)
  | [], _, _, _ => rfl
  | c :: r, hs, t, a => by
    have hc := tstep_ok (room := room) (many := many) hr (hs c (List.mem_cons_self ..))
    have ih := ttold_from hr b r (fun d hd => hs d (List.mem_cons_of_mem _ hd)) (tjoin t (tstep room c)) (tjoin_ok a hc)
    show r.foldl _ (tjoin (tjoin u t) (tstep room c)) = tjoin u (r.foldl _ (tjoin t (tstep room c)))
    rw [tjoin_assoc b a hc, ih]
theorem ttold_ok' {room many : Nat} (hr : 1 ≤ room) {s : List Nat} (hs : ∀ c ∈ s, c = 45 ∨ c ∈ signs many) : TrOk room many (ttold room s) := ttold_ok hr s _ tunt_ok hs
theorem ttold_app {room many : Nat} (hr : 1 ≤ room) {a b : List Nat} (ha : ∀ c ∈ a, c = 45 ∨ c ∈ signs many) (hb : ∀ c ∈ b, c = 45 ∨ c ∈ signs many) : ttold room (a ++ b) = tjoin (ttold room a) (ttold room b) := by
  have e : ttold room (a ++ b) = b.foldl (fun t c => tjoin t (tstep room c)) (ttold room a) := by
    unfold ttold
    rw [List.foldl_append]
  have h := ttold_from hr (ttold_ok' hr ha) b hb (tunt room) tunt_ok
  rw [tunt_right (ttold_ok' hr ha)] at h
  rw [e, h]
  rfl
theorem ttold_one {room many c : Nat} (hr : 1 ≤ room) (hc : c = 45 ∨ c ∈ signs many) : ttold room [c] = tstep room c := by
  show tjoin (tunt room) (tstep room c) = _
  exact tunt_left (tstep_ok (many := many) hr hc)
/-! ### works -/
mutual
inductive W where
  | push (c : Nat)
  | pop
  | row (ws : Ws)
  | times (n : Nat) (w : W)
inductive Ws where
  | nil
  | cons (w : W) (r : Ws)
end
mutual
def W.siz : W → Nat
  | .push _ => 1
  | .pop => 1
  | .row ws => 1 + ws.siz
  | .times _ w => 1 + w.siz
def Ws.siz : Ws → Nat
  | .nil => 0
  | .cons w r => w.siz + r.siz
end
mutual
def W.dep : W → Nat
  | .push _ => 1
  | .pop => 1
  | .row ws => 1 + ws.dep
  | .times _ w => 1 + w.dep
def Ws.dep : Ws → Nat
  | .nil => 0
  | .cons w r => max w.dep r.dep
end
mutual
def W.lng : W → List Nat
  | .push c => [c]
  | .pop => [45]
  | .row ws => ws.lng
  | .times n w => (List.replicate n w.lng).flatten
def Ws.lng : Ws → List Nat
  | .nil => []
  | .cons w r => w.lng ++ r.lng
end
mutual
/-- how many steps -/
def W.cnt : W → Nat
  | .push _ => 1
  | .pop => 1
  | .row ws => ws.cnt
  | .times n w => n * w.cnt
def Ws.cnt : Ws → Nat
  | .nil => 0
  | .cons w r => w.cnt + r.cnt
end
mutual
def W.prc (f : Nat → Int) : W → Int
  | .push c => f c
  | .pop => f 45
  | .row ws => ws.prc f
  | .times n w => (n : Int) * w.prc f
def Ws.prc (f : Nat → Int) : Ws → Int
  | .nil => 0
  | .cons w r => w.prc f + r.prc f
end
mutual
def W.tri (room : Nat) : W → Tr
  | .push c => tstep room c
  | .pop => tstep room 45
  | .row ws => ws.tri room (tunt room)
  | .times n w => tpw room (w.tri room) n
def Ws.tri (room : Nat) : Ws → Tr → Tr
  | .nil, t => t
  | .cons w r, t => r.tri room (tjoin t (w.tri room))
end
def Ws.len : Ws → Nat
  | .nil => 0
  | .cons _ r => r.len + 1
mutual
/-- can be: signs of the plan, counts to 10 ** 18 -/
def W.Can (many : Nat) : W → Prop
  | .push c => c ∈ signs many
  | .pop => True
  | .row ws => ws.len ≤ 1000 ∧ ws.Can many
  | .times n w => n ≤ 1000000000000000000 ∧ w.Can many
def Ws.Can (many : Nat) : Ws → Prop
  | .nil => True
  | .cons w r => w.Can many ∧ r.Can many
end
mutual
/-- few in a row, nothing done more often than so -/
def W.Tm (t : Nat) : W → Prop
  | .push _ => True
  | .pop => True
  | .row ws => ws.len ≤ 3 ∧ ws.Tm t
  | .times n w => n ≤ t ∧ w.Tm t
def Ws.Tm (t : Nat) : Ws → Prop
  | .nil => True
  | .cons w r => w.Tm t ∧ r.Tm t
end
mutual
theorem W.cnt_le : ∀ w : W, w.Tm 4 → w.cnt ≤ 4 ^ w.dep
  | .push _, _ => by show 1 ≤ 4 ^ 1; decide
  | .pop, _ => by show 1 ≤ 4 ^ 1; decide
  | .row ws, h => by
    have e := Ws.cnt_le ws h.2
    have e2 : ws.len * 4 ^ ws.dep ≤ 3 * 4 ^ ws.dep := Nat.mul_le_mul_right _ h.1
    show ws.cnt ≤ 4 ^ (1 + ws.dep)
    rw [Nat.pow_add]
    omega
  | .times n w, h => by
    have e := W.cnt_le w h.2
    show n * w.cnt ≤ 4 ^ (1 + w.dep)
    rw [Nat.pow_add]
    exact Nat.mul_le_mul h.1 e
theorem Ws.cnt_le : ∀ ws : Ws, ws.Tm 4 → ws.cnt ≤ ws.len * 4 ^ ws.dep
  | .nil, _ => Nat.zero_le _
  | .cons w r, h => by
    have e1 := W.cnt_le w h.1
    have e2 := Ws.cnt_le r h.2
    show w.cnt + r.cnt ≤ (r.len + 1) * 4 ^ (max w.dep r.dep)
    have p1 : 4 ^ w.dep ≤ 4 ^ (max w.dep r.dep) := Nat.pow_le_pow_right (by decide) (Nat.le_max_left ..)
    have p2 : r.len * 4 ^ r.dep ≤ r.len * 4 ^ (max w.dep r.dep) := Nat.mul_le_mul_left _ (Nat.pow_le_pow_right (by decide) (Nat.le_max_right ..))
    rw [Nat.succ_mul]
    omega
end
mutual
theorem W.siz_pos : ∀ w : W, 1 ≤ w.siz
  | .push _ => Nat.le_refl _
  | .pop => Nat.le_refl _
  | .row ws => by show 1 ≤ 1 + ws.siz; omega
  | .times _ w => by show 1 ≤ 1 + w.siz; omega
end
mutual
theorem W.dep_pos : ∀ w : W, 1 ≤ w.dep
  | .push _ => Nat.le_refl _
  | .pop => Nat.le_refl _
  | .row ws => by show 1 ≤ 1 + ws.dep; omega
  | .times _ w => by show 1 ≤ 1 + w.dep; omega
end
mutual
theorem W.tri_ok {room many : Nat} (hr : 1 ≤ room) : ∀ w : W, w.Can many → TrOk room many (w.tri room)
  | .push c, h => tstep_ok hr (.inr h)
  | .pop, _ => tstep_ok hr (.inl rfl)
  | .row ws, h => Ws.tri_ok hr ws _ h.2 tunt_ok
  | .times n w, h => tpw_ok (W.tri_ok hr w h.2) n
theorem Ws.tri_ok {room many : Nat} (hr : 1 ≤ room) : ∀ (ws : Ws) (t : Tr), ws.Can many → TrOk room many t → TrOk room many (ws.tri room t)
  | .nil, _, _, a => a
  | .cons w r, t, h, a => Ws.tri_ok hr r _ h.2 (tjoin_ok a (W.tri_ok hr w h.1))
end
mutual
theorem W.lng_in {many : Nat} : ∀ w : W, w.Can many → ∀ c ∈ w.lng, c = 45 ∨ c ∈ signs many
  | .push c, h, d, hd => by
    have e : d = c := by simpa [W.lng] using hd
    subst e
    exact .inr h
  | .pop, _, d, hd => .inl (by simpa [W.lng] using hd)
  | .row ws, h, d, hd => Ws.lng_in ws h.2 d hd
  | .times n w, h, d, hd => by
    obtain ⟨l, hl, hd⟩ := List.mem_flatten.mp (show d ∈ (List.replicate n w.lng).flatten from hd)
    have e := List.eq_of_mem_replicate hl
    subst e
    exact W.lng_in w h.2 d hd
theorem Ws.lng_in {many : Nat} : ∀ ws : Ws, ws.Can many → ∀ c ∈ ws.lng, c = 45 ∨ c ∈ signs many
  | .nil, _, d, hd => by simp [Ws.lng] at hd
  | .cons w r, h, d, hd => by
    rcases List.mem_append.mp (show d ∈ w.lng ++ r.lng from hd) with h1 | h1
    · exact W.lng_in w h.1 d h1
    · exact Ws.lng_in r h.2 d h1
end
mutual
theorem W.tri_lng {room many : Nat} (hr : 1 ≤ room) : ∀ w : W, w.Can many → w.tri room = ttold room w.lng
  | .push c, h => (ttold_one (many := many) hr (.inr h)).symm
  | .pop, _ => (ttold_one (many := many) hr (.inl rfl)).symm
  | .row ws, h => by
    have e := Ws.tri_lng (many := many) hr ws (tunt room) h.2 tunt_ok
    rw [tunt_left (ttold_ok' hr (Ws.lng_in ws h.2))] at e
    exact e
  | .times n w, h => by
    have e := W.tri_lng hr w h.2
    have hin := W.lng_in w h.2
    have hok := W.tri_ok (room := room) hr w h.2
    show tpw room (w.tri room) n = ttold room (List.replicate n w.lng).flatten
    have k : ∀ n, tpw room (w.tri room) n = ttold room (List.replicate n w.lng).flatten ∧ ∀ c ∈ (List.replicate n w.lng).flatten, c = 45 ∨ c ∈ signs many := fun n => by
      induction n with
      | zero => exact ⟨rfl, fun c hc => by simp at hc⟩
      | succ n ih =>
        have e2 : (List.replicate (n + 1) w.lng).flatten = (List.replicate n w.lng).flatten ++ w.lng := by
          rw [List.replicate_succ', List.flatten_append]
          simp
        have h2 : ∀ c ∈ (List.replicate (n + 1) w.lng).flatten, c = 45 ∨ c ∈ signs many := fun c hc => by
          rw [e2] at hc
          rcases List.mem_append.mp hc with h3 | h3
          · exact ih.2 c h3
          · exact hin c h3
        refine ⟨?_, h2⟩
        show tjoin (tpw room (w.tri room) n) (w.tri room) = _
        rw [e2, ttold_app (many := many) hr ih.2 hin, ih.1, ← e]
    exact (k n).1
theorem Ws.tri_lng {room many : Nat} (hr : 1 ≤ room) : ∀ (ws : Ws) (t : Tr), ws.Can many → TrOk room many t → ws.tri room t = tjoin t (ttold room ws.lng)
  | .nil, t, _, a => (tunt_right a).symm
  | .cons w r, t, h, a => by
    have e1 := W.tri_lng (many := many) hr w h.1
    have o1 := W.tri_ok (room := room) hr w h.1
    have e2 := Ws.tri_lng hr r (tjoin t (w.tri room)) h.2 (tjoin_ok a o1)
    show r.tri room (tjoin t (w.tri room)) = tjoin t (ttold room (w.lng ++ r.lng))
    rw [e2, ttold_app (many := many) hr (W.lng_in w h.1) (Ws.lng_in r h.2), ← e1, tjoin_assoc a o1 (ttold_ok' hr (Ws.lng_in r h.2))]
end
mutual
theorem W.cnt_lng : ∀ w : W, w.cnt = w.lng.length
  | .push _ => rfl
  | .pop => rfl
  | .row ws => Ws.cnt_lng ws
  | .times n w => by
    have e := W.cnt_lng w
    show n * w.cnt = (List.replicate n w.lng).flatten.length
    rw [List.length_flatten, List.map_replicate, List.sum_replicate_nat, e]
theorem Ws.cnt_lng : ∀ ws : Ws, ws.cnt = ws.lng.length
  | .nil => rfl
  | .cons w r => by
    have e1 := W.cnt_lng w
    have e2 := Ws.cnt_lng r
    show w.cnt + r.cnt = (w.lng ++ r.lng).length
    rw [List.length_append, e1, e2]
end
/-- what steps cost -/
def sprc (f : Nat → Int) (l : List Nat) : Int := (l.map f).sum
theorem sprc_app (f : Nat → Int) (a b : List Nat) : sprc f (a ++ b) = sprc f a + sprc f b := by
  unfold sprc
  rw [List.map_append, List.sum_append]
mutual
theorem W.prc_lng (f : Nat → Int) : ∀ w : W, w.prc f = sprc f w.lng
  | .push c => by simp [W.prc, W.lng, sprc]
  | .pop => by simp [W.prc, W.lng, sprc]
  | .row ws => Ws.prc_lng f ws
  | .times n w => by
    have e := W.prc_lng f w
    show (n : Int) * w.prc f = sprc f (List.replicate n w.lng).flatten
    have k : ∀ n : Nat, (n : Int) * w.prc f = sprc f (List.replicate n w.lng).flatten := fun n => by
      induction n with
      | zero => simp [sprc]
      | succ n ih =>
        rw [List.replicate_succ, List.flatten_cons, sprc_app, ← ih, ← e, Int.natCast_succ, Int.add_mul, Int.one_mul, Int.add_comm]
    exact k n
theorem Ws.prc_lng (f : Nat → Int) : ∀ ws : Ws, ws.prc f = sprc f ws.lng
  | .nil => rfl
  | .cons w r => by
    have e1 := W.prc_lng f w
    have e2 := Ws.prc_lng f r
    show w.prc f + r.prc f = sprc f (w.lng ++ r.lng)
    rw [sprc_app, e1, e2]
end
end SK
namespace SK
open PySem PySem.Spec PyProof.Rows L2
/-! ### two rules: list(text), text * int -/
theorem call_listS {X : Cx} (hc : X.calm = true) : CallR X (.type "list") (fun xs H Q => ∃ z : Str, xs = [.str z] ∧ z.length ≤ sizeLine ∧ ∀ l, H l = none → Q (.ref l) (upd H l (.lst (z.cps.toList.map fun c => V.str ⟨#[c]⟩)))) := by
  intro pins s σ H xs us Q I r h
  obtain ⟨z, rfl, hz, q⟩ := h
  obtain ⟨u, rfl, rx⟩ := vals1 r
  obtain ⟨t, rfl⟩ := rx
  have hn : z.cps.size ≤ sizeLine := hz
  refine PySem.call_list_str (I.ok.hd hc) z t (fun h' tk acc' c' kp e hi => ?_) hn
  have hlen : z.cps.toList.length = z.cps.size := Array.length_toList
  have rv : Vals (z.cps.toList.map fun c => V.str ⟨#[c]⟩) acc'.toList := by
    obtain ⟨h1, h2⟩ := hi
    have hx : ∀ (cs : List Nat) (as : List Value), as.length = cs.length → (∀ (j : Nat) (v : Value), as[j]? = some v → ∃ c u, cs[j]? = some c ∧ v = .str ⟨#[c]⟩ u) → Vals (cs.map fun c => V.str ⟨#[c]⟩) as := by
      intro cs
      induction cs with
      | nil =>
        intro as hl _
        have e : as = [] := List.length_eq_zero_iff.mp hl
        subst e
        exact .nil
      | cons c r ih =>
        intro as hl ha
        cases as with
        | nil => cases hl
        | cons v vs =>
          obtain ⟨c', u, e1, e2⟩ := ha 0 v rfl
          cases e1
          subst e2
          exact .cons ⟨u, rfl⟩ (ih vs (Nat.succ.inj hl) fun j v hj => ha (j + 1) v hj)
    refine hx _ _ ?_ fun j v hj => ?_
    · rw [Array.length_toList, h1, hlen]
    · rw [Array.getElem?_toList] at hj
      obtain ⟨c, u, e1, e2⟩ := h2 j v hj
      exact ⟨c, u, by rw [Array.getElem?_toList]; exact e1, e2⟩
  exact ⟨.ref s.heap.objs.size, _, I.laid (t' := tk) kp (Nat.le_refl _) (show ObjOk X.prog X.w _ h' _ (.lst _) from ⟨by rw [List.length_map, hlen]; exact hn, acc'.toList, c', rv, by simpa using e⟩), rfl, q _ (I.hok.fresh (Nat.le_refl _))⟩
theorem mulOk {z : Str} {n : Nat} (h : z.length * n ≤ 16777216) (hn : n ≤ 1000000000000000000) : MulOk z (n : Int) := by
  have hp : (2 : Int) ^ 63 = 9223372036854775808 := by decide
  refine ⟨?_, fun h1 h2 => ?_, fun h1 h2 => ?_⟩
  · rw [hp]
    rw [Bool.or_eq_false_iff]
    exact ⟨decide_eq_false (by omega), decide_eq_false (by omega)⟩
  · rw [hp]
    have h' : (z.length : Int) * (n : Int) ≤ 16777216 := by
      have h0 := Int.ofNat_le.mpr h
      rw [Int.natCast_mul] at h0
      exact h0
    have h3 : (z.length : Int) ≤ (9223372036854775808 - 1 : Int) / (n : Int) := Int.le_ediv_of_mul_le (by omega) (by omega)
    omega
  · rw [Int.toNat_natCast]
    unfold Builtin.Str.tooLong
    have h4 : z.length * n ≤ sizeLine := h
    simp only [gt_iff_lt, decide_eq_false_iff_not]
    omega
theorem foldl_reps (l : List Nat) : ∀ (n : Nat) (acc : Array Nat), (List.replicate n l.toArray).foldl (· ++ ·) acc = acc ++ ((List.replicate n l).flatten).toArray
  | 0, acc => by simp
  | n + 1, acc => by
    rw [List.replicate_succ, List.foldl_cons, foldl_reps l n, List.replicate_succ, List.flatten_cons]
    simp
theorem mul_tx (l : List Nat) (n : Nat) : Txt.mul (tx l) (n : Int) = tx (List.replicate n l).flatten := by
  unfold Txt.mul
  by_cases h : (n : Int) < 1
  · have e : n = 0 := by omega
    subst e
    rw [if_pos h]
    rfl
  · rw [if_neg h]
    by_cases h2 : ((n : Int) == 1 || (tx l).length == 0) = true
    · rw [if_pos h2]
      rw [Bool.or_eq_true] at h2
      rcases h2 with h2 | h2
      · have e : n = 1 := by
          have := eq_of_beq h2
          omega
        subst e
        simp
      · have e : l = [] := by
          have := eq_of_beq h2
          rw [tx_len] at this
          exact List.length_eq_zero_iff.mp this
        subst e
        simp
    · rw [if_neg h2]
      have e := foldl_reps l n #[]
      show (⟨(List.replicate (n : Int).toNat l.toArray).foldl (· ++ ·) #[]⟩ : Str) = _
      rw [Int.toNat_natCast, e]
      simp [tx]
/-- text * int -/
def rMulS : R2 := fun x y H Q => ∃ (l : List Nat) (n : Nat), x = .str (tx l) ∧ y = .int n ∧ l.length * n ≤ 16777216 ∧ n ≤ 1000000000000000000 ∧ Q (.str (tx (List.replicate n l).flatten)) H
theorem op_mulS {X : Cx} : OpR X (binaryOp .Mult) rMulS := by
  intro pins s σ H x y v u Q I rx ry h
  obtain ⟨l, n, rfl, rfl, hz, hn, q⟩ := h
  obtain ⟨t, rfl⟩ := rx
  obtain ⟨t', rfl⟩ := ry
  refine SB.mul (mulOk (by rw [tx_len]; exact hz) hn) fun t'' k => ?_
  rw [mul_tx]
  exact ⟨.str (tx (List.replicate n l).flatten), H, I.tok _, ⟨_, rfl⟩, q⟩
theorem join_tx (ls : List (List Nat)) : Txt.join (tx []) (ls.map tx) = tx ls.flatten := by
  have h : ∀ (r : List (List Nat)) (acc : Array Nat), (r.map tx).foldl (fun (acc : Array Nat) (p : Str) => acc ++ (tx []).cps ++ p.cps) acc = acc ++ r.flatten.toArray := by
    intro r
    induction r with
    | nil =>
      intro acc
      simp
    | cons x r ih =>
      intro acc
      rw [List.map_cons, List.foldl_cons, ih, List.flatten_cons]
      simp [tx]
  show Builtin.Str.glued (tx []) (ls.map tx) = _
  unfold Builtin.Str.glued
  cases ls with
  | nil => rfl
  | cons x r =>
    have e := h r x.toArray
    show (⟨(r.map tx).foldl (fun (acc : Array Nat) (p : Str) => acc ++ (tx []).cps ++ p.cps) x.toArray⟩ : Str) = _
    rw [e]
    simp [tx]
theorem b_sum : bootBuiltins "sum" = some (.builtin "sum") := by decide +kernel
/-! ### tuples stand -/
structure Tups (H H' : Hp) : Prop where
  t : ∀ (b : Addr) (xs : List V), H b = some (.tup xs) → H' b = some (.tup xs)
  f : ∀ (b : Addr) (o : Obj) (xs : List V), H b = some (.frz o (.tup xs)) → H' b = some (.frz o (.tup xs))
instance {H H' : Hp} : CoeFun (Tups H H') (fun _ => ∀ (b : Addr) (xs : List V), H b = some (.tup xs) → H' b = some (.tup xs)) := ⟨Tups.t⟩
theorem Tups.refl (H : Hp) : Tups H H := ⟨fun _ _ h => h, fun _ _ _ h => h⟩
theorem Tups.of {H H' : Hp} (s : Same H H') : Tups H H' := ⟨fun b xs h => s b _ h, fun b o xs h => s b _ h⟩
theorem Tups.trans {H H1 H2 : Hp} (a : Tups H H1) (b : Tups H1 H2) : Tups H H2 := ⟨fun c xs h => b.t c xs (a.t c xs h), fun c o xs h => b.f c o xs (a.f c o xs h)⟩
theorem Keep.tups {p q : Addr} {H H' : Hp} {ns : List Int} {z : Int} (k : Keep p q H H') (B : BoxAt H p q ns z) : Tups H H' := ⟨fun _ _ h => k.tup B h, fun b o xs h => k _ _ h (B.no h fun _ => by intro z; cases z).1 (B.no h fun _ => by intro z; cases z).2⟩
theorem Tups.lst {H : Hp} {a : Addr} {xs ys : List V} (h : H a = some (.lst xs)) : Tups H (upd H a (.lst ys)) := ⟨fun b zs e => by
  rw [upd_ne (ne_of e h (by intro z; cases z))]
  exact e, fun b o zs e => by
  rw [upd_ne (ne_of e h (by intro z; cases z))]
  exact e⟩
theorem PlanAt.tups {H H' : Hp} {v : V} {p : Pl} (h : PlanAt H v p) (e : Tups H H') : PlanAt H' v p := by
  obtain ⟨a, b, h1, h2, ob, h3, h4⟩ := h
  exact ⟨a, b, h1, e.t _ _ h2, ob, h3, e.f _ _ _ h4⟩
theorem TripAt.tups {H H' : Hp} {v : V} {t : Tr} (h : TripAt H v t) (e : Tups H H') : TripAt H' v t := by
  obtain ⟨a, h1, h2⟩ := h
  exact ⟨a, h1, e _ _ h2⟩
/-! ### works as they stand in the heap -/
mutual
def WAt (H : Hp) : W → V → Prop
  | .push c, v => ∃ a, v = .ref a ∧ H a = some (.tup [.str "push", .str (tx [c])])
  | .pop, v => ∃ a, v = .ref a ∧ H a = some (.tup [.str "pop"])
  | .row ws, v => ∃ a b vs, v = .ref a ∧ H a = some (.tup [.str "row", .ref b]) ∧ H b = some (.tup vs) ∧ WsAt H ws vs
  | .times n w, v => ∃ a u, v = .ref a ∧ H a = some (.tup [.str "times", .int (n : Int), u]) ∧ WAt H w u
def WsAt (H : Hp) : Ws → List V → Prop
  | .nil, vs => vs = []
  | .cons w r, vs => ∃ v s, vs = v :: s ∧ WAt H w v ∧ WsAt H r s
end
mutual
theorem WAt.tups {H H' : Hp} (e : Tups H H') : ∀ {w : W} {v : V}, WAt H w v → WAt H' w v
  | .push c, v, h => by
    obtain ⟨a, h1, h2⟩ := h
    exact ⟨a, h1, e _ _ h2⟩
  | .pop, v, h => by
    obtain ⟨a, h1, h2⟩ := h
    exact ⟨a, h1, e _ _ h2⟩
  | .row ws, v, h => by
    obtain ⟨a, b, vs, h1, h2, h3, h4⟩ := h
    exact ⟨a, b, vs, h1, e _ _ h2, e _ _ h3, WsAt.tups e h4⟩
  | .times n w, v, h => by
    obtain ⟨a, u, h1, h2, h3⟩ := h
    exact ⟨a, u, h1, e _ _ h2, WAt.tups e h3⟩
theorem WsAt.tups {H H' : Hp} (e : Tups H H') : ∀ {ws : Ws} {vs : List V}, WsAt H ws vs → WsAt H' ws vs
  | .nil, vs, h => h
  | .cons w r, vs, h => by
    obtain ⟨v, s, h1, h2, h3⟩ := h
    exact ⟨v, s, h1, WAt.tups e h2, WsAt.tups e h3⟩
end
def Ws.list : Ws → List W
  | .nil => []
  | .cons w r => w :: r.list
theorem Ws.len_list : ∀ ws : Ws, ws.list.length = ws.len
  | .nil => rfl
  | .cons w r => by
    show r.list.length + 1 = r.len + 1
    rw [r.len_list]
theorem WsAt.len {H : Hp} : ∀ {ws : Ws} {vs : List V}, WsAt H ws vs → vs.length = ws.list.length
  | .nil, vs, h => by
    cases h
    rfl
  | .cons w r, vs, h => by
    obtain ⟨v, s, rfl, h2, h3⟩ := h
    show s.length + 1 = r.list.length + 1
    rw [h3.len]
theorem WsAt.get {H : Hp} : ∀ {ws : Ws} {vs : List V}, WsAt H ws vs → ∀ {i : Nat} {x : V}, vs[i]? = some x → ∃ w, ws.list[i]? = some w ∧ WAt H w x
  | .nil, vs, h, i, x, e => by
    cases h
    cases e
  | .cons w r, vs, h, i, x, e => by
    obtain ⟨v, s, rfl, h2, h3⟩ := h
    cases i with
    | zero =>
      cases e
      exact ⟨w, rfl, h2⟩
    | succ i => exact h3.get (i := i) e
theorem Ws.siz_list : ∀ ws : Ws, ws.siz = (ws.list.map W.siz).sum
  | .nil => rfl
  | .cons w r => by
    show w.siz + r.siz = (w.siz :: r.list.map W.siz).sum
    rw [List.sum_cons, r.siz_list]
theorem Ws.cnt_list : ∀ ws : Ws, ws.cnt = (ws.list.map W.cnt).sum
  | .nil => rfl
  | .cons w r => by
    show w.cnt + r.cnt = (w.cnt :: r.list.map W.cnt).sum
    rw [List.sum_cons, r.cnt_list]
theorem Ws.prc_list (f : Nat → Int) : ∀ ws : Ws, ws.prc f = (ws.list.map (W.prc f)).sum
  | .nil => rfl
  | .cons w r => by
    show w.prc f + r.prc f = (w.prc f :: r.list.map (W.prc f)).sum
    rw [List.sum_cons, r.prc_list]
theorem Ws.lng_list : ∀ ws : Ws, ws.lng = (ws.list.map W.lng).flatten
  | .nil => rfl
  | .cons w r => by
    show w.lng ++ r.lng = (w.lng :: r.list.map W.lng).flatten
    rw [List.flatten_cons, r.lng_list]
theorem Ws.tri_list (room : Nat) : ∀ (ws : Ws) (t : Tr), ws.tri room t = ws.list.foldl (fun t w => tjoin t (w.tri room)) t
  | .nil, _ => rfl
  | .cons w r, t => r.tri_list room (tjoin t (w.tri room))
theorem Ws.dep_mem : ∀ {ws : Ws} {w : W}, w ∈ ws.list → w.dep ≤ ws.dep
  | .nil, w, h => by cases h
  | .cons w' r, w, h => by
    show w.dep ≤ max w'.dep r.dep
    rcases List.mem_cons.mp h with h | h
    · subst h
      exact Nat.le_max_left ..
    · exact Nat.le_trans (Ws.dep_mem h) (Nat.le_max_right ..)
theorem Ws.can_mem {many : Nat} : ∀ {ws : Ws} {w : W}, ws.Can many → w ∈ ws.list → w.Can many
  | .nil, w, _, h => by cases h
  | .cons w' r, w, c, h => by
    rcases List.mem_cons.mp h with h | h
    · subst h
      exact c.1
    · exact Ws.can_mem c.2 h
theorem Ws.tm_mem {t : Nat} : ∀ {ws : Ws} {w : W}, ws.Tm t → w ∈ ws.list → w.Tm t
  | .nil, w, _, h => by cases h
  | .cons w' r, w, c, h => by
    rcases List.mem_cons.mp h with h | h
    · subst h
      exact c.1
    · exact Ws.tm_mem c.2 h
theorem Ws.cnt_mem : ∀ {ws : Ws} {w : W}, w ∈ ws.list → w.cnt ≤ ws.cnt
  | .nil, w, h => by cases h
  | .cons w' r, w, h => by
    show w.cnt ≤ w'.cnt + r.cnt
    rcases List.mem_cons.mp h with h | h
    · subst h
      omega
    · have := Ws.cnt_mem h
      omega
theorem s_push : ¬ (("push" : Str) = "pop") := by decide +kernel
theorem s_pu_ro : ¬ (("push" : Str) = "row") := by decide +kernel
theorem s_pu_ti : ¬ (("push" : Str) = "times") := by decide +kernel
theorem s_po_pu : ¬ (("pop" : Str) = "push") := by decide +kernel
theorem s_po_ro : ¬ (("pop" : Str) = "row") := by decide +kernel
theorem s_po_ti : ¬ (("pop" : Str) = "times") := by decide +kernel
theorem s_ro_pu : ¬ (("row" : Str) = "push") := by decide +kernel
theorem s_ro_po : ¬ (("row" : Str) = "pop") := by decide +kernel
theorem s_ro_ti : ¬ (("row" : Str) = "times") := by decide +kernel
theorem s_ti_pu : ¬ (("times" : Str) = "push") := by decide +kernel
theorem s_ti_po : ¬ (("times" : Str) = "pop") := by decide +kernel
theorem s_ti_ro : ¬ (("times" : Str) = "row") := by decide +kernel
theorem vne {a b : Str} (h : ¬ a = b) : ¬ (V.str a = V.str b) := fun z => by
  injection z with z
  exact h z
theorem sign_at {M : Nat} {r : Int} (hm : M ≤ 4) (r0 : 0 ≤ r) (r1 : r < (M : Int)) : ∃ c : Nat, c ∈ signs M ∧ atI (("abcd" : Str).cps.toList) r = some c := by
  obtain ⟨R, rfl⟩ : ∃ R : Nat, r = (R : Int) := ⟨r.toNat, by omega⟩
  have hR : R < M := by omega
  have h3 : R < ([97, 98, 99, 100] : List Nat).length := by show R < 4; omega
  refine ⟨([97, 98, 99, 100] : List Nat)[R], ?_, ?_⟩
  · unfold signs
    exact List.mem_take_iff_getElem.mpr ⟨R, by rw [Nat.lt_min]; exact ⟨hR, h3⟩, rfl⟩
  · exact atI_nat (by rw [s_abcd]; exact List.getElem?_eq_getElem h3)
/-- what a work is made of -/
def W.within : W → Ws
  | .push _ => .nil
  | .pop => .nil
  | .row ws => ws
  | .times _ w => .cons w .nil
structure WOk (many : Nat) (w : W) : Prop where
  can : w.Can many
  siz : w.siz ≤ 60
  dep : w.dep ≤ 8
/-- what a step costs -/
def cst (p : Pl) (c : Nat) : Int := if c = 45 then p.pop else p.pr.getD (c - 97) 0
/-! ### promises -/
def spAlone : Sp := fun vs H Q _ => ∃ (w : W) (v : V) (D : Addr) (many : Nat), vs = [v, .ref D] ∧ WAt H w v ∧ H D = some (.lst ((signs many).map fun c => V.str (tx [c]))) ∧ w.Can many ∧ giv (.bl true) H Q
def spWithin : Sp := fun vs H Q _ => ∃ (w : W) (v : V), vs = [v] ∧ WAt H w v ∧ ∀ (H' : Hp) (u : Addr) (xs : List V), Same H H' → H' u = some (.tup xs) → WsAt H' w.within xs → Q (.ref u) H'
def spChWork : Sp := fun vs H Q _ => ∃ v p u w, vs = [v, u] ∧ PlanAt H v p ∧ p.Ok ∧ WAt H w u ∧ WOk p.many w ∧ giv .non H Q
def spTri (n : Nat) : Sp := fun vs H Q _ => ∃ v p u w, vs = [v, u] ∧ PlanAt H v p ∧ p.Ok ∧ WAt H w u ∧ w.Can p.many ∧ w.dep ≤ n ∧ givT (w.tri p.room) H Q
def spPower : Sp := fun vs H Q _ => ∃ (v : V) (p : Pl) (u : V) (t : Tr) (n : Nat), vs = [v, u, .int n] ∧ PlanAt H v p ∧ p.Ok ∧ TripAt H u t ∧ TrOk p.room p.many t ∧ n ≤ 1000000000000000000 ∧ givT (tpw p.room t n) H Q
def spTold : Sp := fun vs H Q _ => ∃ v p u w, vs = [v, u] ∧ PlanAt H v p ∧ p.Ok ∧ WAt H w u ∧ WOk p.many w ∧ givT (w.tri p.room) H Q
def spRun : Sp := fun vs H Q _ => ∃ v p u w l, vs = [v, u, .str (tx l)] ∧ PlanAt H v p ∧ p.Ok ∧ WAt H w u ∧ WOk p.many w ∧ l.length ≤ p.room ∧ (∀ c ∈ l, c ∈ signs p.many) ∧ giv (.str (tx (tby (w.tri p.room) l))) H Q
def spPStep : Sp := fun vs H Q _ => ∃ v p c, vs = [v, .str (tx [c])] ∧ PlanAt H v p ∧ p.Ok ∧ (c = 45 ∨ c ∈ signs p.many) ∧ giv (.int (cst p c)) H Q
def spPWork (n : Nat) : Sp := fun vs H Q _ => ∃ v p u w, vs = [v, u] ∧ PlanAt H v p ∧ p.Ok ∧ WAt H w u ∧ w.Can p.many ∧ w.dep ≤ n ∧ giv (.int (w.prc (cst p))) H Q
def spCost : Sp := fun vs H Q _ => ∃ v p u w, vs = [v, u] ∧ PlanAt H v p ∧ p.Ok ∧ WAt H w u ∧ WOk p.many w ∧ giv (.int (w.prc (cst p))) H Q
def spLTuples (n : Nat) : Sp := fun vs H Q _ => ∃ u w many, vs = [u] ∧ WAt H w u ∧ (w : W).Can many ∧ w.dep ≤ n ∧ giv (.int ((w : W).siz : Int)) H Q
def spLCount (n : Nat) : Sp := fun vs H Q _ => ∃ u w many, vs = [u] ∧ WAt H w u ∧ (w : W).Can many ∧ w.dep ≤ n ∧ giv (.int ((w : W).cnt : Int)) H Q
def spLLong (n : Nat) : Sp := fun vs H Q _ => ∃ u w many, vs = [u] ∧ WAt H w u ∧ (w : W).Can many ∧ w.dep ≤ n ∧ w.Tm 4 ∧ w.dep ≤ 8 ∧ giv (.str (tx w.lng)) H Q
def spLWork (n : Nat) : Sp := fun vs H Q _ => ∃ (p q : Addr) (ns : List Int) (z : Int) (v : V) (pl : Pl) (m tm : Nat), vs = [.ref p, v, .int (m : Int), .int (tm : Int)] ∧ BoxAt H p q ns z ∧ PlanAt H v pl ∧ pl.Ok ∧ 1 ≤ m ∧ m ≤ n ∧ tm ≤ 1000000000000000000 ∧
  ∀ (w : W) (u : V) (ns' : List Int) (z' : Int) (H' : Hp), w.Can pl.many → w.dep ≤ m → w.Tm tm → WAt H' w u → BoxAt H' p q ns' z' → Keep p q H H' → Q u H'
def spLSome (n : Nat) : Sp := fun vs H Q _ => ∃ (p q : Addr) (ns : List Int) (z : Int) (v : V) (pl : Pl) (m tm lim : Nat), vs = [.ref p, v, .int (m : Int), .int (tm : Int), .int (lim : Int)] ∧ BoxAt H p q ns z ∧ PlanAt H v pl ∧ pl.Ok ∧ 1 ≤ m ∧ m ≤ n ∧ 2 ≤ m ∧ 2 ≤ tm ∧ tm ≤ 1000000000000000000 ∧ 2 ≤ lim ∧
  ∀ (w : W) (u : V) (ns' : List Int) (z' : Int) (H' : Hp), w.Can pl.many → w.dep ≤ m → w.siz ≤ lim → w.Tm tm → WAt H' w u → BoxAt H' p q ns' z' → Keep p q H H' → Q u H'
def ofL : List W → Ws
  | [] => .nil
  | w :: r => .cons w (ofL r)
theorem ofL_len : ∀ l : List W, (ofL l).len = l.length
  | [] => rfl
  | w :: r => by
    show (ofL r).len + 1 = r.length + 1
    rw [ofL_len r]
theorem ofL_can {many : Nat} : ∀ l : List W, (∀ w ∈ l, w.Can many) → (ofL l).Can many
  | [], _ => trivial
  | w :: r, h => ⟨h w (List.mem_cons_self ..), ofL_can r fun x hx => h x (List.mem_cons_of_mem _ hx)⟩
theorem ofL_tm {t : Nat} : ∀ l : List W, (∀ w ∈ l, w.Tm t) → (ofL l).Tm t
  | [], _ => trivial
  | w :: r, h => ⟨h w (List.mem_cons_self ..), ofL_tm r fun x hx => h x (List.mem_cons_of_mem _ hx)⟩
theorem ofL_dep {n : Nat} : ∀ l : List W, (∀ w ∈ l, w.dep ≤ n) → (ofL l).dep ≤ n
  | [], _ => Nat.zero_le _
  | w :: r, h => by
    show max w.dep (ofL r).dep ≤ n
    exact Nat.max_le.mpr ⟨h w (List.mem_cons_self ..), ofL_dep r fun x hx => h x (List.mem_cons_of_mem _ hx)⟩
/-- works and their values, one by one -/
def W2 (H : Hp) : List W → List V → Prop
  | [], vs => vs = []
  | w :: r, vs => ∃ v s, vs = v :: s ∧ WAt H w v ∧ W2 H r s
theorem W2.ws {H : Hp} : ∀ {l : List W} {vs : List V}, W2 H l vs → WsAt H (ofL l) vs
  | [], _, h => h
  | _ :: _, _, h => by
    obtain ⟨v, s, h1, h2, h3⟩ := h
    exact ⟨v, s, h1, h2, h3.ws⟩
theorem W2.tups {H H' : Hp} (e : Tups H H') : ∀ {l : List W} {vs : List V}, W2 H l vs → W2 H' l vs
  | [], _, h => h
  | _ :: _, _, h => by
    obtain ⟨v, s, h1, h2, h3⟩ := h
    exact ⟨v, s, h1, h2.tups e, h3.tups e⟩
theorem W2.snoc {H : Hp} {w : W} {u : V} (hu : WAt H w u) : ∀ {l : List W} {vs : List V}, W2 H l vs → W2 H (l ++ [w]) (vs ++ [u])
  | [], _, h => by
    cases h
    exact ⟨u, [], rfl, hu, rfl⟩
  | _ :: _, _, h => by
    obtain ⟨v, s, rfl, h2, h3⟩ := h
    exact ⟨v, s ++ [u], rfl, h2, h3.snoc hu⟩
theorem W2.len {H : Hp} : ∀ {l : List W} {vs : List V}, W2 H l vs → vs.length = l.length
  | [], _, h => by
    cases h
    rfl
  | _ :: r, _, h => by
    obtain ⟨v, s, rfl, h2, h3⟩ := h
    show s.length + 1 = r.length + 1
    rw [h3.len]
theorem tx1_len : ∀ l : List Nat, ((l.map fun c => tx [c]).map (·.length)).sum = l.length
  | [] => rfl
  | c :: r => by
    show 1 + ((r.map fun c => tx [c]).map (·.length)).sum = r.length + 1
    rw [tx1_len r, Nat.add_comm]
theorem flat1 : ∀ l : List Nat, (l.map fun c => [c]).flatten = l
  | [] => rfl
  | c :: r => by
    show c :: (r.map fun c => [c]).flatten = c :: r
    rw [flat1 r]
end SK
namespace SK
theorem tpw_comm {room many : Nat} {t : Tr} (a : TrOk room many t) (n : Nat) : tpw room t (n + 1) = tjoin t (tpw room t n) := by
  have e := tpw_add a 1 n
  rw [tpw_one a, Nat.add_comm] at e
  exact e
/-- where nothing stays, whatever goes ahead -/
theorem tjoin_const {room many : Nat} {t u : Tr} (a : TrOk room many t) (b : TrOk room many u) (h : u.k = 0) : tjoin t u = u := by
  have hc : ∀ x, tby u x = u.l := fun x => by
    simp only [tby, h, tp_zero, List.nil_append]
  exact tr_ext (c := 97) (tjoin_ok a b) b fun s _ => by rw [tby_join, hc, hc]
theorem tidy_eq {g k : Nat} {l : List Nat} (h : k ≠ 0) : tidy g k l = ⟨g, k, l⟩ := by
  unfold tidy
  rw [if_neg h]
theorem tidy_k (g k : Nat) (l : List Nat) : (tidy g k l).k = k := by
  unfold tidy
  by_cases h : k = 0
  · rw [if_pos h]
    exact h.symm
  · rw [if_neg h]
theorem tjoin_k (t u : Tr) : (tjoin t u).k = min (t.k - (u.g - t.l.length)) (u.k - (ct u.g t.l).length) := tidy_k _ _ _
theorem tpw_k_le {room many : Nat} {t : Tr} (a : TrOk room many t) (n : Nat) : (tpw room t (n + 1)).k ≤ (tpw room t n).k := by
  show (tjoin (tpw room t n) t).k ≤ _
  rw [tjoin_k]
  omega
theorem tpw_same {room many : Nat} {t : Tr} (a : TrOk room many t) {n : Nat} (h : (tpw room t (n + 1)).k = (tpw room t n).k) (h0 : (tpw room t n).k ≠ 0) : tpw room t (n + 1) = tpw room t n := by
  have b := tpw_ok a n
  have e1 : tpw room t (n + 1) = tjoin (tpw room t n) t := rfl
  have e2 := tpw_comm a n
  generalize tpw room t n = u at h h0 b e1 e2
  have k1 : (tjoin u t).k = u.k := by rw [← e1]; exact h
  have k2 : (tjoin t u).k = u.k := by rw [← e2]; exact h
  rw [tjoin_k, len_ct] at k1 k2
  have g1 : t.g - u.l.length = 0 := by omega
  have g2 : t.l.length - u.g = 0 := by omega
  have x1 : tjoin u t = ⟨u.g, u.k, tp t.k (ct t.g u.l) ++ t.l⟩ := by
    unfold tjoin
    rw [tidy_eq (by rw [len_ct]; omega)]
    have e3 : min (u.k - (t.g - u.l.length)) (t.k - (ct t.g u.l).length) = u.k := by rw [len_ct]; exact k1
    rw [e3, g1, Nat.add_zero]
  have x2 : (tjoin t u).l = u.l := by
    unfold tjoin
    rw [tidy_eq (by rw [len_ct]; omega)]
    have e3 : ct u.g t.l = [] := ct_all (by omega)
    show tp u.k (ct u.g t.l) ++ u.l = u.l
    rw [e3]
    simp [tp]
  have x3 : tp t.k (ct t.g u.l) ++ t.l = u.l := by
    have e4 : tjoin u t = tjoin t u := e1.symm.trans e2
    rw [← e4, x1] at x2
    exact x2
  rw [e1, x1, x3]
theorem tpw_low {room many : Nat} {t : Tr} (a : TrOk room many t) (hr : 1 ≤ room) : ∀ n, 1 ≤ n → tpw room t (n + 1) = tpw room t n ∨ (tpw room t n).k + n ≤ room
  | 0, h => absurd h (by omega)
  | 1, _ => by
    by_cases h : t.k = room
    · refine .inl ?_
      have hg : t.g = 0 := by have := a.gk; omega
      have hl : t.l = [] := List.length_eq_zero_iff.mp (by have := a.kl; omega)
      have e : t = tunt room := by
        cases t
        simp only at h hg hl
        subst h hg hl
        rfl
      show tjoin (tpw room t 1) t = tpw room t 1
      rw [tpw_one a]
      have e5 : tjoin (tunt room) t = t := tunt_left a
      rw [← e] at e5
      exact e5
    · refine .inr ?_
      rw [tpw_one a]
      have := a.gk
      omega
  | n + 2, _ => by
    rcases tpw_low a hr (n + 1) (by omega) with h | h
    · refine .inl ?_
      show tjoin (tpw room t (n + 2)) t = tpw room t (n + 2)
      have h' : tpw room t (n + 2) = tpw room t (n + 1) := h
      rw [h']
      exact h'
    · have hle := tpw_k_le a (n + 1)
      have hle' : (tpw room t (n + 2)).k ≤ (tpw room t (n + 1)).k := hle
      by_cases h0 : (tpw room t (n + 1)).k = 0
      · refine .inl ?_
        have c1 : tpw room t (n + 2) = tpw room t (n + 1) := by
          rw [tpw_comm a (n + 1)]
          exact tjoin_const a (tpw_ok a _) h0
        show tjoin (tpw room t (n + 2)) t = tpw room t (n + 2)
        rw [c1]
        exact c1
      · by_cases h1 : (tpw room t (n + 2)).k = (tpw room t (n + 1)).k
        · refine .inl ?_
          have c1 : tpw room t (n + 2) = tpw room t (n + 1) := tpw_same a h1 h0
          show tjoin (tpw room t (n + 2)) t = tpw room t (n + 2)
          rw [c1]
          exact c1
        · exact .inr (by omega)
theorem tpw_next {room many : Nat} {t : Tr} (a : TrOk room many t) (hr : 1 ≤ room) {n : Nat} (h : room ≤ n) : tpw room t (n + 1) = tpw room t n := by
  rcases tpw_low a hr n (by omega) with e | e
  · exact e
  · rw [tpw_comm a n]
    exact tjoin_const a (tpw_ok a _) (by omega)
/-- from as many as there's room on -/
theorem tpw_far {room many : Nat} {t : Tr} (a : TrOk room many t) (hr : 1 ≤ room) : ∀ m, tpw room t (room + m) = tpw room t room
  | 0 => rfl
  | m + 1 => by
    have e := tpw_next a hr (n := room + m) (by omega)
    rw [tpw_far a hr m] at e
    exact e
theorem tpw_mul {room many : Nat} {t : Tr} (a : TrOk room many t) (m : Nat) : ∀ n, tpw room (tpw room t m) n = tpw room t (m * n)
  | 0 => rfl
  | n + 1 => by
    show tjoin (tpw room (tpw room t m) n) (tpw room t m) = _
    rw [tpw_mul a m n, Nat.mul_succ, tpw_add a]
end SK
namespace SK
open PySem PySem.Spec PyProof.Rows L2
/-! ### triples compared -/
def trD (t : Tr) : PyData := .tuple [.int t.g, .int t.k, .str (tx t.l)]
theorem dp_trip {K : PySem.W.Frag} {H : Hp} {v : V} {t : Tr} (h : TripAt H v t) : Dp K H v (trD t) := by
  obtain ⟨a, rfl, ha⟩ := h
  exact .tup (SqT.of ha) (.cons (.int _) (.cons (.int _) (.cons (.str _) .nil)))
theorem signs_lt {many c : Nat} (h : c ∈ signs many) : c < 1114112 := by
  have h4 := List.mem_of_mem_take (show c ∈ List.take many [97, 98, 99, 100] from h)
  have : c = 97 ∨ c = 98 ∨ c = 99 ∨ c = 100 := by simpa using h4
  omega
theorem strOk_tx {l : List Nat} (h : ∀ c ∈ l, c < 1114112) : PyData.strOk (tx l) = true := by
  show l.toArray.all (· < 0x110000) = true
  rw [Array.all_eq_true']
  intro c hc
  exact decide_eq_true (h c (by simpa using hc))
theorem trD_can {room many : Nat} {t : Tr} (a : TrOk room many t) : PyData.canLay0 (trD t) = true := by
  show (true && (true && (PyData.strOk (tx t.l) && true))) = true
  rw [strOk_tx fun c hc => signs_lt (a.s c hc)]
  rfl
theorem trD_shaped {room many : Nat} {t : Tr} (a : TrOk room many t) : SeqAt.shaped (trD t) = true := by
  show (PyData.canLay0 (trD t) && decide (PyData.depth (trD t) ≤ 64)) = true
  rw [trD_can a]
  rfl
theorem trD_eqv {room many : Nat} {t : Tr} (a : TrOk room many t) : PyData.eqv (trD t) (trD t) = true := SeqAt.eqv_refl _ (trD_can a)
/-- t != u of the same triple -/
theorem ne_trip {K : PySem.W.Frag} {H : Hp} {Q : VK} {v u : V} {room many : Nat} {t : Tr} (a : TrOk room many t) (hv : TripAt H v t) (hu : TripAt H u t) (q : Q (.bl false) H) : rNeD K v u H Q := by
  refine ⟨trD t, trD t, dp_trip hv, dp_trip hu, trD_shaped a, trD_shaped a, ?_⟩
  rw [trD_eqv a]
  exact q
def spTimes : Sp := fun vs H Q _ => ∃ n : Nat, vs = [.int (n : Int)] ∧ n ≤ 1000000000000000000 ∧ giv .non H Q
def spJoined : Sp := fun vs H Q _ => ∃ v p a b t u, vs = [v, a, b] ∧ PlanAt H v p ∧ p.Ok ∧ TripAt H a t ∧ TrOk p.room p.many t ∧ TripAt H b u ∧ TrOk p.room p.many u ∧ givT (tjoin t u) H Q
end SK
namespace SK
open PySem PySem.Spec PyProof.Rows L2
/-! ### the least stack that parts two triples -/
theorem tp_min {k j : Nat} {l : List Nat} (h : min k l.length = min j l.length) : tp k l = tp j l := by
  unfold tp
  congr 1
  omega
theorem same_upto {room many : Nat} {t u : Tr} (a : TrOk room many t) (b : TrOk room many u) {c : Nat} (st : List Nat) (h : ∀ s, s ≤ st.length → tby t (List.replicate s c) = tby u (List.replicate s c)) : tby t st = tby u st := by
  have h0 := h 0 (Nat.zero_le _)
  have hl : t.l = u.l := by
    simp only [tby, List.replicate_zero, ct, tp, List.length_nil, List.take_nil, List.drop_nil, List.nil_append] at h0
    exact h0
  have hn : ∀ s, s ≤ st.length → min t.k (s - t.g) = min u.k (s - u.g) := fun s hs => by
    have e := congrArg List.length (h s hs)
    rw [len_tby, len_tby, List.length_replicate, hl] at e
    omega
  have hv := hn st.length (Nat.le_refl _)
  simp only [tby]
  rw [hl]
  congr 1
  by_cases z : min t.k (st.length - t.g) = 0
  · have e1 : tp t.k (ct t.g st) = [] := List.length_eq_zero_iff.mp (by rw [len_tp, len_ct]; exact z)
    have e2 : tp u.k (ct u.g st) = [] := List.length_eq_zero_iff.mp (by rw [len_tp, len_ct]; omega)
    rw [e1, e2]
  · have x1 := hn (t.g + 1) (by omega)
    have x2 := hn (u.g + 1) (by omega)
    have hg : t.g = u.g := by omega
    rw [hg]
    refine tp_min ?_
    rw [len_ct]
    rw [hg] at hv
    exact hv
theorem rep_lay {many : Nat} (hm : 97 ∈ signs many) : ∀ n, ∃ r, lay many n = List.replicate n 97 :: r
  | 0 => ⟨[], rfl⟩
  | n + 1 => by
    obtain ⟨r, e⟩ := rep_lay hm n
    have hs : ∃ s, signs many = 97 :: s := by
      cases many with
      | zero => simp [signs] at hm
      | succ m => exact ⟨_, List.take_succ_cons ..⟩
    obtain ⟨s, es⟩ := hs
    refine ⟨(s.map fun c => List.replicate n 97 ++ [c]) ++ r.flatMap fun l => (signs many).map fun c => l ++ [c], ?_⟩
    show (lay many n).flatMap (fun l => (signs many).map fun c => l ++ [c]) = _
    rw [e, List.flatMap_cons, es, List.map_cons, List.cons_append, List.replicate_succ']
theorem rep_stk {many : Nat} (hm : 97 ∈ signs many) : ∀ {n s : Nat}, s ≤ n → List.replicate s 97 ∈ stk many n
  | 0, s, h => by
    have e : s = 0 := by omega
    subst e
    exact List.mem_singleton.mpr rfl
  | n + 1, s, h => by
    by_cases e : s = n + 1
    · subst e
      obtain ⟨r, er⟩ := rep_lay hm (n + 1)
      refine List.mem_append.mpr (.inr ?_)
      rw [er]
      exact List.mem_cons_self ..
    · exact List.mem_append.mpr (.inl (rep_stk hm (by omega)))
/-- the stacks ahead of the least of a size -/
theorem stk_split {many : Nat} (hm : 97 ∈ signs many) : ∀ {n s : Nat}, s ≤ n → ∃ a b, stk many n = a ++ List.replicate s 97 :: b ∧ ∀ x ∈ a, x.length < s
  | 0, s, h => by
    have e : s = 0 := by omega
    subst e
    exact ⟨[], [], rfl, fun x hx => by simp at hx⟩
  | n + 1, s, h => by
    by_cases e : s = n + 1
    · subst e
      obtain ⟨r, er⟩ := rep_lay hm (n + 1)
      refine ⟨stk many n, r, ?_, fun x hx => Nat.lt_succ_of_le (stk_mem hx).1⟩
      show stk many n ++ lay many (n + 1) = _
      rw [er]
    · obtain ⟨a, b, e1, e2⟩ := stk_split hm (n := n) (s := s) (by omega)
      refine ⟨a, b ++ lay many (n + 1), ?_, e2⟩
      show stk many n ++ lay many (n + 1) = _
      rw [e1]
      simp
def Unl (t u : Tr) (st : List Nat) : Bool := decide (tby t st ≠ tby u st)
theorem unl_first {room many : Nat} {t u : Tr} (a : TrOk room many t) (b : TrOk room many u) (hm : 97 ∈ signs many) {s : Nat} (hs : s ≤ room) (h1 : tby t (List.replicate s 97) ≠ tby u (List.replicate s 97))
    (h2 : ∀ s', s' < s → tby t (List.replicate s' 97) = tby u (List.replicate s' 97)) : ∃ r, (stk many room).filter (Unl t u) = List.replicate s 97 :: r := by
  obtain ⟨x, y, e1, e2⟩ := stk_split hm hs
  refine ⟨y.filter (Unl t u), ?_⟩
  rw [e1, List.filter_append]
  have e3 : x.filter (Unl t u) = [] := by
    rw [List.filter_eq_nil_iff]
    intro st hst
    have e4 := same_upto a b (c := 97) st fun s' hs' => h2 s' (by have := e2 st hst; omega)
    simp [Unl, e4]
  rw [e3, List.nil_append, List.filter_cons_of_pos]
  exact decide_eq_true h1
theorem unl_none {room many : Nat} {t u : Tr} (a : TrOk room many t) (b : TrOk room many u) (h : ∀ s, s ≤ room → tby t (List.replicate s 97) = tby u (List.replicate s 97)) : t = u := tr_ext (c := 97) a b h
theorem unl_nil {room many : Nat} {t u : Tr} (a : TrOk room many t) (b : TrOk room many u) (hm : 97 ∈ signs many) : (stk many room).filter (Unl t u) = [] ↔ t = u := by
  constructor
  · intro h
    refine tr_ext (c := 97) a b fun s hs => ?_
    by_cases e : tby t (List.replicate s 97) = tby u (List.replicate s 97)
    · exact e
    · have h2 := List.filter_eq_nil_iff.mp h _ (rep_stk hm hs)
      exact absurd (decide_eq_true e) h2
  · intro h
    subst h
    rw [List.filter_eq_nil_iff]
    intro st _
    simp [Unl]
/-! ### values compared -/
theorem eqv_trD {t u : Tr} : PyData.eqv (trD t) (trD u) = true ↔ t = u := by
  have e : PyData.eqv (trD t) (trD u) = (((t.g : Int) == (u.g : Int)) && (((t.k : Int) == (u.k : Int)) && ((tx t.l == tx u.l) && true))) := by
    simp [trD, PyData.eqv, PyData.eqvAll]
  rw [e]
  constructor
  · intro h
    simp only [Bool.and_eq_true, beq_iff_eq, Bool.and_true] at h
    obtain ⟨h1, h2, h3⟩ := h
    have h4 := str_inj.mp h3
    cases t
    cases u
    simp only at h1 h2 h4
    have h1' := Int.ofNat.inj h1
    have h2' := Int.ofNat.inj h2
    subst h1' h2' h4
    rfl
  · intro h
    subst h
    simp
theorem dpTx {K : PySem.W.Frag} {H : Hp} : ∀ ls : List (List Nat), DpAll K H (ls.map fun l => V.str (tx l)) (ls.map fun l => PyData.str (tx l))
  | [] => .nil
  | l :: r => .cons (.str _) (dpTx r)
theorem shTx : ∀ ls : List (List Nat), (∀ l ∈ ls, ∀ c ∈ l, c < 1114112) → SeqAt.shaped (.list (ls.map fun l => PyData.str (tx l))) = true := fun ls h => by
  have h1 : ∀ ls : List (List Nat), (∀ l ∈ ls, ∀ c ∈ l, c < 1114112) → PyData.canLayAll0 (ls.map fun l => PyData.str (tx l)) = true := fun ls h => by
    induction ls with
    | nil => rfl
    | cons l r ih =>
      show (PyData.strOk (tx l) && PyData.canLayAll0 (r.map _)) = true
      rw [strOk_tx (h l (List.mem_cons_self ..)), ih fun x hx => h x (List.mem_cons_of_mem _ hx)]
      rfl
  have h2 : ∀ ls : List (List Nat), PyData.depthAll (ls.map fun l => PyData.str (tx l)) = 0 := fun ls => by
    induction ls with
    | nil => rfl
    | cons l r ih =>
      show max 0 (PyData.depthAll (r.map _)) = 0
      rw [ih]
      rfl
  show (PyData.canLayAll0 _ && decide (PyData.depthAll _ + 1 ≤ 64)) = true
  rw [h1 ls h, h2]
  rfl
theorem eqNil {ls : List (List Nat)} : PyData.eqv (.list (ls.map fun l => PyData.str (tx l))) (.list []) = decide (ls = []) := by
  cases ls with
  | nil => rfl
  | cons l r =>
    show PyData.eqvAll _ _ = _
    simp [PyData.eqvAll]
/-- a list of texts == [] -/
theorem eq_nil {K : PySem.W.Frag} {H : Hp} {Q : VK} {a b : Addr} {ls : List (List Nat)} (ha : H a = some (.lst (ls.map fun l => V.str (tx l)))) (hb : H b = some (.lst [])) (hc : ∀ l ∈ ls, ∀ c ∈ l, c < 1114112) (q : Q (.bl (decide (ls = []))) H) : rEqD K (.ref a) (.ref b) H Q := by
  refine ⟨_, .list [], .lst (SqL.of ha) (dpTx ls), .lst (SqL.of hb) .nil, shTx ls hc, rfl, ?_⟩
  rw [eqNil]
  exact q
theorem ne_nil {K : PySem.W.Frag} {H : Hp} {Q : VK} {a b : Addr} {ls : List (List Nat)} (ha : H a = some (.lst (ls.map fun l => V.str (tx l)))) (hb : H b = some (.lst [])) (hc : ∀ l ∈ ls, ∀ c ∈ l, c < 1114112) (q : Q (.bl (!decide (ls = []))) H) : rNeD K (.ref a) (.ref b) H Q := by
  refine ⟨_, .list [], .lst (SqL.of ha) (dpTx ls), .lst (SqL.of hb) .nil, shTx ls hc, rfl, ?_⟩
  rw [eqNil]
  exact q
theorem eq_trip {K : PySem.W.Frag} {H : Hp} {Q : VK} {v u : V} {room many : Nat} {t s : Tr} (a : TrOk room many t) (b : TrOk room many s) (hv : TripAt H v t) (hu : TripAt H u s) (q : ∀ k : Bool, (k = true ↔ t = s) → Q (.bl k) H) : rEqD K v u H Q :=
  ⟨trD t, trD s, dp_trip hv, dp_trip hu, trD_shaped a, trD_shaped b, q _ eqv_trD⟩
/-! ### promises -/
def spAlikeW : Sp := fun vs H Q _ => ∃ v p a b t u, vs = [v, a, b] ∧ PlanAt H v p ∧ p.Ok ∧ WAt H t a ∧ WOk p.many t ∧ WAt H u b ∧ WOk p.many u ∧ ∀ (k : Bool) (H' : Hp), Same H H' → (k = true ↔ t.tri p.room = u.tri p.room) → Q (.bl k) H'
def spParting : Sp := fun vs H Q _ => ∃ v p a b t u, vs = [v, a, b] ∧ PlanAt H v p ∧ p.Ok ∧ WAt H t a ∧ WOk p.many t ∧ WAt H u b ∧ WOk p.many u ∧
  (∀ (s : Nat) (H' : Hp), Same H H' → s ≤ p.room → tby (t.tri p.room) (List.replicate s 97) ≠ tby (u.tri p.room) (List.replicate s 97) → (∀ s', s' < s → tby (t.tri p.room) (List.replicate s' 97) = tby (u.tri p.room) (List.replicate s' 97)) → Q (.str (tx (List.replicate s 97))) H') ∧
  (∀ H', Same H H' → (∀ s, s ≤ p.room → tby (t.tri p.room) (List.replicate s 97) = tby (u.tri p.room) (List.replicate s 97)) → Q .non H')
def asWork (s : List Nat) : List W := s.map fun c => if c = 45 then .pop else .push c
def spAsWork : Sp := fun vs H Q _ => ∃ l, vs = [.str (tx l)] ∧ l.length ≤ 40 ∧ ∀ (u : V) (H' : Hp), Same H H' → WAt H' (.row (ofL (asWork l))) u → Q u H'
end SK
/-! what comes ahead of a stack: the mathematics of row 7 -/
namespace SK
/-! ### all texts of one size, in turn -/
theorem lay_add (many a : Nat) : ∀ b, lay many (a + b) = (lay many a).flatMap fun x => (lay many b).map fun y => x ++ y
  | 0 => by
    show lay many a = (lay many a).flatMap fun x => [x ++ []]
    have e : (fun x : List Nat => [x ++ []]) = fun x => [x] := funext fun x => by rw [List.append_nil]
    rw [e]
    induction lay many a with
    | nil => rfl
    | cons x r ih => rw [List.flatMap_cons, ← ih]; rfl
  | b + 1 => by
    show (lay many (a + b)).flatMap (fun l => (signs many).map fun c => l ++ [c]) = _
    rw [lay_add many a b, List.flatMap_assoc]
    refine congrArg (fun f => (lay many a).flatMap f) (funext fun x => ?_)
    show _ = (((lay many b).flatMap fun l => (signs many).map fun c => l ++ [c])).map fun y => x ++ y
    rw [List.map_flatMap, List.flatMap_map]
    refine congrArg (fun f => (lay many b).flatMap f) (funext fun y => ?_)
    rw [List.map_map]
    refine congrArg (fun f => (signs many).map f) (funext fun c => ?_)
    show x ++ y ++ [c] = x ++ (y ++ [c])
    rw [List.append_assoc]
theorem lex_snoc {x y : List Nat} (h : x < y) (hl : x.length = y.length) (c d : Nat) : x ++ [c] < y ++ [d] := by
  induction x generalizing y with
  | nil =>
    cases y with
    | nil => exact absurd h (List.lt_irrefl _)
    | cons b y => cases hl
  | cons a x ih =>
    cases y with
    | nil => cases hl
    | cons b y =>
      rcases List.cons_lt_cons_iff.mp h with h1 | ⟨h1, h2⟩
      · exact List.cons_lt_cons_iff.mpr (.inl h1)
      · exact List.cons_lt_cons_iff.mpr (.inr ⟨h1, ih h2 (Nat.succ.inj hl)⟩)
theorem lex_last {x : List Nat} {c d : Nat} (h : c < d) : x ++ [c] < x ++ [d] := by
  induction x with
  | nil => exact List.cons_lt_cons_iff.mpr (.inl h)
  | cons a x ih => exact List.cons_lt_cons_iff.mpr (.inr ⟨rfl, ih⟩)
theorem signs_up (many : Nat) : (signs many).Pairwise (· < ·) := by
  unfold signs
  exact List.Pairwise.sublist (List.take_sublist _ _) (by decide)
theorem lay_up (many : Nat) : ∀ n, (lay many n).Pairwise (· < ·)
  | 0 => List.pairwise_singleton _ _
  | n + 1 => by
    show ((lay many n).flatMap fun l => (signs many).map fun c => l ++ [c]).Pairwise _
    rw [List.pairwise_flatMap]
    refine ⟨fun l _ => ?_, ?_⟩
    · rw [List.pairwise_map]
      exact (signs_up many).imp fun h => lex_last h
    · refine (List.Pairwise.and_mem.mp (lay_up many n)).imp fun {x y} h => ?_
      intro u hu v hv
      obtain ⟨c, _, rfl⟩ := List.mem_map.mp hu
      obtain ⟨d, _, rfl⟩ := List.mem_map.mp hv
      exact lex_snoc h.2.2 ((lay_mem h.1).1.trans (lay_mem h.2.1).1.symm) c d
theorem mem_lay {many : Nat} : ∀ {n : Nat} {l : List Nat}, l.length = n → (∀ c ∈ l, c ∈ signs many) → l ∈ lay many n
  | 0, l, h, _ => by
    have e := List.length_eq_zero_iff.mp h
    subst e
    exact List.mem_singleton.mpr rfl
  | n + 1, l, h, hs => by
    have hne : l ≠ [] := fun z => by
      subst z
      cases h
    show l ∈ (lay many n).flatMap fun l => (signs many).map fun c => l ++ [c]
    refine List.mem_flatMap.mpr ⟨l.dropLast, mem_lay (by rw [List.length_dropLast, h]; rfl) (fun c hc => hs c (List.dropLast_subset l hc)), ?_⟩
    refine List.mem_map.mpr ⟨l.getLast hne, hs _ (List.getLast_mem hne), List.dropLast_concat_getLast hne⟩
theorem mem_stk {many : Nat} : ∀ {n : Nat} {l : List Nat}, l.length ≤ n → (∀ c ∈ l, c ∈ signs many) → l ∈ stk many n
  | 0, l, h, hs => mem_lay (Nat.le_zero.mp h) hs
  | n + 1, l, h, hs => by
    show l ∈ stk many n ++ lay many (n + 1)
    by_cases h1 : l.length = n + 1
    · exact List.mem_append_right _ (mem_lay h1 hs)
    · exact List.mem_append_left _ (mem_stk (by omega) hs)
/-- by size, then as texts rise -/
def Bef (x y : List Nat) : Prop := x.length < y.length ∨ (x.length = y.length ∧ x < y)
theorem stk_up (many : Nat) : ∀ n, (stk many n).Pairwise Bef
  | 0 => List.pairwise_singleton _ _
  | n + 1 => by
    show (stk many n ++ lay many (n + 1)).Pairwise _
    rw [List.pairwise_append]
    refine ⟨stk_up many n, ?_, fun x hx y hy => .inl ?_⟩
    · exact (List.Pairwise.and_mem.mp (lay_up many (n + 1))).imp fun {x y} h => .inr ⟨(lay_mem h.1).1.trans (lay_mem h.2.1).1.symm, h.2.2⟩
    · have := (stk_mem hx).1
      have := (lay_mem hy).1
      omega
theorem filter_one {α : Type} {R : α → α → Prop} (irr : ∀ x, ¬ R x x) (p : α → Bool) {u : α} (hp : ∀ x, p x = true ↔ x = u) : ∀ {l : List α}, l.Pairwise R → u ∈ l → l.filter p = [u]
  | [], _, h => by cases h
  | x :: r, hw, h => by
    obtain ⟨h1, h2⟩ := List.pairwise_cons.mp hw
    by_cases hx : x = u
    · subst hx
      rw [List.filter_cons_of_pos ((hp x).mpr rfl)]
      have e : r.filter p = [] := List.filter_eq_nil_iff.mpr fun y hy hpy => by
        have := (hp y).mp hpy
        subst this
        exact irr _ (h1 _ hy)
      rw [e]
    · rw [List.filter_cons_of_neg (fun z => hx ((hp x).mp z))]
      rcases List.mem_cons.mp h with h | h
      · exact absurd h.symm hx
      · exact filter_one irr p hp h2 h
theorem lay_first (many : Nat) (h : 1 ≤ many) : ∀ n, (lay many n).head? = some (List.replicate n 97)
  | 0 => rfl
  | n + 1 => by
    have ih := lay_first many h n
    show ((lay many n).flatMap fun l => (signs many).map fun c => l ++ [c]).head? = _
    cases e : lay many n with
    | nil =>
      rw [e] at ih
      cases ih
    | cons x r =>
      rw [e] at ih
      have ex : x = List.replicate n 97 := Option.some.inj ih
      subst ex
      have es : ∃ r2, signs many = 97 :: r2 := by
        obtain ⟨m, rfl⟩ : ∃ m, many = m + 1 := ⟨many - 1, by omega⟩
        exact ⟨_, rfl⟩
      obtain ⟨r2, es⟩ := es
      rw [List.flatMap_cons, es, List.map_cons, List.cons_append, List.head?_cons, ← List.replicate_succ']
/-! ### how many -/
def tupto (many : Nat) : Nat → Nat
  | 0 => 1
  | n + 1 => tupto many n + many ^ (n + 1)
theorem signs_l {many : Nat} (h : many ≤ 4) : (signs many).length = many := by
  unfold signs
  rw [List.length_take]
  exact Nat.min_eq_left h
theorem lay_l {many : Nat} (h : many ≤ 4) (n : Nat) : (lay many n).length = many ^ n := by rw [lay_len, signs_l h]
theorem stk_l {many : Nat} (h : many ≤ 4) : ∀ n, (stk many n).length = tupto many n
  | 0 => rfl
  | n + 1 => by
    show (stk many n ++ lay many (n + 1)).length = _
    rw [List.length_append, stk_l h n, lay_l h]
    rfl
/-- the stacks that become this one -/
def bef (room many : Nat) (t : Tr) (s : List Nat) : List (List Nat) := (stk many room).filter fun x => decide (tby t x = s)
def bleft (room many g k u : Nat) : Nat := if k = 0 then tupto many room else if u = 0 then tupto many g else if u < k then many ^ g else many ^ g * tupto many (room - k - g)
def bfirst (g : Nat) (u : List Nat) : List Nat := if u = [] then [] else u ++ List.replicate g 97
theorem tby_iff {t : Tr} {u x : List Nat} : tby t x = u ++ t.l ↔ tp t.k (ct t.g x) = u := by
  unfold tby
  exact List.append_left_inj _
/-- parts of the stacks, size by size -/
theorem stk_filter_const {many : Nat} (p : List Nat → Bool) {c : Nat} {F : List (List Nat)} (h : ∀ m, m ≠ c → (lay many m).filter p = []) (hc : (lay many c).filter p = F) : ∀ n, (stk many n).filter p = if c ≤ n then F else []
  | 0 => by
    show (lay many 0).filter p = _
    by_cases h0 : c = 0
    · subst h0
      rw [if_pos (Nat.le_refl _)]
      exact hc
    · rw [if_neg (by omega)]
      exact h 0 (by omega)
  | n + 1 => by
    show (stk many n ++ lay many (n + 1)).filter p = _
    rw [List.filter_append, stk_filter_const p h hc n]
    by_cases h1 : c = n + 1
    · subst h1
      rw [if_neg (by omega), if_pos (Nat.le_refl _), List.nil_append, hc]
    · rw [h _ (fun z => h1 z.symm), List.append_nil]
      by_cases h2 : c ≤ n
      · rw [if_pos h2, if_pos (by omega)]
      · rw [if_neg h2, if_neg (by omega)]
theorem lay_filter_app {many : Nat} (p : List Nat → Bool) (a b : Nat) : (lay many (a + b)).filter p = (lay many a).flatMap fun x => ((lay many b).map fun y => x ++ y).filter p := by
  rw [lay_add, List.filter_flatMap]
theorem tp_nil_iff {k : Nat} (h : 0 < k) {x : List Nat} : tp k x = [] ↔ x = [] := by
  constructor
  · intro e
    have := congrArg List.length e
    rw [len_tp, List.length_nil] at this
    exact List.length_eq_zero_iff.mp (by omega)
  · intro e
    subst e
    exact tp_all (Nat.zero_le _)
theorem ct_nil_iff {g : Nat} {x : List Nat} : ct g x = [] ↔ x.length ≤ g := by
  constructor
  · intro e
    have := congrArg List.length e
    rw [len_ct] at this
    simp at this
    omega
  · exact ct_all
theorem ct_app_eq {g : Nat} {x y : List Nat} (h : y.length = g) : ct g (x ++ y) = x := by
  rw [ct_app_ge (by omega), h, Nat.sub_self, ct_zero]
theorem filter_all {α : Type} (p : α → Bool) (l : List α) (h : ∀ x ∈ l, p x = true) : l.filter p = l := List.filter_eq_self.mpr h
theorem filter_none {α : Type} (p : α → Bool) (l : List α) (h : ∀ x ∈ l, ¬ p x = true) : l.filter p = [] := List.filter_eq_nil_iff.mpr h
theorem flatMap_pick {α β : Type} (f : α → List β) (g : α → List β) : ∀ (l : List α), (∀ x ∈ l, f x = g x) → l.flatMap f = l.flatMap g
  | [], _ => rfl
  | x :: r, h => by
    rw [List.flatMap_cons, List.flatMap_cons, h x (List.mem_cons_self ..), flatMap_pick f g r fun y hy => h y (List.mem_cons_of_mem _ hy)]
theorem flatMap_if {α β : Type} (p : α → Bool) (g : α → List β) : ∀ (l : List α), (l.flatMap fun x => if p x = true then g x else []) = (l.filter p).flatMap g
  | [] => rfl
  | x :: r => by
    rw [List.flatMap_cons, flatMap_if p g r]
    by_cases h : p x = true
    · rw [if_pos h, List.filter_cons_of_pos h, List.flatMap_cons]
    · rw [if_neg h, List.filter_cons_of_neg h, List.nil_append]
theorem stk_filter_le {many : Nat} (g : Nat) (p : List Nat → Bool) (hp : ∀ x, p x = true ↔ x.length ≤ g) : ∀ n, (stk many n).filter p = stk many (min n g)
  | 0 => by
    show (lay many 0).filter p = _
    rw [Nat.zero_min]
    exact filter_all p _ fun x hx => (hp x).mpr (by have := (lay_mem hx).1; omega)
  | n + 1 => by
    show (stk many n ++ lay many (n + 1)).filter p = _
    rw [List.filter_append, stk_filter_le g p hp n]
    by_cases h : n + 1 ≤ g
    · rw [filter_all p (lay many (n + 1)) fun x hx => (hp x).mpr (by have := (lay_mem hx).1; omega), Nat.min_eq_left h, Nat.min_eq_left (by omega)]
      rfl
    · rw [filter_none p (lay many (n + 1)) fun x hx z => h (by have := (hp x).mp z; have := (lay_mem hx).1; omega), List.append_nil]
      congr 1
      omega
theorem stk_first (many : Nat) : ∀ n, (stk many n).head? = some []
  | 0 => rfl
  | n + 1 => by
    show (stk many n ++ lay many (n + 1)).head? = _
    rw [List.head?_append, stk_first many n]
    rfl
/-- where as many stay as can -/
theorem stk_filter_deep {many g : Nat} (hm : many ≤ 4) (h1 : 1 ≤ many) {u : List Nat} (u0 : u.length ≠ 0) (p : List Nat → Bool) (hu : ∀ c ∈ u, c ∈ signs many) (hp : ∀ x, p x = true ↔ tp u.length (ct g x) = u) : ∀ n,
    ((stk many n).filter p).length = (if n < u.length + g then 0 else many ^ g * tupto many (n - (u.length + g))) ∧ ((stk many n).filter p).head? = if n < u.length + g then none else some (u ++ List.replicate g 97) := by
  have hlow : ∀ m, m < u.length + g → (lay many m).filter p = [] := fun m hm => filter_none _ _ fun x hx z => by
    have e := congrArg List.length ((hp x).mp z)
    rw [len_tp, len_ct] at e
    have := (lay_mem hx).1
    omega
  have hat : ∀ j, (lay many (j + u.length + g)).filter p = (lay many j).flatMap fun w => (lay many g).map fun v => w ++ u ++ v := fun j => by
    rw [lay_filter_app]
    have e1 : ((lay many (j + u.length)).flatMap fun x => ((lay many g).map fun y => x ++ y).filter p) = (lay many (j + u.length)).flatMap fun x => if decide (tp u.length x = u) = true then (lay many g).map fun y => x ++ y else [] :=
      flatMap_pick _ _ _ fun x hx => by
        by_cases h : tp u.length x = u
        · rw [if_pos (decide_eq_true h)]
          refine filter_all _ _ fun z hz => ?_
          obtain ⟨y, hy, rfl⟩ := List.mem_map.mp hz
          exact (hp _).mpr (by rw [ct_app_eq (lay_mem hy).1]; exact h)
        · rw [if_neg (fun z => h (of_decide_eq_true z))]
          refine filter_none _ _ fun z hz hz2 => ?_
          obtain ⟨y, hy, rfl⟩ := List.mem_map.mp hz
          have := (hp _).mp hz2
          rw [ct_app_eq (lay_mem hy).1] at this
          exact h this
    rw [e1, flatMap_if (fun x => decide (tp u.length x = u)), lay_filter_app]
    have e2 : ((lay many j).flatMap fun x => ((lay many u.length).map fun y => x ++ y).filter fun x => decide (tp u.length x = u)) = (lay many j).flatMap fun x => [x ++ u] :=
      flatMap_pick _ _ _ fun x hx => by
        rw [List.filter_map]
        have e3 : (lay many u.length).filter ((fun x => decide (tp u.length x = u)) ∘ fun y => x ++ y) = (lay many u.length).filter fun y => decide (y = u) := List.filter_congr fun y hy => by
          have hy2 := (lay_mem hy).1
          show decide (tp u.length (x ++ y) = u) = decide (y = u)
          have e4 : tp u.length (x ++ y) = y := by
            rw [tp_app, hy2, Nat.sub_self, tp_zero, List.nil_append]
            exact tp_all (Nat.le_of_eq hy2)
          rw [e4]
        rw [e3, filter_one (R := (· < ·)) (fun x => List.lt_irrefl x) (fun y => decide (y = u)) (u := u) (fun x => decide_eq_true_iff) (lay_up many _) (mem_lay rfl hu)]
        rfl
    rw [e2, List.flatMap_assoc]
    exact flatMap_pick _ _ _ fun x hx => by simp
  have hlen : ∀ j, ((lay many (j + u.length + g)).filter p).length = many ^ j * many ^ g := fun j => by
    rw [hat]
    have : ∀ l : List (List Nat), (l.flatMap fun w => (lay many g).map fun v => w ++ u ++ v).length = l.length * many ^ g := fun l => by
      induction l with
      | nil => simp
      | cons w r ih => rw [List.flatMap_cons, List.length_append, ih, List.length_map, lay_l hm, List.length_cons, Nat.succ_mul, Nat.add_comm]
    rw [this, lay_l hm]
  intro n
  induction n with
  | zero =>
    show ((lay many 0).filter p).length = _ ∧ ((lay many 0).filter p).head? = _
    by_cases h : 0 < u.length + g
    · rw [hlow 0 h, if_pos h, if_pos h]
      exact ⟨rfl, rfl⟩
    · have e : u = [] := List.length_eq_zero_iff.mp (by omega)
      have e2 : g = 0 := by omega
      subst e e2
      rw [if_neg (by simp), if_neg (by simp)]
      have := hat 0
      simp only [List.length_nil, Nat.add_zero] at this
      rw [this]
      simp [lay, tupto]
  | succ n ih =>
    have e : (stk many (n + 1)).filter p = (stk many n).filter p ++ (lay many (n + 1)).filter p := by
      show (stk many n ++ lay many (n + 1)).filter p = _
      rw [List.filter_append]
    rw [e, List.length_append, List.head?_append, ih.1, ih.2]
    by_cases h : n + 1 < u.length + g
    · rw [if_pos h, if_pos h, if_pos (by omega), if_pos (by omega), hlow _ h]
      exact ⟨rfl, rfl⟩
    · rw [if_neg h, if_neg h]
      by_cases h2 : n < u.length + g
      · rw [if_pos h2, if_pos h2]
        have h3 : n + 1 = 0 + u.length + g := by omega
        rw [h3, hlen, hat]
        have e5 : 0 + u.length + g - (u.length + g) = 0 := by omega
        rw [e5]
        refine ⟨by simp [tupto], ?_⟩
        show (((lay many 0).flatMap fun w => (lay many g).map fun v => w ++ u ++ v)).head? = _
        show ((((lay many g).map fun v => [] ++ u ++ v)) ++ []).head? = _
        rw [List.append_nil, List.head?_map, lay_first many h1]
        simp
      · rw [if_neg h2, if_neg h2]
        have h3 : n + 1 = (n + 1 - (u.length + g)) + u.length + g := by omega
        have h4 : n + 1 - (u.length + g) = (n - (u.length + g)) + 1 := by omega
        have hl := hlen (n + 1 - (u.length + g))
        rw [← h3] at hl
        rw [hl, h4]
        refine ⟨?_, by simp⟩
        show _ = many ^ g * (tupto many (n - (u.length + g)) + many ^ (n - (u.length + g) + 1))
        rw [Nat.mul_add, Nat.mul_comm (many ^ (n - (u.length + g) + 1))]
theorem bef_is {room many : Nat} {t : Tr} (ok : TrOk room many t) (h1 : 1 ≤ many) (h4 : many ≤ 4) {u : List Nat} (hu : u.length ≤ t.k) (hs : ∀ c ∈ u, c ∈ signs many) :
    (bef room many t (u ++ t.l)).length = bleft room many t.g t.k u.length ∧ (bef room many t (u ++ t.l)).head? = some (bfirst t.g u) := by
  have gk := ok.gk
  have hz := ok.z
  unfold bef bleft
  have e0 : (stk many room).filter (fun x => decide (tby t x = u ++ t.l)) = (stk many room).filter (fun x => decide (tp t.k (ct t.g x) = u)) := List.filter_congr fun x _ => decide_eq_decide.mpr tby_iff
  rw [e0]
  by_cases k0 : t.k = 0
  · have eu : u = [] := List.length_eq_zero_iff.mp (by omega)
    subst eu
    rw [if_pos k0, filter_all _ _ fun x _ => decide_eq_true (by rw [k0, tp_zero]), stk_l h4, stk_first]
    exact ⟨rfl, rfl⟩
  · rw [if_neg k0]
    by_cases u0 : u.length = 0
    · have eu : u = [] := List.length_eq_zero_iff.mp u0
      subst eu
      rw [if_pos u0, stk_filter_le t.g _ (fun x => by rw [decide_eq_true_iff, tp_nil_iff (by omega), ct_nil_iff]), Nat.min_eq_right (by omega), stk_l h4, stk_first]
      exact ⟨rfl, rfl⟩
    · have une : u ≠ [] := fun z => u0 (by rw [z]; rfl)
      have ef : bfirst t.g u = u ++ List.replicate t.g 97 := by
        unfold bfirst
        rw [if_neg une]
      rw [if_neg u0, ef]
      by_cases uk : u.length < t.k
      · rw [if_pos uk]
        have hp : ∀ x : List Nat, tp t.k (ct t.g x) = u ↔ ct t.g x = u := fun x => by
          constructor
          · intro e
            have e2 := congrArg List.length e
            rw [len_tp] at e2
            rw [tp_all (by omega)] at e
            exact e
          · intro e
            rw [e]
            exact tp_all (by omega)
        have hF : ∀ m, m ≠ u.length + t.g → (lay many m).filter (fun x => decide (tp t.k (ct t.g x) = u)) = [] := fun m hm => filter_none _ _ fun x hx z => by
          have e := congrArg List.length ((hp x).mp (of_decide_eq_true z))
          rw [len_ct, (lay_mem hx).1] at e
          omega
        have hc : (lay many (u.length + t.g)).filter (fun x => decide (tp t.k (ct t.g x) = u)) = (lay many t.g).map fun v => u ++ v := by
          rw [lay_filter_app]
          have e1 : ((lay many u.length).flatMap fun x => ((lay many t.g).map fun y => x ++ y).filter fun x => decide (tp t.k (ct t.g x) = u)) = (lay many u.length).flatMap fun x => if decide (x = u) = true then (lay many t.g).map fun y => x ++ y else [] :=
            flatMap_pick _ _ _ fun x hx => by
              by_cases h : x = u
              · rw [if_pos (decide_eq_true h)]
                refine filter_all _ _ fun z hz => ?_
                obtain ⟨y, hy, rfl⟩ := List.mem_map.mp hz
                exact decide_eq_true ((hp _).mpr (by rw [ct_app_eq (lay_mem hy).1]; exact h))
              · rw [if_neg (fun z => h (of_decide_eq_true z))]
                refine filter_none _ _ fun z hz hz2 => ?_
                obtain ⟨y, hy, rfl⟩ := List.mem_map.mp hz
                have := (hp _).mp (of_decide_eq_true hz2)
                rw [ct_app_eq (lay_mem hy).1] at this
                exact h this
          rw [e1, flatMap_if (fun x => decide (x = u)), filter_one (R := (· < ·)) (fun x => List.lt_irrefl x) (fun y => decide (y = u)) (u := u) (fun x => decide_eq_true_iff) (lay_up many _) (mem_lay rfl hs)]
          simp
        rw [stk_filter_const _ hF hc room, if_pos (by omega), List.length_map, lay_l h4, List.head?_map, lay_first many h1]
        exact ⟨rfl, rfl⟩
      · have ek : t.k = u.length := by omega
        rw [if_neg uk]
        have d := stk_filter_deep (many := many) (g := t.g) h4 h1 u0 (fun x => decide (tp t.k (ct t.g x) = u)) hs (fun x => by rw [decide_eq_true_iff, ek]) room
        rw [if_neg (by omega), if_neg (by omega)] at d
        have e6 : room - (u.length + t.g) = room - t.k - t.g := by omega
        rw [e6] at d
        exact d
theorem bef_no {room many : Nat} {t : Tr} {s : List Nat} (h : ¬ ∃ u : List Nat, u.length ≤ t.k ∧ s = u ++ t.l) : bef room many t s = [] :=
  filter_none _ _ fun x _ z => h ⟨tp t.k (ct t.g x), by rw [len_tp]; exact Nat.min_le_left .., (of_decide_eq_true z).symm⟩
end SK
/-! the least price of steps that do what a triple does; the mathematics -/
namespace SK
structure Pay (many : Nat) (m q : Int) (f : Nat → Int) : Prop where
  f45 : f 45 = q
  lo : ∀ c ∈ signs many, m ≤ f c
  m0 : 0 ≤ m
  q0 : 0 ≤ q
/-- how many are filled where something is kept -/
def phi (room : Nat) (t : Tr) : Nat := room - t.k - max t.g t.l.length
def wprice (m q : Int) (f : Nat → Int) (l : List Nat) (w : Nat × Nat) : Int := (w.1 : Int) * q + (sprc f l + (w.2 : Int) * (m + q))
def ways (room : Nat) (t : Tr) : List (Nat × Nat) := if t.k = 0 then [(0, room - t.l.length), (room, 0)] else [(t.g, phi room t)]
/-- the least price -/
def LB (room : Nat) (m q : Int) (f : Nat → Int) (t : Tr) : Int := if t.k = 0 then min (wprice m q f t.l (0, room - t.l.length)) (wprice m q f t.l (room, 0)) else wprice m q f t.l (t.g, phi room t)
theorem mulr {a b : Nat} {z : Int} (h : a ≤ b) (hz : 0 ≤ z) : (a : Int) * z ≤ (b : Int) * z := Int.mul_le_mul_of_nonneg_right (Int.ofNat_le.mpr h) hz
theorem muls (a : Nat) (z : Int) : ((a + 1 : Nat) : Int) * z = (a : Int) * z + z := by
  rw [Int.natCast_succ, Int.add_mul, Int.one_mul]
theorem mul0 {a : Nat} {z : Int} (hz : 0 ≤ z) : 0 ≤ (a : Int) * z := Int.mul_nonneg (Int.natCast_nonneg a) hz
theorem sprc_nn {many : Nat} {m q : Int} {f : Nat → Int} (P : Pay many m q f) : ∀ {l : List Nat}, (∀ c ∈ l, c ∈ signs many) → 0 ≤ sprc f l
  | [], _ => by simp [sprc]
  | c :: r, h => by
    have h1 := sprc_nn P (l := r) fun d hd => h d (List.mem_cons_of_mem _ hd)
    have h2 := P.lo c (h c (List.mem_cons_self ..))
    have := P.m0
    have e : sprc f (c :: r) = f c + sprc f r := by simp [sprc]
    omega
theorem sprc_one (f : Nat → Int) (c : Nat) : sprc f [c] = f c := by simp [sprc]
theorem LB_nn {room many : Nat} {m q : Int} {f : Nat → Int} (P : Pay many m q f) {t : Tr} (a : TrOk room many t) : 0 ≤ LB room m q f t := by
  have h1 := sprc_nn P a.s
  have h2 := P.m0
  have h3 := P.q0
  have h4 : 0 ≤ m + q := by omega
  unfold LB wprice
  split
  · have e1 := mul0 (a := room - t.l.length) h4
    have e2 := mul0 (a := room) h3
    simp only
    omega
  · have e1 := mul0 (a := phi room t) h4
    have e2 := mul0 (a := t.g) h3
    simp only
    omega
theorem LB_of0 {room : Nat} {m q : Int} {f : Nat → Int} {t : Tr} (h : t.k = 0) : LB room m q f t = min ((sprc f t.l + ((room - t.l.length : Nat) : Int) * (m + q))) ((room : Int) * q + sprc f t.l) := by
  unfold LB wprice
  rw [if_pos h]
  simp
theorem LB_ofk {room : Nat} {m q : Int} {f : Nat → Int} {t : Tr} (h : t.k ≠ 0) : LB room m q f t = (t.g : Int) * q + (sprc f t.l + ((phi room t : Nat) : Int) * (m + q)) := by
  unfold LB wprice
  rw [if_neg h]
theorem ct_one_price {many : Nat} {m q : Int} {f : Nat → Int} (P : Pay many m q f) {l : List Nat} (hl : ∀ c ∈ l, c ∈ signs many) (h : l ≠ []) : sprc f (ct 1 l) + m ≤ sprc f l := by
  have e : ct 1 l ++ [l.getLast h] = l := by
    unfold ct
    rw [← List.dropLast_eq_take]
    exact List.dropLast_concat_getLast h
  have h2 : sprc f l = sprc f (ct 1 l) + f (l.getLast h) := by
    have := sprc_app f (ct 1 l) [l.getLast h]
    rw [e, sprc_one] at this
    exact this
  have := P.lo _ (hl _ (List.getLast_mem h))
  omega
theorem tp_price {many : Nat} {m q : Int} {f : Nat → Int} (P : Pay many m q f) {l : List Nat} (hl : ∀ c ∈ l, c ∈ signs many) (k : Nat) : sprc f (tp k l) ≤ sprc f l := by
  have e : l.take (l.length - k) ++ tp k l = l := List.take_append_drop ..
  have h2 : sprc f l = sprc f (l.take (l.length - k)) + sprc f (tp k l) := by
    have := sprc_app f (l.take (l.length - k)) (tp k l)
    rw [e] at this
    exact this
  have := sprc_nn P (l := l.take (l.length - k)) fun c hc => hl c (List.mem_of_mem_take hc)
  omega
theorem push_join {room many c : Nat} {t : Tr} (a : TrOk room many t) (hr : 1 ≤ room) : tjoin t ⟨0, room - 1, [c]⟩ = tidy t.g (min t.k (room - 1 - t.l.length)) (tp (room - 1) t.l ++ [c]) := by
  unfold tjoin
  simp only [Nat.zero_sub, Nat.add_zero, Nat.sub_zero, ct_zero]
theorem LB_push {room many : Nat} {m q : Int} {f : Nat → Int} (P : Pay many m q f) (hr : 1 ≤ room) {t : Tr} (a : TrOk room many t) {c : Nat} (hc : c ∈ signs many) : LB room m q f (tjoin t ⟨0, room - 1, [c]⟩) ≤ LB room m q f t + f c := by
  have hm := P.m0
  have hq := P.q0
  have hz : 0 ≤ m + q := by omega
  have gk := a.gk
  have kl := a.kl
  have hp := tp_price P a.s (room - 1)
  rw [push_join a hr]
  by_cases hk : t.k = 0
  · have e : tidy t.g (min t.k (room - 1 - t.l.length)) (tp (room - 1) t.l ++ [c]) = ⟨0, 0, tp (room - 1) t.l ++ [c]⟩ := by
      rw [hk, Nat.zero_min]
      rfl
    rw [e, LB_of0 rfl, LB_of0 hk]
    simp only [sprc_app, sprc_one]
    have hl : (tp (room - 1) t.l ++ [c]).length = min (room - 1) t.l.length + 1 := by rw [List.length_append, len_tp]; rfl
    rw [hl]
    have := mulr (a := room - (min (room - 1) t.l.length + 1)) (b := room - t.l.length) (by omega) hz
    omega
  · by_cases h1 : t.k + t.l.length < room
    · have e : tidy t.g (min t.k (room - 1 - t.l.length)) (tp (room - 1) t.l ++ [c]) = ⟨t.g, t.k, t.l ++ [c]⟩ := by
        rw [Nat.min_eq_left (by omega), tidy_eq hk, tp_all (by omega)]
      rw [e, LB_ofk hk, LB_ofk (t := ⟨t.g, t.k, t.l ++ [c]⟩) hk]
      simp only [sprc_app, sprc_one]
      have := mulr (a := phi room ⟨t.g, t.k, t.l ++ [c]⟩) (b := phi room t) (by unfold phi; simp only [List.length_append, List.length_singleton]; omega) hz
      omega
    · have e : tidy t.g (min t.k (room - 1 - t.l.length)) (tp (room - 1) t.l ++ [c]) = tidy t.g (t.k - 1) (t.l ++ [c]) := by
        rw [Nat.min_eq_right (by omega), tp_all (by omega)]
        congr 1
        omega
      rw [e, LB_ofk hk]
      have h0 := mul0 (a := phi room t) hz
      have h2 := mul0 (a := t.g) hq
      by_cases hk1 : t.k = 1
      · have e2 : tidy t.g (t.k - 1) (t.l ++ [c]) = ⟨0, 0, t.l ++ [c]⟩ := by
          rw [hk1]
          rfl
        rw [e2, LB_of0 rfl]
        simp only [sprc_app, sprc_one, List.length_append, List.length_singleton]
        have e3 : room - (t.l.length + 1) = 0 := by omega
        rw [e3]
        simp only [Int.natCast_zero, Int.zero_mul]
        omega
      · rw [tidy_eq (by omega), LB_ofk (by simp only; omega)]
        simp only [sprc_app, sprc_one]
        have e3 : phi room ⟨t.g, t.k - 1, t.l ++ [c]⟩ = 0 := by
          unfold phi
          simp only [List.length_append, List.length_singleton]
          omega
        rw [e3]
        simp only [Int.natCast_zero, Int.zero_mul]
        omega
theorem pop_join {room many : Nat} {t : Tr} (a : TrOk room many t) (hr : 2 ≤ room) : tjoin t ⟨1, room - 1, []⟩ = tidy (t.g + (1 - t.l.length)) (min (t.k - (1 - t.l.length)) (room - 1 - (t.l.length - 1))) (ct 1 t.l) := by
  have kl := a.kl
  unfold tjoin
  simp only [len_ct, List.append_nil]
  rw [tp_all (by rw [len_ct]; omega)]
theorem LB_pop {room many : Nat} {m q : Int} {f : Nat → Int} (P : Pay many m q f) (hr : 1 ≤ room) {t : Tr} (a : TrOk room many t) : LB room m q f (tjoin t (tidy 1 (room - 1) [])) ≤ LB room m q f t + q := by
  have hm := P.m0
  have hq := P.q0
  have hz : 0 ≤ m + q := by omega
  have gk := a.gk
  have kl := a.kl
  have nn := LB_nn P a
  by_cases h1 : room = 1
  · subst h1
    have e : tjoin t (tidy 1 (1 - 1) []) = ⟨0, 0, []⟩ := by
      show tidy _ (min _ (0 - _)) (tp 0 _ ++ []) = _
      rw [Nat.zero_sub, Nat.min_zero, tp_zero]
      rfl
    rw [e, LB_of0 rfl]
    simp only [sprc, List.map_nil, List.sum_nil, List.length_nil]
    omega
  · rw [tidy_eq (by omega), pop_join a (by omega)]
    by_cases hl : t.l = []
    · have e : tidy (t.g + (1 - t.l.length)) (min (t.k - (1 - t.l.length)) (room - 1 - (t.l.length - 1))) (ct 1 t.l) = tidy (t.g + 1) (t.k - 1) [] := by
        rw [hl]
        simp only [List.length_nil, ct_all (l := []) (g := 1) (by simp)]
        congr 1
        omega
      rw [e]
      by_cases hk : t.k ≤ 1
      · have e2 : tidy (t.g + 1) (t.k - 1) [] = ⟨0, 0, []⟩ := by
          rw [Nat.sub_eq_zero_of_le hk]
          rfl
        rw [e2, LB_of0 rfl]
        simp only [sprc, List.map_nil, List.sum_nil, List.length_nil]
        by_cases hk0 : t.k = 0
        · rw [LB_of0 hk0, hl]
          simp only [sprc, List.map_nil, List.sum_nil, List.length_nil]
          omega
        · rw [LB_ofk hk0, hl]
          simp only [sprc, List.map_nil, List.sum_nil]
          have e3 : phi room t = room - 1 - t.g := by
            unfold phi
            rw [hl]
            simp only [List.length_nil]
            omega
          have h5 : ((phi room t : Nat) : Int) * q ≤ ((phi room t : Nat) : Int) * (m + q) := Int.mul_le_mul_of_nonneg_left (by omega) (Int.natCast_nonneg _)
          have h6 : (room : Int) * q = (t.g : Int) * q + ((phi room t : Nat) : Int) * q + q := by
            have e7 : (room : Int) = (t.g : Int) + ((phi room t : Nat) : Int) + 1 := by omega
            rw [e7, Int.add_mul, Int.add_mul, Int.one_mul]
          omega
      · rw [tidy_eq (by omega), LB_ofk (by simp only; omega), LB_ofk (by omega), hl]
        have e3 : phi room ⟨t.g + 1, t.k - 1, []⟩ = phi room t := by
          unfold phi
          rw [hl]
          simp only [List.length_nil]
          omega
        rw [e3]
        simp only [muls]
        omega
    · have hl1 : 1 ≤ t.l.length := List.length_pos_iff.mpr hl
      have e : tidy (t.g + (1 - t.l.length)) (min (t.k - (1 - t.l.length)) (room - 1 - (t.l.length - 1))) (ct 1 t.l) = tidy t.g t.k (ct 1 t.l) := by
        congr 1
        · omega
        · omega
      have hpr := ct_one_price P a.s hl
      rw [e]
      by_cases hk : t.k = 0
      · have e2 : tidy t.g t.k (ct 1 t.l) = ⟨0, 0, ct 1 t.l⟩ := by
          rw [hk]
          rfl
        rw [e2, LB_of0 rfl, LB_of0 hk]
        simp only [len_ct]
        have e3 : room - (t.l.length - 1) = (room - t.l.length) + 1 := by omega
        rw [e3, muls]
        omega
      · rw [tidy_eq hk, LB_ofk hk, LB_ofk (t := ⟨t.g, t.k, ct 1 t.l⟩) hk]
        have h5 := mulr (a := phi room ⟨t.g, t.k, ct 1 t.l⟩) (b := phi room t + 1) (by unfold phi; simp only [len_ct]; omega) hz
        rw [muls] at h5
        simp only
        omega
theorem LB_step {room many : Nat} {m q : Int} {f : Nat → Int} (P : Pay many m q f) (hr : 1 ≤ room) {t : Tr} (a : TrOk room many t) {c : Nat} (hc : c = 45 ∨ c ∈ signs many) : LB room m q f (tjoin t (tstep room c)) ≤ LB room m q f t + f c := by
  unfold tstep
  by_cases h : c = 45
  · rw [if_pos h, h, P.f45]
    exact LB_pop P hr a
  · rw [if_neg h]
    exact LB_push P hr a (hc.resolve_left h)
theorem LB_unt {room many : Nat} {m q : Int} {f : Nat → Int} (P : Pay many m q f) (hr : 1 ≤ room) : LB room m q f (tunt room) = 0 := by
  rw [LB_ofk (by show room ≠ 0; omega)]
  have e : phi room (tunt room) = 0 := by
    show room - room - _ = 0
    omega
  rw [e]
  simp [tunt, sprc]
theorem LB_steps {room many : Nat} {m q : Int} {f : Nat → Int} (P : Pay many m q f) (hr : 1 ≤ room) : ∀ (s : List Nat) (t : Tr), TrOk room many t → (∀ c ∈ s, c = 45 ∨ c ∈ signs many) → LB room m q f (s.foldl (fun t c => tjoin t (tstep room c)) t) ≤ LB room m q f t + sprc f s
  | [], t, _, _ => by simp [sprc]
  | c :: r, t, a, h => by
    have hc := h c (List.mem_cons_self ..)
    have h1 := LB_step P hr a hc
    have h2 := LB_steps P hr r _ (tjoin_ok a (tstep_ok hr hc)) fun d hd => h d (List.mem_cons_of_mem _ hd)
    have e : sprc f (c :: r) = f c + sprc f r := by simp [sprc]
    show LB room m q f (r.foldl _ (tjoin t (tstep room c))) ≤ _
    omega
/-- steps cost at least so much -/
theorem LB_told {room many : Nat} {m q : Int} {f : Nat → Int} (P : Pay many m q f) (hr : 1 ≤ room) {s : List Nat} (h : ∀ c ∈ s, c = 45 ∨ c ∈ signs many) : LB room m q f (ttold room s) ≤ sprc f s := by
  have := LB_steps P hr s (tunt room) tunt_ok h
  rw [LB_unt P hr] at this
  unfold ttold
  omega
/-! ### steps of a way -/
theorem gone_pops (room : Nat) : ∀ (p : Nat) (x : List Nat), gone room x (List.replicate p 45) = ct p x
  | 0, x => (ct_zero x).symm
  | p + 1, x => by
    rw [List.replicate_succ]
    show gone room (step room x 45) (List.replicate p 45) = _
    rw [gone_pops room p]
    show ct p (ct 1 x) = _
    rw [ct_ct]
    congr 1
    omega
theorem tp_tp_app (room : Nat) (y z : List Nat) : tp room (tp room y ++ z) = tp room (y ++ z) := by
  rw [tp_app, tp_app room y z, tp_tp]
  congr 2
  omega
theorem gone_signs (room : Nat) : ∀ (l x : List Nat), (∀ c ∈ l, c ≠ 45) → x.length ≤ room → gone room x l = tp room (x ++ l)
  | [], x, _, h => by
    rw [List.append_nil, tp_all h]
    rfl
  | c :: r, x, hl, h => by
    show gone room (step room x c) r = _
    have e : step room x c = tp room (x ++ [c]) := if_neg (hl c (List.mem_cons_self ..))
    rw [e, gone_signs room r _ (fun d hd => hl d (List.mem_cons_of_mem _ hd)) (by rw [len_tp]; omega), tp_tp_app, List.append_assoc]
    rfl
theorem gone_app (room : Nat) (x a b : List Nat) : gone room x (a ++ b) = gone room (gone room x a) b := by
  unfold gone
  rw [List.foldl_append]
theorem sign_not {many c : Nat} (h : c ∈ signs many) : c ≠ 45 := by
  have h1 := List.mem_of_mem_take h
  simp at h1
  omega
/-- the steps of a way -/
def wayS (c0 : Nat) (w : Nat × Nat) (l : List Nat) : List Nat :=
  if l.length ≤ w.1 then List.replicate w.2 c0 ++ List.replicate w.2 45 ++ List.replicate w.1 45 ++ l
  else List.replicate w.1 45 ++ l ++ (List.replicate w.2 c0 ++ List.replicate w.2 45)
theorem way_gone {room many c0 g k : Nat} {l x : List Nat} (gk : g + k ≤ room) (kl : k + l.length ≤ room) (hc : c0 ∈ signs many) (hl : ∀ c ∈ l, c ∈ signs many) (hx : x.length ≤ room) :
    gone room x (wayS c0 (g, room - k - max g l.length) l) = tp k (ct g x) ++ l := by
  have hl' : ∀ c ∈ l, c ≠ 45 := fun c h => sign_not (hl c h)
  have hr' : ∀ n, ∀ c ∈ List.replicate n c0, c ≠ 45 := fun n c h => by
    rw [List.eq_of_mem_replicate h]
    exact sign_not hc
  unfold wayS
  by_cases h : l.length ≤ g
  · rw [if_pos h, Nat.max_eq_left h]
    simp only
    rw [gone_app, gone_app, gone_app, gone_signs room _ x (hr' _) hx, gone_pops, gone_pops, ct_ct, ct_tp, ct_app_ge (by rw [List.length_replicate]; omega)]
    rw [List.length_replicate]
    have e1 : room - (room - k - g + g) = k := by omega
    have e2 : room - k - g + g - (room - k - g) = g := by omega
    rw [e1, e2, gone_signs room l _ hl' (by rw [len_tp]; omega), tp_all (by rw [List.length_append, len_tp]; omega)]
  · have h' : g ≤ l.length := by omega
    rw [if_neg h, Nat.max_eq_right h']
    simp only
    rw [gone_app, gone_app, gone_app, gone_pops room g x, gone_signs room l _ hl' (by rw [len_ct]; omega), gone_signs room (List.replicate _ c0) _ (hr' _) (by rw [len_tp]; omega), gone_pops, tp_tp_app, ct_tp, ct_app_ge (by rw [List.length_replicate]; omega)]
    rw [List.length_replicate, Nat.sub_self, ct_zero]
    have e1 : room - (room - k - l.length) = k + l.length := by omega
    rw [e1, tp_app, tp_all (l := l) (by omega)]
    congr 2
    omega
theorem way_in {many c0 : Nat} {w : Nat × Nat} {l : List Nat} (hc : c0 ∈ signs many) (hl : ∀ c ∈ l, c ∈ signs many) : ∀ c ∈ wayS c0 w l, c = 45 ∨ c ∈ signs many := fun c h => by
  have k1 : ∀ n, c ∈ List.replicate n c0 → c = 45 ∨ c ∈ signs many := fun n h => by
    rw [List.eq_of_mem_replicate h]
    exact .inr hc
  have k2 : ∀ n, c ∈ List.replicate n 45 → c = 45 ∨ c ∈ signs many := fun n h => .inl (List.eq_of_mem_replicate h)
  unfold wayS at h
  split at h
  · simp only [List.mem_append] at h
    rcases h with ((h | h) | h) | h
    · exact k1 _ h
    · exact k2 _ h
    · exact k2 _ h
    · exact .inr (hl c h)
  · simp only [List.mem_append] at h
    rcases h with (h | h) | (h | h)
    · exact k2 _ h
    · exact .inr (hl c h)
    · exact k1 _ h
    · exact k2 _ h
theorem sprc_rep (f : Nat → Int) (c : Nat) : ∀ n : Nat, sprc f (List.replicate n c) = (n : Int) * f c
  | 0 => by simp [sprc]
  | n + 1 => by
    have e : sprc f (List.replicate (n + 1) c) = f c + sprc f (List.replicate n c) := by simp [sprc, List.replicate_succ]
    rw [e, sprc_rep f c n, muls]
    omega
theorem way_price {many c0 : Nat} {m q : Int} {f : Nat → Int} (P : Pay many m q f) (hm : f c0 = m) (w : Nat × Nat) (l : List Nat) : sprc f (wayS c0 w l) = wprice m q f l w := by
  unfold wayS wprice
  split
  · simp only [sprc_app, sprc_rep, P.f45, hm, Int.mul_add]
    omega
  · simp only [sprc_app, sprc_rep, P.f45, hm, Int.mul_add]
    omega
theorem way_len {c0 : Nat} (w : Nat × Nat) (l : List Nat) : (wayS c0 w l).length = w.1 + 2 * w.2 + l.length := by
  unfold wayS
  split
  · simp only [List.length_append, List.length_replicate]
    omega
  · simp only [List.length_append, List.length_replicate]
    omega
/-- the steps of each way do what the triple does -/
theorem way_told {room many c0 : Nat} {t : Tr} (hr : 1 ≤ room) (a : TrOk room many t) (hc : c0 ∈ signs many) {w : Nat × Nat} (h : w ∈ ways room t) : ttold room (wayS c0 w t.l) = t := by
  have hin := way_in (w := w) hc a.s
  refine tr_ext (c := 97) (ttold_ok' hr hin) a fun n hn => ?_
  have hx : (List.replicate n 97).length ≤ room := by rw [List.length_replicate]; exact hn
  rw [tby_told hr _ hx]
  unfold ways at h
  by_cases hk : t.k = 0
  · rw [if_pos hk] at h
    have gk := a.gk
    have kl := a.kl
    have hz := a.z hk
    rcases List.mem_cons.mp h with h | h
    · have e := way_gone (c0 := c0) (g := 0) (k := 0) (l := t.l) (x := List.replicate n 97) (by omega) (by omega) hc a.s hx
      rw [Nat.sub_zero, Nat.zero_max] at e
      rw [h, e]
      simp only [tby, hk, hz]
    · have h' : w = (room, 0) := by simpa using h
      have e := way_gone (c0 := c0) (g := room) (k := 0) (l := t.l) (x := List.replicate n 97) (by omega) (by omega) hc a.s hx
      have e2 : room - 0 - max room t.l.length = 0 := by omega
      rw [e2] at e
      rw [h', e]
      simp only [tby, hk, hz, tp_zero]
  · rw [if_neg hk] at h
    have h' : w = (t.g, phi room t) := by simpa using h
    rw [h']
    exact way_gone (c0 := c0) a.gk a.kl hc a.s hx
/-- subadditive -/
theorem LB_has {room many c0 : Nat} {m q : Int} {f : Nat → Int} (P : Pay many m q f) (hr : 1 ≤ room) (hc : c0 ∈ signs many) (hm : f c0 = m) {t : Tr} (a : TrOk room many t) : ∃ s, (∀ c ∈ s, c = 45 ∨ c ∈ signs many) ∧ ttold room s = t ∧ sprc f s = LB room m q f t := by
  by_cases hk : t.k = 0
  · by_cases h : wprice m q f t.l (0, room - t.l.length) ≤ wprice m q f t.l (room, 0)
    · refine ⟨wayS c0 (0, room - t.l.length) t.l, way_in hc a.s, way_told hr a hc (by unfold ways; rw [if_pos hk]; simp), ?_⟩
      rw [way_price P hm]
      unfold LB
      rw [if_pos hk]
      omega
    · refine ⟨wayS c0 (room, 0) t.l, way_in hc a.s, way_told hr a hc (by unfold ways; rw [if_pos hk]; simp), ?_⟩
      rw [way_price P hm]
      unfold LB
      rw [if_pos hk]
      omega
  · refine ⟨wayS c0 (t.g, phi room t) t.l, way_in hc a.s, way_told hr a hc (by unfold ways; rw [if_neg hk]; simp), ?_⟩
    rw [way_price P hm]
    unfold LB
    rw [if_neg hk]
theorem LB_join {room many c0 : Nat} {m q : Int} {f : Nat → Int} (P : Pay many m q f) (hr : 1 ≤ room) (hc : c0 ∈ signs many) (hm : f c0 = m) {t u : Tr} (a : TrOk room many t) (b : TrOk room many u) : LB room m q f (tjoin t u) ≤ LB room m q f t + LB room m q f u := by
  obtain ⟨s, h1, h2, h3⟩ := LB_has P hr hc hm a
  obtain ⟨s', h4, h5, h6⟩ := LB_has P hr hc hm b
  have h7 := LB_told P hr (s := s ++ s') fun c hc => (List.mem_append.mp hc).elim (h1 c) (h4 c)
  rw [ttold_app hr h1 h4, h2, h5, sprc_app, h3, h6] at h7
  exact h7
theorem LB_work {room many : Nat} {m q : Int} {f : Nat → Int} (P : Pay many m q f) (hr : 1 ≤ room) {w : W} (h : w.Can many) : LB room m q f (w.tri room) ≤ w.prc f := by
  rw [W.tri_lng hr w h, W.prc_lng]
  exact LB_told P hr (W.lng_in w h)
end SK
namespace SK
open PySem PySem.Spec PyProof.Rows L2 LamX NdefX
/-! ### a lambda with parameters, called -/
/-- the lambda as a function made in the running frame -/
def lamF (X : Cx) (params : Arguments) (scope : Scope) (c' : Addr) : NF := ⟨"<lambda>", X.env.qual ++ "<lambda>", params, [], scope, cloFrom X.env.cells scope.names [], c'⟩
theorem lam_run {P : Program} {w : World} {K : PySem.W.Frag} {mg : Str → Option Value} {base : Heap} {N ps fr : List Str} {F : NF} {f : Addr} {A : Around} {outer : List Env} {s : Shared} {H : Hp} {us : List Value} {vs : List V} {ws : List (Option V)} {k : Nat} {body : Expr} {pm ctv : Value} {t : TE} {Q : VK}
    (S : NScope N ps fr F.scope) (hr : Room (k + 1) A) (e0 : Env0 P w K mg base A outer s H) (ho : s.heap.get? f = some (PySem.W.kla_obj F.name F.qual F.params body F.scope F.cl pm F.c ctv)) (hc : s.heap.CodeRec (.ref F.c) F.qual)
    (hbind : bindArgs (PySem.W.kla_fn F.name F.qual F.params body F.scope F.cl pm (.ref F.c) ctv) ⟨us, []⟩ = pure (ps.zip us)) (hl : vs.length = ps.length) (r : Vals vs us) (C : CellsAt F.cl fr ws s.heap H)
    (hbody : PE (ncx C8.CX0 P w K mg base N F f A outer s H C8.E0) body t) (ht : t (startF N vs ws) H Q) :
    codeAny (model P w) A (.call (.ref f) ⟨us, []⟩) (CR C8.CX0 outer P w H s Q C8.E0) s := by
  have lim : s.heap.NoLimit := e0.mod.nolimit.keeps fun b o e => (e0.bs b o e).1
  refine PySem.W.kla_callFunE hr.depth ho rfl S.co S.gen rfl hc ?_
  rw [hbind]
  refine wpAny_pure (wpAny_newFunctionEnv S.nocell (fun ⟨n, _⟩ hy => S.par n (List.of_mem_zip hy).1) (fun h₁ hns hsb => ⟨lim.fresh _ hsb, ?_⟩) S.kind)
  show codeAny _ _ (.expr body (envF F f s.heap.objs.size)) _ _
  have kp : ∀ b o, s.heap.get? b = some o → h₁.get? b = some o := fun b o e => hsb.extBut b o (Nat.ne_of_lt (Heap.lt_size e)) (Heap.get?_push_of_some _ e)
  have J : Inv (ncx C8.CX0 P w K mg base N F f A outer s H C8.E0) [] (startF N vs ws) H { s with heap := h₁, toks := s.toks + (ps.zip us).length } := inv_startN S hr.hd e0 hl r C hns kp
  refine PySem.W.kla_codeExpr (wpAny_mono (hbody.run [] _ _ H Q J ht) (fun v s' hq => ?_) fun e s' hq => hq)
  obtain ⟨w', H', J', rv, q⟩ := hq
  exact ⟨w', H', J'.os, J'.bare, J'.base, J'.hok, rv, q⟩
theorem Room.in1 {k : Nat} {A : Around} (r : Room (k + 1) A) : Room k A.in1 := ⟨r.hd, by have := r.dp; show A.depth + 3 * k + 5 < _; omega, by have := r.un; show A.units + 1 + 16 * k + 200 < _; omega⟩
/-! ### min(xs, key=f) of a list -/
section
variable {X : Cx} {pins : List (Addr × Obj)} {σ : L2.St} {H : Hp} {s : Shared}
theorem min_key_list (hcalm : X.calm = true) (I : L2.Inv X pins σ H s) {f : Addr} {fo : Obj} (hf : s.heap.get? f = some fo) (hfc : ∀ v, fo.data ≠ .cell v) (hfn : H f = none) (hfL : f ≠ X.env.locals) (hfr : f ∉ X.fs) {a : Addr} {xs : List V} (ha : H a = some (.lst xs)) (hne : 0 < xs.length) (kf : Nat → Int) {Q : VK}
    (turn : ∀ (od : Obj) (pins' : List (Addr × Obj)) (s' : Shared) (i : Nat) (v : V) (u : Value), Inv X pins' σ (upd H a (.frz od (.lst xs))) s' → s'.heap.get? f = some fo → xs[i]? = some v → RelV v u →
      codeAny (model X.prog X.w) X.A.in1 (.call (.ref f) ⟨[u], []⟩) (CR C8.CX0 X.stack X.prog X.w (upd H a (.frz od (.lst xs))) s' (fun k H' => k = .int (kf i) ∧ H' = upd H a (.frz od (.lst xs))) C8.E0) s')
    (q : ∀ od v, xs[argBest (fun i j => decide (kf i < kf j)) (xs.length - 1)]? = some v → Q v (upd H a (.frz od (.lst xs)))) :
    wpAny (model X.prog X.w) X.A (call (.builtin "min") [.ref a] [(Str.ofString "key", .ref f)]) (EP X pins σ Q) X.xe s := by
  obtain ⟨od, I0⟩ := I.lock ha (by trivial)
  have hfn0 : upd H a (.frz od (.lst xs)) f = none := by
    rw [upd_ne (fun z => by rw [z, ha] at hfn; cases hfn)]
    exact hfn
  have I1 : L2.Inv X (pins ++ [(f, fo)]) σ (upd H a (.frz od (.lst xs))) s := I0.pins_of fun p hp => by
    rcases List.mem_append.mp hp with z | z
    · exact I0.pin p (List.mem_append_right _ z)
    · have e : p = (f, fo) := by simpa using z
      subst e
      exact ⟨hf, hfn0, hfL, hfr, hfc⟩
  have haz : upd H a (.frz od (.lst xs)) a = some (.frz od (.lst xs)) := upd_same
  obtain ⟨e1, hz, its, n, rv, hob⟩ := I1.hok a _ haz
  rw [e1] at hob
  cases hob
  have hlen := rv.length
  have hlt : a < s.heap.objs.size := Heap.lt_size e1
  have dl : ∀ {s' : Shared} {pins' : List (Addr × Obj)}, Inv X pins' σ (upd H a (.frz (seqObj "list" its.toArray n) (.lst xs))) s' → s'.heap.get? a = some (seqObj "list" its.toArray n) := fun J => (J.hok a _ haz).1
  have isl : ∀ {h : Heap}, h.get? a = some (seqObj "list" its.toArray n) → h.IsList a its.toArray := fun e => ⟨_, e, rfl, n, rfl⟩
  have hd : X.A.in1.handled = none := I.ok.hd hcalm
  refine call_min_walkK (wpAny_pyIter_list (isl e1) ?_)
  have W := (Walks.list (prog := X.prog) (w := X.w) (A := X.A.in1) hd s.heap.objs.size a (Nat.ne_of_lt hlt) its.toArray).toS
  have hI : (s.heap.push { cls := .type "list_iterator", data := .fields #[.ref a, .int 0 0] }).objs.size = s.heap.objs.size + 1 := size_push' ..
  have gI : (s.heap.push { cls := .type "list_iterator", data := .fields #[.ref a, .int 0 0] }).get? s.heap.objs.size = some { cls := .type "list_iterator", data := .fields #[.ref a, .int 0 0] } := Heap.get?_push_size _ rfl
  have J0 : L2.Inv X (pins ++ [(f, fo)]) σ (upd H a (.frz (seqObj "list" its.toArray n) (.lst xs))) { s with heap := s.heap.push { cls := .type "list_iterator", data := .fields #[.ref a, .int 0 0] } } := I1.kept (t' := s.toks) fun b o e => Heap.get?_push_of_some _ e
  have fpI : FpOk X (pins ++ [(f, fo)]) (upd H a (.frz (seqObj "list" its.toArray n) (.lst xs))) s.heap.objs.size := I1.fpOk (Nat.le_refl _) (I1.hok.fresh (Nat.le_refl _))
  have fpS : FpOk X (pins ++ [(f, fo)]) (upd H a (.frz (seqObj "list" its.toArray n) (.lst xs))) (s.heap.objs.size + 1) := I1.fpOk (Nat.le_succ _) (I1.hok.fresh (Nat.le_succ _))
  refine ⟨s.heap.objs.size, _, _, _, its.toArray.size, _, _, fun s' => Inv X (pins ++ [(f, fo)]) σ (upd H a (.frz (seqObj "list" its.toArray n) (.lst xs))) s', fun i k _ => ∃ t, k = .int (kf i) t, fun i j => decide (kf i < kf j), rfl, W, ⟨⟨_, gI, rfl, rfl⟩, isl (Heap.get?_push_of_some _ e1)⟩, fun b hb => ?_, ?_, ?_, J0, fun v s' hv hJ => ?_⟩
  · show b < (s.heap.push _).objs.size
    rw [hI]
    have hb' : b = s.heap.objs.size ∨ b = a := by simpa using hb
    rcases hb' with z | z
    · rw [z]
      exact Nat.lt_succ_self _
    · rw [z]
      exact Nat.lt_succ_of_lt hlt
  · rw [List.size_toArray, ← hlen]
    exact hne
  · refine ⟨fun s1 s2 hJ hm => ?_, fun i k s1 s2 hv _ => hv, fun i v s1 o Q1 E1 hi hP hJ hst hS hQ => ?_, fun i j ki kj s1 Q1 E1 hJ hi hj hQ => ?_⟩
    · obtain ⟨m1, m2, m3, m4, m5⟩ := hm
      obtain ⟨hh, g, d, t, os'⟩ := s2
      obtain rfl : g = s1.gens := m2
      obtain rfl : d = s1.drawn := m3
      obtain rfl : os' = s1.os := m4
      refine L2.Inv.turnedL hJ (ch := (s.heap.push { cls := .type "list_iterator", data := .fields #[.ref a, .int 0 0] }).objs.size :: [s.heap.objs.size]) m1 fun b hb => ?_
      rw [hI] at hb
      rcases List.mem_cons.mp hb with z | z
      · rw [z]
        exact fpS
      · have z' : b = s.heap.objs.size := by simpa using z
        rw [z']
        exact fpI
    · have hv : its.toArray[i]? = some v := hP
      have hi' : i < xs.length := by
        rw [List.size_toArray] at hi
        omega
      have hx : xs[i]? = some xs[i] := List.getElem?_eq_getElem hi'
      have rx : RelV xs[i] v := by
        obtain ⟨u, hu, ru⟩ := rv.get hx
        have e : its.toArray[i]? = some u := by simpa using hu
        rw [hv] at e
        cases e
        exact ru
      obtain ⟨⟨oI, hoI, hoc, hod⟩, hls⟩ := hst
      rw [hI] at hS
      have nfr : ∀ b, b ≠ X.env.locals → b ∉ X.fs → b ∉ frs X.stack := fun b h1 h2 z => by
        rcases List.mem_cons.mp (hJ.stkSub b z) with e | e
        · exact h1 e
        · exact h2 e
      have hf1 : s1.heap.get? f = some fo := (hJ.pin (f, fo) (List.mem_append_right _ (List.mem_append_right _ (by simp)))).1
      refine wpAny_call (codeAny_mono (turn _ _ s1 i xs[i] v hJ hf1 hx rx) fun r s2 hq => ?_)
      cases r with
      | error e => exact False.elim hq
      | ok fl =>
        cases fl with
        | next => exact False.elim hq
        | brk => exact False.elim hq
        | cont => exact False.elim hq
        | ret u =>
          obtain ⟨k', H', os, bare, un, hok, ru, rfl, rfl⟩ := hq
          obtain ⟨t, rfl⟩ := ru
          have J2 : L2.Inv X (pins ++ [(f, fo)]) σ (upd H a (.frz (seqObj "list" its.toArray n) (.lst xs))) s2 := hJ.call' os un hok bare (fun b z => absurd z (by simp))
          refine hQ _ s2 J2 ⟨⟨oI, un.keep _ _ hoI fpI.1 (nfr _ fpI.2.1 fpI.2.2.1) (by simp), hoc, hod⟩, isl (dl J2)⟩ ?_ ⟨t, rfl⟩ fun j k' h => h
          rw [hI]
          exact un.keep _ _ hS fpS.1 (nfr _ fpS.2.1 fpS.2.2.1) (by simp)
    · obtain ⟨t1, rfl⟩ := hi
      obtain ⟨t2, rfl⟩ := hj
      exact CmpOf.ints_lt (prog := X.prog) (w := X.w) (A := X.A.in1) (P := fun i v => ∃ t, v = .int (kf i) t) kf (fun i v h => h) i j _ _ _ _ _ ⟨t1, rfl⟩ ⟨t2, rfl⟩ hQ
  · have hv' : its.toArray[argBest (fun i j => decide (kf i < kf j)) (its.toArray.size - 1)]? = some v := hv
    rw [List.size_toArray, ← hlen] at hv'
    have hb : argBest (fun i j => decide (kf i < kf j)) (xs.length - 1) < its.length := by
      obtain ⟨h1, _⟩ := Array.getElem?_eq_some_iff.mp hv'
      simpa using h1
    have hx : xs[argBest (fun i j => decide (kf i < kf j)) (xs.length - 1)]? = some (xs[argBest (fun i j => decide (kf i < kf j)) (xs.length - 1)]'(by omega)) := List.getElem?_eq_getElem (by omega)
    obtain ⟨u, hu, ru⟩ := rv.get hx
    have e : its.toArray[argBest (fun i j => decide (kf i < kf j)) (xs.length - 1)]? = some u := by simpa using hu
    rw [hv'] at e
    cases e
    exact ⟨_, _, hJ.unpinned, ru, q _ _ hx⟩
/-! ### min(e, key=lambda ..) -/
theorem Tabs.upd {T : List (Addr × Str)} {H : Hp} {a : Addr} {xs : List V} {o : HO} (t : Tabs T H) (h : H a = some (.lst xs)) : Tabs T (upd H a o) := fun p hp => by
  obtain ⟨ps, h1, h2, h3⟩ := t p hp
  refine ⟨ps, ?_, h2, fun pos cv hc => ?_⟩
  · rw [upd_ne (ne_of h1 h (by intro z; cases z))]
    exact h1
  · obtain ⟨c, e1, e2⟩ := h3 pos cv hc
    refine ⟨c, e1, ?_⟩
    rw [upd_ne (ne_of e2 h (by intro z; unfold CodeO at z; cases z))]
    exact e2
theorem Tups.ofN {H H' : Hp} (e : ExtN H H') : Tups H H' := ⟨fun b xs h => e b _ h (by intro ps z; cases z), fun b o xs h => e b _ h (by intro ps z; cases z)⟩
def bestN (kf : Nat → Int) (n : Nat) : Nat := argBest (fun i j => decide (kf i < kf j)) (n - 1)
def tMinKey (T : List (Addr × Str)) (ta : TA) (js : List Nat) (N : List Str) (tb : TE) : TE := fun σ H Q => ta σ H fun vs H1 => Tabs T H1 ∧ ∃ (a : Addr) (xs : List V) (kf : Nat → Int), vs = [.ref a] ∧ H1 a = some (.lst xs) ∧ 0 < xs.length ∧
  (∀ (H2 : Hp) (i : Nat) (x : V) (Q' : VK), Tups H1 H2 → xs[i]? = some x → Q' (.int (kf i)) H2 → tb (startF N [x] (js.map (slotAt σ))) H2 Q') ∧
  ∀ (H2 : Hp) (od : Obj) (x : V), ExtN H1 H2 → Tabs T H2 → xs[bestN kf xs.length]? = some x → Q x (L2.upd H2 a (.frz od (.lst xs)))
theorem pe_minkey {T : List (Addr × Str)} {c P : Addr} {p pos kpos lpos : Pos} {e : Expr} {ta : TA} {tb : TE} {params : Arguments} {body : Expr} {scope : Scope} {N ps fr : List Str} {js : List Nat} {k : Nat}
    (hcalm : X.calm = true) (hg : Gl X "min") (hm : X.mg "min" = none) (ha : PA X [e] ta)
    (TB : TabB X.base X.mg c P) (hcode : X.env.code = .ref c) (hmT : (P, X.env.qual ++ "<lambda>") ∈ T) (hu : ∀ p ∈ T, p.1 = P → p.2 = X.env.qual ++ "<lambda>") (hr : Room (k + 2) X.A)
    (S : NScope N ps fr scope) (hps : ps.length = 1) (hfree : ∀ y ∈ scope.names, y.2 = .free → X.env.scope.names.lookup y.1 = some .cell ∨ X.env.scope.names.lookup y.1 = some .free) (hfr : ∀ y ∈ fr, (y, NameKind.free) ∈ scope.names) (hjs : js.map (fun j => X.N[j]?) = fr.map some)
    (hdef : defaultsOf params X.env = ([], [])) (hbind : ∀ (q : Str) (cl : List (Str × Addr)) (pm cv ctv u : Value), bindArgs (PySem.W.kla_fn "<lambda>" q params body scope cl pm cv ctv) ⟨[u], []⟩ = pure (ps.zip [u]))
    (hbody : ∀ (c' f : Addr) (A : Around) (outer : List Env) (s : Shared) (H : Hp), PE (ncx C8.CX0 X.prog X.w X.K X.mg X.base N (lamF X params scope c') f A outer s H C8.E0) body tb)
    (he : backTo pos (starEach [e] X.env) = (false, eval e X.env) :: backTo pos (starEach [] X.env) := by rfl) (hpl : (backTo pos (starEach [e] X.env)).any (·.1) = false := by rfl) :
    PE X (.Call (.Name "min" p) [e] [⟨some "key", .Lambda params body scope lpos, kpos⟩] pos) (tMinKey T ta js N tb) := by
  refine ⟨fun pins s σ H Q I h => ?_⟩
  refine wpAny_Call_Name_kw (ld_blt I hg hm b_min ?_ (by decide) (by decide))
  refine PyProof.Rows.callWith_kw (thn (ha.run pos pins s σ H _ I h) fun us s1 ⟨vs, H1, I1, r1, q1⟩ => ?_) he hpl rfl rfl
  obtain ⟨hT, a, xs, kf, rfl, hax, hne, hb, hq⟩ := q1
  obtain rfl := Vals.ref1 r1
  show wpAny _ _ (evalAll ((do let v ← eval (.Lambda params body scope lpos) X.env; standAt pos; pure v) :: [])) _ _ _
  refine wpAny_evalAll_cons (wpAny_bind (lam_make2 I1 TB hcode hmT hu hT hdef (fun y hy e => (hfree y hy e).elim (fun z => I1.ok.has _ (.inl z)) fun z => I1.ok.has _ (.inr z)) fun f c' pm' ctv H2 s' I2 eN T2 hf hfn hfr' hco => wpAny_bind (wpAny_standAt (wpAny_pure (wpAny_evalAll_nil ?_)))))
  have hax2 : H2 a = some (.lst xs) := eN _ _ hax (by intro ps z; cases z)
  have hfL : f ≠ X.env.locals := fun z => by
    obtain ⟨m, ⟨o, es, ep, ho, hd, _⟩, _⟩ := I2.loc
    rw [z, ho] at hf
    cases hf
    cases hd
  have hfs : f ∉ X.fs := fun z => hfr' (by
    rcases I2.ok.stk with e | ⟨e, hfm⟩
    · rw [e]
      exact z
    · rw [e]
      unfold frs at *
      simp only [List.filterMap_cons]
      split
      · exact z
      · exact List.mem_cons_of_mem _ z)
  show wpAny _ _ (call (.builtin "min") [.ref a] [(Str.ofString "key", .ref f)]) _ _ _
  refine min_key_list hcalm I2 hf (fun v z => by cases z) hfn hfL hfs hax2 hne kf (fun od pins' s3 i v u J hf3 hx rx => ?_) fun od v hv => hq H2 od v eN T2 hv
  have hco' : L2.upd H2 a (.frz od (.lst xs)) c' = some (CodeO c' (X.env.qual ++ "<lambda>")) := by
    rw [upd_ne (ne_of hco hax2 (by intro z; unfold CodeO at z; cases z))]
    exact hco
  refine lam_run (F := lamF X params scope c') (k := k) (ps := ps) S hr.in1 J.env0.in1 hf3 (codeO_at J.hok hco') (hbind _ _ _ _ _ u) (by rw [hps]; rfl) (.cons rx .nil) (cells_of J (Caps.made J.ok hfree hfr hjs)) (hbody _ _ _ _ _ _) ?_
  exact hb _ i v _ ((Tups.ofN eN).trans ⟨fun b ys e => by
    rw [upd_ne (ne_of e hax2 (by intro z; cases z))]
    exact e, fun b o ys e => by
    rw [upd_ne (ne_of e hax2 (by intro z; cases z))]
    exact e⟩) hx ⟨rfl, rfl⟩
end
/-! ### a def whose code object is known -/
structure DnL (K : PySem.W.Frag) (mg : Str → Option Value) (x : Str) (st : Stmt) (ps : List Str) (c : Addr) : Prop where
  ex : ∃ (f : Addr) (oc : Value) (od : Option Addr) (kV doc pm : Value) (an : Option Addr) (ct : Value) (osl : Array (Option Value)),
    K.lookup f = some ⟨oc, od, .func (PySem.W.fnOf x x (defArgs st) (defBody st) (defScope st) .none kV doc pm an (.ref c) ct), osl⟩ ∧ PySem.W.codeIn K (.ref c) x = true ∧ PySem.W.keepIn K (.ref f) = true ∧ mg x = some (.ref f) ∧ Binds K (PySem.W.fnOf x x (defArgs st) (defBody st) (defScope st) .none kV doc pm an (.ref c) ct) ps []
theorem DnL.cal {P : Program} {w : World} {K : PySem.W.Frag} {mg : Str → Option Value} {base : Heap} {x : Str} {st : Stmt} {N ps : List Str} {k : Nat} {sp : Sp} {c : Addr} (D : DnL K mg x st ps c) (S : FnScope N ps (defScope st)) (len : ∀ vs H Q E, sp vs H Q E → vs.length = ps.length)
    (hbody : ∀ (f : Addr) (A : Around) (outer : List Env) (s : Shared) (H : Hp) (vs : List V) (Q : VK) (E : XK), Room k (A.deeper (envOfC x (defScope st) s.heap.objs.size f (.ref c))) → sp vs H Q E →
      ∃ t, PSs (cxOf CX0 P w K mg base N x (defScope st) f (.ref c) A outer s H E).nox (defBody st) t ∧ t { nx := fun _ H' => Q .non H', rt := Q } (start N vs) H) : C8.Cal P w K mg base (k + 1) x sp [] := by
  obtain ⟨f, oc, od, kV, doc, pm, an, ct, osl, lk, hcd, hk, hm, hb⟩ := D.ex
  exact ⟨f, _, ps, [], fn_of lk hcd S len fun A outer s H vs Q E hr hsp => by
    obtain ⟨t, h, q⟩ := hbody f A outer s H vs Q E hr hsp
    exact ⟨t, h.nox, q⟩, hm, hk, hb, .nil⟩
theorem dnL_mk {K : PySem.W.Frag} {mg : Str → Option Value} {x : Str} {st : Stmt} {ps : List Str} {h : Heap} {f c : Addr} {oc : Value} {od an : Option Addr} {osl : Array (Option Value)} {kV doc pm ct : Value} (X : K.In h) (G : h.Ns mainGlobals mg)
    (a : PySem.W.nsIn K mainGlobals x = some (some (.ref f))) (l : K.lookup f = some ⟨oc, od, .func (PySem.W.fnOf x x (defArgs st) (defBody st) (defScope st) .none kV doc pm an (.ref c) ct), osl⟩)
    (hc : PySem.W.codeIn K (.ref c) x = true) (k : PySem.W.keepIn K (.ref f) = true)
    (hb : ∀ (kV doc pm : Value) (an : Option Addr) (cdv ct : Value) (us : List Value), us.length = ps.length → bindArgs (PySem.W.fnOf x x (defArgs st) (defBody st) (defScope st) .none kV doc pm an cdv ct) ⟨us, []⟩ = pure (ps.zip us)) : DnL K mg x st ps c :=
  ⟨f, oc, od, kV, doc, pm, an, ct, osl, l, hc, k, PySem.W.mg_of X G a, .all (hb kV doc pm an (.ref c) ct)⟩
def lamQ : Str := (("cheapest_way" : Str) ++ ".<locals>.") ++ "<lambda>"
end SK
namespace SK
open PySem PySem.Spec PyProof.Rows L2 LamX NdefX
section
variable {X : Cx}
/-- min(t) of a tuple of ints -/
def rMinT (K : PySem.W.Frag) : List V → Hp → VK → Prop := fun vs H Q => ∃ (a : Addr) (ns : List Int), vs = [V.ref a] ∧ SqT K H a (ns.map V.int) ∧ 0 < ns.length ∧ ∀ m, m ∈ ns → (∀ y, y ∈ ns → m ≤ y) → Q (.int m) H
theorem cr_minT (hc : X.calm = true) : CallR X (.builtin "min") (rMinT X.K) := by
  intro pins s σ H vs us Q I r h
  obtain ⟨a, ns, rfl, hs, hne, q⟩ := h
  obtain ⟨its, rv, hl, _⟩ := I.tuple hs
  rw [Vals.ref1 r]
  have hi := rv.ints
  obtain ⟨xs, e⟩ := hi.allInts.items
  have hn : numsOf (intItems xs).toList = ns := by rw [← e]; exact hi.numsOf
  rw [nums_intItems] at hn
  subst hn
  rw [e] at hl
  have hsz : 0 < xs.size := by simpa using hne
  obtain ⟨ob, hob, hcl, n, hd⟩ := id hl
  have hlt : a < s.heap.objs.size := Heap.lt_size hob
  have hT : s.heap.IsTuple a (intItems xs) := hl
  refine call_min_walk (wpAny_pyIter_tuple hT ?_)
  refine ⟨_, _, _, _, _, _, _, rfl, Walks.tuple (A := X.A.in1) (I.ok.hd hc) _ a (Nat.ne_of_lt hlt) (intItems xs), ⟨⟨_, Heap.get?_push_size _ rfl, rfl, rfl⟩, hT.push _⟩, fun b hb => ?_, by simpa [intItems] using hsz, CmpOf.ints_lt (numAt xs) (fun _ _ => intItems_at), fun v h' tk hP hk => ?_⟩
  · show b < (s.heap.push _).objs.size
    rw [Heap.size_push]
    rcases List.mem_cons.mp hb with rfl | hb
    · exact Nat.lt_succ_self _
    · rcases List.mem_cons.mp hb with rfl | hb
      · exact Nat.lt_succ_of_lt hlt
      · cases hb
  · have hv : (intItems xs)[argBest (fun i j => decide (numAt xs i < numAt xs j)) (xs.size - 1)]? = some v := by simpa [intItems] using hP
    obtain ⟨t, rfl⟩ := intItems_at hv
    obtain ⟨h1, h2⟩ := argBest_lt (numAt xs) (xs.size - 1)
    have hk' : ∀ b o, s.heap.get? b = some o → h'.get? b = some o := fun b o e => by
      refine hk b o (fun hm => ?_) (Heap.get?_push_of_some _ e)
      rcases List.mem_cons.mp hm with e1 | hm
      · exact absurd (e1 ▸ Heap.lt_size e) (Nat.lt_irrefl _)
      · cases hm
    refine ⟨.int _, H, I.kept hk', ⟨_, rfl⟩, q _ ?_ fun y ha => ?_⟩
    · rw [numAt_eq]; exact PySem.getD_mem (by rw [List.length_map, Array.length_toList]; omega)
    · obtain ⟨j, hj, rfl⟩ := mem_getD ha
      rw [List.length_map, Array.length_toList] at hj
      rw [← numAt_eq]; exact h2 j (by omega)
/-- t.index(i), the first place, of ints -/
def rTIdx (K : PySem.W.Frag) : V → List V → Hp → VK → Prop := fun x xs H Q => ∃ p, ∃ ys : List Int, ∃ z j, x = .ref p ∧ xs = [.int z] ∧ SqT K H p (ys.map V.int) ∧ ys[j]? = some z ∧ (∀ m, m < j → ys[m]? ≠ some z) ∧ Q (.int (j : Nat)) H
theorem flat_ints (ys : List Int) : (ys.map V.int).all flatV = true := by
  rw [List.all_map]
  exact List.all_eq_true.mpr fun _ _ => rfl
theorem mt_tup_indexI : MtR X "tuple.index" (rTIdx X.K) := by
  intro pins s σ H x xs v us Q I rx rs h
  obtain ⟨p, ys, z, j, rfl, rfl, hq, hy, hno, q⟩ := h
  cases rx
  obtain ⟨u, rfl, t, rfl⟩ := vals1 rs
  obtain ⟨its, r, pl, hz⟩ := I.tuple hq
  obtain ⟨⟨cls, dd, dt, sl⟩, ho, hc, n, hd⟩ := pl
  simp only at hc hd
  subst hc
  subst hd
  have hl : its.toArray.size = ys.length := by rw [List.size_toArray, ← r.length, List.length_map]
  have hj : j < its.toArray.size := by rw [hl]; exact (List.getElem?_eq_some_iff.mp hy).1
  have at' : ∀ (m : Nat) (hm : m < its.toArray.size), ∃ y t', ys[m]? = some y ∧ its.toArray[m] = Value.int y t' := fun m hm => by
    have hm' : m < ys.length := by rw [← hl]; exact hm
    obtain ⟨w, hw, t', hw'⟩ := r.get (i := m) (x := .int ys[m]) (by simp [hm'])
    refine ⟨ys[m], t', List.getElem?_eq_getElem hm', ?_⟩
    have e := (List.getElem?_eq_some_iff.mp hw).2
    rw [← hw', ← e]
    simp
  have mt : ∀ (m : Nat) (hm : m < its.toArray.size), ∀ y, ys[m]? = some y → eqU (.int z) its.toArray[m] = eqV (.int y) (.int z) := fun m hm y h1 => by
    obtain ⟨y', t', h2, h3⟩ := at' m hm
    rw [h1] at h2
    cases h2
    rw [h3]
    exact eqU_of (show RelV (.int y) (Value.int y t') from ⟨t', rfl⟩) rfl
  refine call_meets PySem.F.slot_tuple_index ⟨_, ho, rfl⟩ PySem.F.entry_tuple_index (PySem.F.args_tuple_index_2 _ _) (TI.tuple_indexAt p its.toArray n dd sl (.int z t) (eqU (.int z)) j hj ?_ ?_)
    ⟨ho, fun w hw => mem_eqAt (x := .int z) ⟨t, rfl⟩ rfl r (flat_ints ys) w (by simpa using hw), ⟨.int (j : Nat), H, I.tok _, ⟨_, rfl⟩, q⟩⟩
  · rw [mt j hj z hy]
    show (z == z) = true
    exact beq_self_eq_true z
  · intro m hm hmj
    obtain ⟨y, t', h1, h2⟩ := at' m hm
    rw [mt m hm y h1]
    show (y == z) = false
    exact beq_eq_false_iff_ne.mpr fun e => hno m hmj (e ▸ h1)
end
theorem b_abs : bootBuiltins "abs" = some (.builtin "abs") := by decide +kernel
end SK
namespace SK
open PySem PySem.Spec PyProof.Rows L2 LamX
/-! ### the least price, the cheapest sign, the cheapest way -/
def mnI : List Int → Int
  | [] => 0
  | [x] => x
  | x :: y :: r => min x (mnI (y :: r))
theorem mnI_le : ∀ (l : List Int), ∀ y ∈ l, mnI l ≤ y
  | [], y, h => by cases h
  | [x], y, h => by
    have e : y = x := by simpa using h
    rw [e]
    exact Int.le_refl _
  | x :: z :: r, y, h => by
    have ih := mnI_le (z :: r)
    show min x (mnI (z :: r)) ≤ y
    rcases List.mem_cons.mp h with e | e
    · omega
    · have := ih y e
      omega
theorem mnI_mem : ∀ (l : List Int), l ≠ [] → mnI l ∈ l
  | [], h => absurd rfl h
  | [x], _ => by simp [mnI]
  | x :: z :: r, _ => by
    have ih := mnI_mem (z :: r) (by simp)
    show min x (mnI (z :: r)) ∈ x :: z :: r
    by_cases h : x ≤ mnI (z :: r)
    · rw [Int.min_eq_left h]
      exact List.mem_cons_self ..
    · rw [Int.min_eq_right (by omega)]
      exact List.mem_cons_of_mem _ ih
theorem mnI_of {l : List Int} {m : Int} (h1 : m ∈ l) (h2 : ∀ y ∈ l, m ≤ y) : m = mnI l := by
  have a := h2 _ (mnI_mem l (by intro z; rw [z] at h1; cases h1))
  have b := mnI_le l m h1
  omega
def csg (p : Pl) : Nat := 97 + p.pr.idxOf (mnI p.pr)
theorem signs_mem {many c : Nat} (hm : many ≤ 4) : c ∈ signs many ↔ 97 ≤ c ∧ c < 97 + many := by
  have h : many = 0 ∨ many = 1 ∨ many = 2 ∨ many = 3 ∨ many = 4 := by omega
  rcases h with h | h | h | h | h <;> subst h <;> simp [signs] <;> omega
theorem Pl.Ok.ne {p : Pl} (ok : p.Ok) : p.pr ≠ [] := fun z => by
  have h1 := ok.pl
  have h2 := ok.m1
  rw [z] at h1
  simp at h1
  omega
theorem csg_lt {p : Pl} (ok : p.Ok) : p.pr.idxOf (mnI p.pr) < p.many := by
  rw [← ok.pl]
  exact List.idxOf_lt_length_iff.mpr (mnI_mem _ ok.ne)
theorem csg_in {p : Pl} (ok : p.Ok) : csg p ∈ signs p.many := by
  have := csg_lt ok
  exact (signs_mem ok.m4).mpr ⟨by unfold csg; omega, by unfold csg; omega⟩
theorem cst_csg {p : Pl} (ok : p.Ok) : cst p (csg p) = mnI p.pr := by
  have h := csg_lt ok
  have h2 : p.pr.idxOf (mnI p.pr) < p.pr.length := by rw [ok.pl]; exact h
  unfold cst csg
  rw [if_neg (by omega), Nat.add_sub_cancel_left]
  simp [List.getD, List.getElem?_eq_getElem h2, List.getElem_idxOf h2]
theorem mn_in {p : Pl} (ok : p.Ok) : 1 ≤ mnI p.pr ∧ mnI p.pr ≤ 99 := ok.pr _ (mnI_mem _ ok.ne)
theorem cst_sign {p : Pl} (ok : p.Ok) {c : Nat} (h : c ∈ signs p.many) : cst p c ∈ p.pr := by
  have h' := (signs_mem ok.m4).mp h
  unfold cst
  rw [if_neg (by omega)]
  have h2 : c - 97 < p.pr.length := by rw [ok.pl]; omega
  simp [List.getD, List.getElem?_eq_getElem h2]
theorem cst_in {p : Pl} (ok : p.Ok) {c : Nat} (h : c = 45 ∨ c ∈ signs p.many) : 1 ≤ cst p c ∧ cst p c ≤ 99 := by
  by_cases e : c = 45
  · unfold cst
    rw [if_pos e]
    exact ⟨ok.q1, ok.q9⟩
  · exact ok.pr _ (cst_sign ok (h.resolve_left e))
theorem pay_p {p : Pl} (ok : p.Ok) : Pay p.many (mnI p.pr) p.pop (cst p) := by
  have := mn_in ok
  have := ok.q1
  exact ⟨by unfold cst; rw [if_pos rfl], fun c hc => mnI_le _ _ (cst_sign ok hc), by omega, by omega⟩
theorem pay_1 (many : Nat) : Pay many 1 1 (fun _ => 1) := ⟨rfl, fun _ _ => Int.le_refl _, by decide, by decide⟩
def wkey (p : Pl) (w : Nat × Nat) : Int := (w.1 : Int) * p.pop + (w.2 : Int) * (mnI p.pr + p.pop)
def chW (p : Pl) (t : Tr) : Nat × Nat := (ways p.room t).getD (bestN (fun i => wkey p ((ways p.room t).getD i (0, 0))) (ways p.room t).length) (0, 0)
theorem chW_k {p : Pl} {t : Tr} (h : t.k ≠ 0) : chW p t = (t.g, phi p.room t) := by
  unfold chW ways
  rw [if_neg h]
  rfl
theorem chW_0 {p : Pl} {t : Tr} (h : t.k = 0) : chW p t = if wkey p (p.room, 0) < wkey p (0, p.room - t.l.length) then (p.room, 0) else (0, p.room - t.l.length) := by
  unfold chW ways
  rw [if_pos h]
  show [(0, p.room - t.l.length), (p.room, 0)].getD (if decide (wkey p (p.room, 0) < wkey p (0, p.room - t.l.length)) = true then 1 else 0) (0, 0) = _
  by_cases c : wkey p (p.room, 0) < wkey p (0, p.room - t.l.length)
  · rw [decide_eq_true c, if_pos rfl, if_pos c]
    rfl
  · rw [decide_eq_false c, if_neg (by decide), if_neg c]
    rfl
theorem chW_mem (p : Pl) (t : Tr) : chW p t ∈ ways p.room t := by
  by_cases h : t.k = 0
  · rw [chW_0 h]
    unfold ways
    rw [if_pos h]
    split <;> simp
  · rw [chW_k h]
    unfold ways
    rw [if_neg h]
    simp
theorem wprice_key (p : Pl) (t : Tr) (w : Nat × Nat) : wprice (mnI p.pr) p.pop (cst p) t.l w = wkey p w + sprc (cst p) t.l := by
  unfold wprice wkey
  omega
theorem chW_LB (p : Pl) (t : Tr) : wprice (mnI p.pr) p.pop (cst p) t.l (chW p t) = LB p.room (mnI p.pr) p.pop (cst p) t := by
  unfold LB
  by_cases h : t.k = 0
  · rw [if_pos h, chW_0 h]
    simp only [wprice_key]
    split <;> omega
  · rw [if_neg h, chW_k h]
theorem ways_le {p : Pl} (ok : p.Ok) {t : Tr} (a : TrOk p.room p.many t) {w : Nat × Nat} (h : w ∈ ways p.room t) : w.1 ≤ 9 ∧ w.2 ≤ 9 := by
  have := ok.r9
  have := a.gk
  unfold ways at h
  split at h
  · rcases List.mem_cons.mp h with e | e
    · rw [e]
      exact ⟨by omega, by show p.room - _ ≤ 9; omega⟩
    · have e' : w = (p.room, 0) := by simpa using e
      rw [e']
      exact ⟨by show p.room ≤ 9; omega, by show 0 ≤ 9; omega⟩
  · have e' : w = (t.g, phi p.room t) := by simpa using h
    rw [e']
    exact ⟨by show t.g ≤ 9; omega, by show phi p.room t ≤ 9; unfold phi; omega⟩
/-- the cheapest steps -/
def chS (p : Pl) (t : Tr) : List Nat := wayS (csg p) (chW p t) t.l
theorem chS_in {p : Pl} (ok : p.Ok) {t : Tr} (a : TrOk p.room p.many t) : ∀ c ∈ chS p t, c = 45 ∨ c ∈ signs p.many := way_in (csg_in ok) a.s
theorem chS_told {p : Pl} (ok : p.Ok) {t : Tr} (a : TrOk p.room p.many t) : ttold p.room (chS p t) = t := way_told ok.r1 a (csg_in ok) (chW_mem p t)
theorem chS_price {p : Pl} (ok : p.Ok) (t : Tr) : sprc (cst p) (chS p t) = LB p.room (mnI p.pr) p.pop (cst p) t := by
  unfold chS
  rw [way_price (pay_p ok) (cst_csg ok), chW_LB]
theorem chS_len {p : Pl} (ok : p.Ok) {t : Tr} (a : TrOk p.room p.many t) : (chS p t).length ≤ 40 := by
  have h := ways_le ok a (chW_mem p t)
  have := ok.r9
  have := a.kl
  unfold chS
  rw [way_len]
  omega
def few (p : Pl) (t : Tr) : Int := LB p.room 1 1 (fun _ => 1) t
theorem sprc_1 (l : List Nat) : sprc (fun _ => 1) l = (l.length : Int) := by
  induction l with
  | nil => rfl
  | cons c r ih =>
    have e : sprc (fun _ => 1) (c :: r) = 1 + sprc (fun _ => 1) r := by simp [sprc]
    rw [e, ih]
    simp
    omega
/-! ### pairs of ints in the heap -/
def PairsAt (H : Hp) : List (Nat × Nat) → List V → Prop
  | [], vs => vs = []
  | w :: r, vs => ∃ a s, vs = .ref a :: s ∧ H a = some (.tup [.int (w.1 : Int), .int (w.2 : Int)]) ∧ PairsAt H r s
theorem PairsAt.tups {H H' : Hp} (e : Tups H H') : ∀ {ws : List (Nat × Nat)} {vs : List V}, PairsAt H ws vs → PairsAt H' ws vs
  | [], _, h => h
  | _ :: _, _, ⟨a, s, h1, h2, h3⟩ => ⟨a, s, h1, e _ _ h2, h3.tups e⟩
theorem PairsAt.len {H : Hp} : ∀ {ws : List (Nat × Nat)} {vs : List V}, PairsAt H ws vs → vs.length = ws.length
  | [], _, h => by cases h; rfl
  | _ :: r, _, ⟨a, s, h1, h2, h3⟩ => by
    subst h1
    show s.length + 1 = r.length + 1
    rw [h3.len]
theorem PairsAt.get {H : Hp} : ∀ {ws : List (Nat × Nat)} {vs : List V}, PairsAt H ws vs → ∀ {i : Nat} {x : V}, vs[i]? = some x → ∃ w a, ws[i]? = some w ∧ x = .ref a ∧ H a = some (.tup [.int (w.1 : Int), .int (w.2 : Int)])
  | [], vs, h, i, x, e => by
    cases h
    cases e
  | w :: r, vs, ⟨a, s, h1, h2, h3⟩, i, x, e => by
    subst h1
    cases i with
    | zero =>
      cases e
      exact ⟨w, a, rfl, rfl, h2⟩
    | succ i => exact h3.get (i := i) e
/-! ### all but the tables stands -/
def givN (T : List (Addr × Str)) (v : V) (H : Hp) (Q : VK) : Prop := ∀ H', ExtN H H' → Tabs T H' → Q v H'
theorem ExtN.ofS {H H' : Hp} (s : Same H H') : ExtN H H' := fun b o h _ => s b o h
theorem Tabs.same {T : List (Addr × Str)} {H H' : Hp} (t : Tabs T H) (s : Same H H') : Tabs T H' := t.ext s
theorem PlanAt.ext {H H' : Hp} {v : V} {p : Pl} (h : PlanAt H v p) (e : ExtN H H') : PlanAt H' v p := h.tups (Tups.ofN e)
theorem TripAt.ext {H H' : Hp} {v : V} {t : Tr} (h : TripAt H v t) (e : ExtN H H') : TripAt H' v t := h.tups (Tups.ofN e)
theorem BoxAt.ext {H H' : Hp} {p q : Addr} {ns : List Int} {z : Int} (h : BoxAt H p q ns z) (e : ExtN H H') : BoxAt H' p q ns z := ⟨e _ _ h.b (by intro ps z; cases z), e _ _ h.l (by intro ps z; cases z), h.ne⟩
theorem Tabs.keep {T : List (Addr × Str)} {H H' : Hp} {p q : Addr} {ns : List Int} {z : Int} (t : Tabs T H) (b : BoxAt H p q ns z) (k : Keep p q H H') : Tabs T H' := fun x hx => by
  obtain ⟨ps, h1, h2, h3⟩ := t x hx
  refine ⟨ps, ?_, h2, fun pos cv hc => ?_⟩
  · exact k _ _ h1 (ne_of h1 b.b (by intro z; cases z)) (ne_of h1 b.l (by intro z; cases z))
  · obtain ⟨c, e1, e2⟩ := h3 pos cv hc
    exact ⟨c, e1, k _ _ e2 (ne_of e2 b.b (by intro z; unfold CodeO at z; cases z)) (ne_of e2 b.l (by intro z; unfold CodeO at z; cases z))⟩
/-! ### promises -/
def spPSteps : Sp := fun vs H Q _ => ∃ v p l, vs = [v, .str (tx l)] ∧ PlanAt H v p ∧ p.Ok ∧ l.length ≤ 10000 ∧ (∀ c ∈ l, c = 45 ∨ c ∈ signs p.many) ∧ giv (.int (sprc (cst p) l)) H Q
def spWays : Sp := fun vs H Q _ => ∃ v p u t, vs = [v, u] ∧ PlanAt H v p ∧ p.Ok ∧ TripAt H u t ∧ TrOk p.room p.many t ∧ ∀ (D : Addr) (H' : Hp) (xs : List V), Same H H' → H D = none → H' D = some (.lst xs) → PairsAt H' (ways p.room t) xs → Q (.ref D) H'
def spCSign : Sp := fun vs H Q _ => ∃ v p, vs = [v] ∧ PlanAt H v p ∧ p.Ok ∧ giv (.str (tx [csg p])) H Q
def spStepsW : Sp := fun vs H Q _ => ∃ v p a w l, vs = [v, .ref a, .str (tx l)] ∧ PlanAt H v p ∧ p.Ok ∧ H a = some (.tup [.int ((w : Nat × Nat).1 : Int), .int (w.2 : Int)]) ∧ w.1 ≤ 9 ∧ w.2 ≤ 9 ∧ l.length ≤ 9 ∧ giv (.str (tx (wayS (csg p) w l))) H Q
def spChWay (T : List (Addr × Str)) : Sp := fun vs H Q _ => ∃ v p u t, vs = [v, u] ∧ PlanAt H v p ∧ p.Ok ∧ TripAt H u t ∧ TrOk p.room p.many t ∧ Tabs T H ∧ ∀ (a : Addr) (H' : Hp), ExtN H H' → Tabs T H' → H' a = some (.tup [.int ((chW p t).1 : Int), .int ((chW p t).2 : Int)]) → Q (.ref a) H'
def spCheap (T : List (Addr × Str)) : Sp := fun vs H Q _ => ∃ v p u t, vs = [v, u] ∧ PlanAt H v p ∧ p.Ok ∧ TripAt H u t ∧ TrOk p.room p.many t ∧ Tabs T H ∧ ∀ (a : Addr) (H' : Hp), ExtN H H' → Tabs T H' → H' a = some (.tup [.int (LB p.room (mnI p.pr) p.pop (cst p) t), .str (tx (chS p t))]) → Q (.ref a) H'
def spFill (T : List (Addr × Str)) : Sp := fun vs H Q _ => ∃ v p u t, vs = [v, u] ∧ PlanAt H v p ∧ p.Ok ∧ TripAt H u t ∧ TrOk p.room p.many t ∧ Tabs T H ∧ givN T (.int ((chW p t).2 : Int)) H Q
def spFew : Sp := fun vs H Q _ => ∃ v p u t, vs = [v, u] ∧ PlanAt H v p ∧ p.Ok ∧ TripAt H u t ∧ TrOk p.room p.many t ∧ giv (.int (few p t)) H Q
def spJudged : Sp := fun vs H Q _ => ∃ v p u t l, vs = [v, u, .str (tx l)] ∧ PlanAt H v p ∧ p.Ok ∧ TripAt H u t ∧ TrOk p.room p.many t ∧ l.length ≤ 10000 ∧ (∀ c ∈ l, c = 45 ∨ c ∈ signs p.many) ∧ ttold p.room l = t ∧ giv (.int (sprc (cst p) l)) H Q
def spLawT (K : PySem.W.Frag) (T : List (Addr × Str)) : Sp := fun vs H Q _ => ∃ (a : Addr) (ns : List Int), vs = [.ref a] ∧ SqL K H a (ns.map V.int) ∧ ns.length ≤ 63 ∧ Tabs T H ∧ ∀ H', Q (.bl true) H'
end SK
/-! the law's own search for the least price: the mathematics of row 5 -/
namespace SK
instance : DecidableEq Tr := fun a b => decidable_of_iff (a.g = b.g ∧ a.k = b.k ∧ a.l = b.l) ⟨fun h => by
  cases a
  cases b
  simp only at h
  obtain ⟨h1, h2, h3⟩ := h
  subst h1 h2 h3
  rfl, fun h => by
  subst h
  exact ⟨rfl, rfl, rfl⟩⟩
/-- what a triple does to all stacks -/
def ims (room many : Nat) (t : Tr) : List (List Nat) := (stk many room).map (tby t)
theorem ims_inj {room many : Nat} (hm : 1 ≤ many) {t u : Tr} (a : TrOk room many t) (b : TrOk room many u) (h : ims room many t = ims room many u) : t = u := by
  refine tr_ext (c := 97) a b fun s hs => ?_
  have h2 := List.map_inj_left.mp h
  refine h2 _ (mem_stk (by rw [List.length_replicate]; exact hs) fun c hc => ?_)
  rw [List.eq_of_mem_replicate hc]
  unfold signs
  exact List.mem_take_iff_getElem.mpr ⟨0, by rw [Nat.lt_min]; exact ⟨hm, by decide⟩, rfl⟩
theorem ims_step {room many c : Nat} (hr : 1 ≤ room) {t : Tr} (a : TrOk room many t) : ims room many (tjoin t (tstep room c)) = (ims room many t).map fun x => step room x c := by
  unfold ims
  rw [List.map_map]
  refine List.map_congr_left fun x hx => ?_
  show tby (tjoin t (tstep room c)) x = step room (tby t x) c
  rw [tby_join, tby_step hr (tby_len a x)]
theorem ims_unt (room many : Nat) : ims room many (tunt room) = stk many room := by
  unfold ims
  conv => rhs; rw [← List.map_id (stk many room)]
  exact List.map_congr_left fun x hx => tby_unt (stk_mem hx).1
theorem ims_told {room many : Nat} (hr : 1 ≤ room) (l : List Nat) : ims room many (ttold room l) = (stk many room).map fun x => gone room x l :=
  List.map_congr_left fun x hx => tby_told hr l (stk_mem hx).1
/-- all triples, some more than once or none -/
def trs (room many : Nat) : List Tr := (List.range (room + 1)).flatMap fun g => (List.range (room + 1)).flatMap fun k => (stk many room).map fun l => ⟨g, k, l⟩
theorem mem_trs {room many : Nat} {t : Tr} (a : TrOk room many t) : t ∈ trs room many := by
  have := a.gk
  have := a.kl
  unfold trs
  refine List.mem_flatMap.mpr ⟨t.g, List.mem_range.mpr (by omega), List.mem_flatMap.mpr ⟨t.k, List.mem_range.mpr (by omega), List.mem_map.mpr ⟨t.l, mem_stk (by omega) a.s, rfl⟩⟩⟩
theorem nodup_le {α : Type} [DecidableEq α] : ∀ {l m : List α}, l.Nodup → (∀ x ∈ l, x ∈ m) → l.length ≤ m.length
  | [], _, _, _ => Nat.zero_le _
  | x :: r, m, h, hs => by
    obtain ⟨h1, h2⟩ := List.nodup_cons.mp h
    have hx := hs x (List.mem_cons_self ..)
    have e := List.length_erase_of_mem hx
    have ih := nodup_le (l := r) (m := m.erase x) h2 fun y hy => by
      refine (List.mem_erase_of_ne (fun z => ?_)).mpr (hs y (List.mem_cons_of_mem _ hy))
      subst z
      exact h1 hy
    have hp := List.length_pos_of_mem hx
    show r.length + 1 ≤ m.length
    omega
theorem trs_len (room many : Nat) : (trs room many).length = (room + 1) * ((room + 1) * (stk many room).length) := by
  have h : ∀ (n : Nat) (f : Nat → List Tr) (c : Nat), (∀ i, (f i).length = c) → ((List.range n).flatMap f).length = n * c := fun n f c hf => by
    rw [List.length_flatMap]
    have e : (List.range n).map (fun i => (f i).length) = (List.range n).map fun _ => c := List.map_congr_left fun i _ => hf i
    rw [e, List.map_const', List.sum_replicate_nat, List.length_range]
  unfold trs
  rw [h _ _ ((room + 1) * (stk many room).length)]
  intro i
  rw [h _ _ (stk many room).length]
  intro j
  rw [List.length_map]
/-! ### what is found, what waits -/
def Stp (many c : Nat) : Prop := c = 45 ∨ c ∈ signs many
/-- by steps of this price -/
def Way (room many : Nat) (f : Nat → Int) (t : Tr) (v : Int) : Prop := ∃ l : List Nat, (∀ c ∈ l, Stp many c) ∧ ttold room l = t ∧ sprc f l = v
theorem Way.ok {room many : Nat} {f : Nat → Int} (hr : 1 ≤ room) {t : Tr} {v : Int} (h : Way room many f t v) : TrOk room many t := by
  obtain ⟨l, h1, rfl, _⟩ := h
  exact ttold_ok' hr h1
theorem told_snoc (room : Nat) (l : List Nat) (c : Nat) : ttold room (l ++ [c]) = tjoin (ttold room l) (tstep room c) := by
  unfold ttold
  rw [List.foldl_append]
  rfl
theorem Way.step {room many : Nat} {f : Nat → Int} {t : Tr} {v : Int} (h : Way room many f t v) {c : Nat} (hc : Stp many c) : Way room many f (tjoin t (tstep room c)) (v + f c) := by
  obtain ⟨l, h1, rfl, rfl⟩ := h
  refine ⟨l ++ [c], fun d hd => ?_, told_snoc room l c, ?_⟩
  · rcases List.mem_append.mp hd with h | h
    · exact h1 d h
    · have : d = c := by simpa using h
      subst this
      exact hc
  · rw [sprc_app, sprc_one]
theorem Way.none (room many : Nat) (f : Nat → Int) : Way room many f (tunt room) 0 := ⟨[], fun c hc => by simp at hc, rfl, rfl⟩
structure Fnd (room many : Nat) (f : Nat → Int) (now : Int) (L : List (Tr × Int)) : Prop where
  nd : (L.map (·.1)).Nodup
  way : ∀ p ∈ L, Way room many f p.1 p.2
  le : ∀ p ∈ L, p.2 ≤ now
theorem Fnd.len {room many : Nat} {f : Nat → Int} {now : Int} {L : List (Tr × Int)} (hr : 1 ≤ room) (F : Fnd room many f now L) : L.length ≤ (trs room many).length := by
  have h := nodup_le F.nd fun t ht => by
    obtain ⟨p, hp, rfl⟩ := List.mem_map.mp ht
    exact mem_trs ((F.way p hp).ok hr)
  rw [List.length_map] at h
  exact h
theorem Fnd.snoc {room many : Nat} {f : Nat → Int} {now : Int} {L : List (Tr × Int)} (F : Fnd room many f now L) {t : Tr} (ht : t ∉ L.map (·.1)) (hw : Way room many f t now) : Fnd room many f now (L ++ [(t, now)]) := by
  refine ⟨?_, fun p hp => ?_, fun p hp => ?_⟩
  · rw [List.map_append, List.nodup_append]
    refine ⟨F.nd, by simp, fun a ha b hb => ?_⟩
    have : b = t := by simpa using hb
    subst this
    intro z
    subst z
    exact ht ha
  · rcases List.mem_append.mp hp with h | h
    · exact F.way p h
    · have : p = (t, now) := by simpa using h
      subst this
      exact hw
  · rcases List.mem_append.mp hp with h | h
    · exact F.le p h
    · have : p = (t, now) := by simpa using h
      subst this
      exact Int.le_refl _
theorem Fnd.later {room many : Nat} {f : Nat → Int} {now now' : Int} {L : List (Tr × Int)} (F : Fnd room many f now L) (h : now ≤ now') : Fnd room many f now' L := ⟨F.nd, F.way, fun p hp => Int.le_trans (F.le p hp) h⟩
abbrev Wv := Int → Option (List Tr)
/-- found no later than v, or waiting for it -/
def Got (L : List (Tr × Int)) (wv : Wv) (t : Tr) (v : Int) : Prop := (∃ v', (t, v') ∈ L ∧ v' ≤ v) ∨ ∃ ts, wv v = some ts ∧ t ∈ ts
/-- .. or in the rest of those at hand -/
def GotR (L : List (Tr × Int)) (wv : Wv) (now : Int) (rest : List Tr) (t : Tr) (v : Int) : Prop := Got L wv t v ∨ (v = now ∧ t ∈ rest)
structure Wts (room many : Nat) (f : Nat → Int) (now M : Int) (P : Nat) (wv : Wv) : Prop where
  k : ∀ k ts, wv k = some ts → now ≤ k ∧ k < M ∧ ts.length ≤ P
  w : ∀ k ts, wv k = some ts → ∀ t ∈ ts, Way room many f t k
/-- ahead of a turn of the while -/
structure Top (room many : Nat) (f : Nat → Int) (now M : Int) (L : List (Tr × Int)) (wv : Wv) : Prop where
  F : Fnd room many f now L
  W : Wts room many f now M (1 + 5 * L.length) wv
  s : ∀ p ∈ L, ∀ c, Stp many c → Got L wv (tjoin p.1 (tstep room c)) (p.2 + f c)
  b : Got L wv (tunt room) 0
  m : M ≤ now + 100
  n : now ≤ M
  z : 0 ≤ now
/-- ahead of a turn of the for -/
structure Mid (room many : Nat) (f : Nat → Int) (now M : Int) (P : Nat) (L : List (Tr × Int)) (wv : Wv) (rest : List Tr) (todo : Nat → Prop) (t0 : Tr) : Prop where
  F : Fnd room many f now L
  W : Wts room many f (now + 1) M P wv
  s : ∀ p ∈ L, ∀ c, Stp many c → (p.1 = t0 → ¬ todo c) → GotR L wv now rest (tjoin p.1 (tstep room c)) (p.2 + f c)
  b : GotR L wv now rest (tunt room) 0
  r : ∀ t ∈ rest, Way room many f t now
def wdrop (wv : Wv) (k : Int) : Wv := fun j => if j = k then none else wv j
def wput (wv : Wv) (k : Int) (ts : List Tr) : Wv := fun j => if j = k then some ts else wv j
theorem Got.put {L : List (Tr × Int)} {wv : Wv} {t : Tr} {v k : Int} {u : Tr} (h : Got L wv t v) : Got L (wput wv k ((wv k).getD [] ++ [u])) t v := by
  rcases h with h | ⟨ts, h1, h2⟩
  · exact .inl h
  · refine .inr ?_
    by_cases e : v = k
    · subst e
      refine ⟨_, by unfold wput; rw [if_pos rfl], ?_⟩
      rw [h1]
      exact List.mem_append_left _ h2
    · exact ⟨ts, by unfold wput; rw [if_neg e]; exact h1, h2⟩
theorem Got.more {L : List (Tr × Int)} {wv : Wv} {t : Tr} {v : Int} {p : Tr × Int} (h : Got L wv t v) : Got (L ++ [p]) wv t v := by
  rcases h with ⟨v', h1, h2⟩ | h
  · exact .inl ⟨v', List.mem_append_left _ h1, h2⟩
  · exact .inr h
theorem GotR.put {L : List (Tr × Int)} {wv : Wv} {now : Int} {rest : List Tr} {t : Tr} {v k : Int} {u : Tr} (h : GotR L wv now rest t v) : GotR L (wput wv k ((wv k).getD [] ++ [u])) now rest t v := by
  rcases h with h | h
  · exact .inl h.put
  · exact .inr h
/-- the turn begins -/
theorem Top.mid {room many : Nat} {f : Nat → Int} {now M : Int} {L : List (Tr × Int)} {wv : Wv} (T : Top room many f now M L wv) (t0 : Tr) : Mid room many f now M (1 + 5 * L.length) L (wdrop wv now) ((wv now).getD []) (fun _ => False) t0 := by
  have hg : ∀ t v, Got L wv t v → GotR L (wdrop wv now) now ((wv now).getD []) t v := fun t v h => by
    rcases h with h | ⟨ts, h1, h2⟩
    · exact .inl (.inl h)
    · by_cases e : v = now
      · subst e
        refine .inr ⟨rfl, ?_⟩
        rw [h1]
        exact h2
      · exact .inl (.inr ⟨ts, by unfold wdrop; rw [if_neg e]; exact h1, h2⟩)
  refine ⟨T.F, ⟨fun k ts h => ?_, fun k ts h => ?_⟩, fun p hp c hc _ => hg _ _ (T.s p hp c hc), hg _ _ T.b, fun t ht => ?_⟩
  · unfold wdrop at h
    by_cases e : k = now
    · rw [if_pos e] at h
      cases h
    · rw [if_neg e] at h
      have := T.W.k k ts h
      exact ⟨by omega, this.2.1, this.2.2⟩
  · unfold wdrop at h
    by_cases e : k = now
    · rw [if_pos e] at h
      cases h
    · rw [if_neg e] at h
      exact T.W.w k ts h
  · cases e : wv now with
    | none =>
      rw [e] at ht
      cases ht
    | some ts =>
      rw [e] at ht
      exact T.W.w now ts e t ht
/-- one that was found -/
theorem Mid.skip {room many : Nat} {f : Nat → Int} {now M : Int} {P : Nat} {L : List (Tr × Int)} {wv : Wv} {t t0 t1 : Tr} {rest : List Tr} (m : Mid room many f now M P L wv (t :: rest) (fun _ => False) t0) (h : t ∈ L.map (·.1)) : Mid room many f now M P L wv rest (fun _ => False) t1 := by
  have hg : ∀ u v, GotR L wv now (t :: rest) u v → GotR L wv now rest u v := fun u v h2 => by
    rcases h2 with h2 | ⟨h2, h3⟩
    · exact .inl h2
    · rcases List.mem_cons.mp h3 with e | e
      · subst e
        obtain ⟨p, hp, rfl⟩ := List.mem_map.mp h
        exact .inl (.inl ⟨p.2, hp, by rw [h2]; exact m.F.le p hp⟩)
      · exact .inr ⟨h2, e⟩
  exact ⟨m.F, m.W, fun p hp c hc _ => hg _ _ (m.s p hp c hc fun _ z => z), hg _ _ m.b, fun u hu => m.r u (List.mem_cons_of_mem _ hu)⟩
/-- one that was not -/
theorem Mid.take {room many : Nat} {f : Nat → Int} {now M : Int} {P : Nat} {L : List (Tr × Int)} {wv : Wv} {t t0 : Tr} {rest : List Tr} (m : Mid room many f now M P L wv (t :: rest) (fun _ => False) t0) (h : t ∉ L.map (·.1)) : Mid room many f now M P (L ++ [(t, now)]) wv rest (fun _ => True) t := by
  have hw := m.r t (List.mem_cons_self ..)
  have hg : ∀ u v, GotR L wv now (t :: rest) u v → GotR (L ++ [(t, now)]) wv now rest u v := fun u v h2 => by
    rcases h2 with h2 | ⟨h2, h3⟩
    · exact .inl h2.more
    · rcases List.mem_cons.mp h3 with e | e
      · subst e
        exact .inl (.inl ⟨now, List.mem_append_right _ (by simp), by omega⟩)
      · exact .inr ⟨h2, e⟩
  refine ⟨m.F.snoc h hw, m.W, fun p hp c hc hn => ?_, hg _ _ m.b, fun u hu => m.r u (List.mem_cons_of_mem _ hu)⟩
  rcases List.mem_append.mp hp with h2 | h2
  · exact hg _ _ (m.s p h2 c hc fun _ z => z)
  · have e : p = (t, now) := by simpa using h2
    subst e
    exact absurd trivial (hn rfl)
/-- one step of it is laid by -/
theorem Mid.put {room many : Nat} {f : Nat → Int} {now M : Int} {P : Nat} {L : List (Tr × Int)} {wv : Wv} {t : Tr} {rest : List Tr} {todo todo' : Nat → Prop} (m : Mid room many f now M P L wv rest todo t) (ht : (t, now) ∈ L) {c : Nat} (hc : Stp many c) (h1 : 1 ≤ f c) (hM : now + f c < M) (hP : ((wv (now + f c)).getD []).length + 1 ≤ P + 1)
    (hd : ∀ d, Stp many d → todo d → d = c ∨ todo' d) : Mid room many f now M (P + 1) L (wput wv (now + f c) ((wv (now + f c)).getD [] ++ [tjoin t (tstep room c)])) rest todo' t := by
  have hw : Way room many f (tjoin t (tstep room c)) (now + f c) := (m.F.way _ ht).step hc
  refine ⟨m.F, ⟨fun k ts h => ?_, fun k ts h u hu => ?_⟩, fun p hp d hd2 hn => ?_, m.b.put, m.r⟩
  · unfold wput at h
    by_cases e : k = now + f c
    · rw [if_pos e] at h
      cases h
      refine ⟨by omega, by omega, ?_⟩
      rw [List.length_append]
      exact hP
    · rw [if_neg e] at h
      have := m.W.k k ts h
      exact ⟨this.1, this.2.1, by omega⟩
  · unfold wput at h
    by_cases e : k = now + f c
    · rw [if_pos e] at h
      cases h
      rcases List.mem_append.mp hu with h2 | h2
      · cases e2 : wv (now + f c) with
        | none =>
          rw [e2] at h2
          cases h2
        | some ts =>
          rw [e2] at h2
          rw [e]
          exact m.W.w _ ts e2 u h2
      · have : u = tjoin t (tstep room c) := by simpa using h2
        subst this
        rw [e]
        exact hw
    · rw [if_neg e] at h
      exact m.W.w k ts h u hu
  · by_cases e : p.1 = t ∧ d = c
    · obtain ⟨e1, e2⟩ := e
      subst e2
      have hp2 : p.2 ≤ now := m.F.le p hp
      have e3 : p.2 = now := by
        have h3 : ∀ (l : List (Tr × Int)), (l.map (·.1)).Nodup → ∀ a ∈ l, ∀ b ∈ l, a.1 = b.1 → a = b := fun l => by
          induction l with
          | nil => intro _ a ha; cases ha
          | cons x r ih =>
            intro hn a ha b hb e
            obtain ⟨n1, n2⟩ := List.nodup_cons.mp hn
            rcases List.mem_cons.mp ha with h | h <;> rcases List.mem_cons.mp hb with h' | h'
            · rw [h, h']
            · exact absurd (List.mem_map.mpr ⟨b, h', by rw [← e, h]⟩) n1
            · exact absurd (List.mem_map.mpr ⟨a, h, by rw [e, h']⟩) n1
            · exact ih n2 a h b h' e
        have := h3 L m.F.nd p hp (t, now) ht e1
        rw [this]
      rw [e1, e3]
      refine .inl (.inr ⟨_, by unfold wput; rw [if_pos rfl], List.mem_append_right _ (by simp)⟩)
    · refine (m.s p hp d hd2 fun e1 td => ?_).put
      rcases hd d hd2 td with h | h
      · exact e ⟨e1, h⟩
      · exact hn e1 h
theorem Mid.wider {room many : Nat} {f : Nat → Int} {now M M' : Int} {P P' : Nat} {L : List (Tr × Int)} {wv : Wv} {rest : List Tr} {todo : Nat → Prop} {t0 : Tr} (m : Mid room many f now M P L wv rest todo t0) (hM : M ≤ M') (hP : P ≤ P') : Mid room many f now M' P' L wv rest todo t0 :=
  ⟨m.F, ⟨fun k ts h => by
    have := m.W.k k ts h
    exact ⟨this.1, by omega, by omega⟩, m.W.w⟩, m.s, m.b, m.r⟩
theorem Mid.done {room many : Nat} {f : Nat → Int} {now M : Int} {P : Nat} {L : List (Tr × Int)} {wv : Wv} {rest : List Tr} {todo : Nat → Prop} {t0 t1 : Tr} (m : Mid room many f now M P L wv rest todo t0) (h : ∀ c, Stp many c → ¬ todo c) : Mid room many f now M P L wv rest (fun _ => False) t1 :=
  ⟨m.F, m.W, fun p hp c hc _ => m.s p hp c hc fun _ => h c hc, m.b, m.r⟩
/-- the turn ends -/
theorem Mid.top {room many : Nat} {f : Nat → Int} {now M : Int} {L : List (Tr × Int)} {wv : Wv} {t0 : Tr} (m : Mid room many f now M (1 + 5 * L.length) L wv [] (fun _ => False) t0) (hM : M ≤ now + 101) (hn : now + 1 ≤ M) (hz : 0 ≤ now) : Top room many f (now + 1) M L wv := by
  have hg : ∀ u v, GotR L wv now [] u v → Got L wv u v := fun u v h => by
    rcases h with h | ⟨_, h⟩
    · exact h
    · cases h
  exact ⟨m.F.later (by omega), m.W, fun p hp c hc => hg _ _ (m.s p hp c hc fun _ z => z), hg _ _ m.b, by omega, hn, by omega⟩
/-- at the end all are found, each at its least price -/
theorem Top.all {room many : Nat} {f : Nat → Int} {now M : Int} {L : List (Tr × Int)} {wv : Wv} (T : Top room many f now M L wv) (h : ∀ k, wv k = none) : ∀ (n : Nat) (l : List Nat), l.length = n → (∀ c ∈ l, Stp many c) → ∃ v, (ttold room l, v) ∈ L ∧ v ≤ sprc f l
  | 0, l, hn, hs => by
    have e := List.length_eq_zero_iff.mp hn
    subst e
    rcases T.b with h1 | ⟨ts, h1, _⟩
    · exact h1
    · rw [h] at h1
      cases h1
  | n + 1, l, hn, hs => by
    have hne : l ≠ [] := fun z => by
      subst z
      cases hn
    have e := List.dropLast_concat_getLast hne
    have hl : l.dropLast.length = n := by rw [List.length_dropLast, hn]; rfl
    obtain ⟨v, h1, h2⟩ := T.all h n l.dropLast hl fun c hc => hs c (List.dropLast_subset l hc)
    have hc := hs _ (List.getLast_mem hne)
    rcases T.s _ h1 _ hc with ⟨v', h3, h4⟩ | ⟨ts, h3, _⟩
    · refine ⟨v', ?_, ?_⟩
      · rw [← e, told_snoc]
        exact h3
      · rw [← e, sprc_app, sprc_one]
        have h4' : v' ≤ v + f (l.getLast hne) := h4
        omega
    · rw [h] at h3
      cases h3
theorem Top.least {room many c0 : Nat} {m q : Int} {f : Nat → Int} (P : Pay many m q f) (hr : 1 ≤ room) (h0 : c0 ∈ signs many) (hm : f c0 = m) {now M : Int} {L : List (Tr × Int)} {wv : Wv} (T : Top room many f now M L wv) (h : ∀ k, wv k = none) {t : Tr} (a : TrOk room many t) : (t, LB room m q f t) ∈ L := by
  obtain ⟨l, h1, h2, h3⟩ := LB_has P hr h0 hm a
  obtain ⟨v, h4, h5⟩ := T.all h _ l rfl h1
  rw [h2] at h4
  obtain ⟨l2, h6, h7, h8⟩ := T.F.way _ h4
  have h9 : LB room m q f t ≤ sprc f l2 := by
    have h10 := LB_told P hr h6
    rw [h7] at h10
    exact h10
  have h8' : sprc f l2 = v := h8
  have e : v = LB room m q f t := by omega
  rw [← e]
  exact h4
end SK
namespace SK
open PySem PySem.Spec PyProof.Rows L2
/-! ### (int, text) > (int, text) -/
theorem RcOp_gt_str {A : Around} {s : Shared} (a b : Str) (t u : Tok) : Ob.RcOp .Gt A s (.str a t) (.str b u) (decide (b.cps.toList < a.cps.toList)) := fun _ _ _ _ h => PySem.P.gt_str h
def rGtIS (K : PySem.W.Frag) : R2 := fun x y H Q => ∃ (a b : Addr) (i j : Int) (l m : List Nat), x = .ref a ∧ y = .ref b ∧ SqT K H a [.int i, .str (tx l)] ∧ SqT K H b [.int j, .str (tx m)] ∧
  Q (.bl (if i = j then (if l = m then false else decide (m < l)) else decide (j < i))) H
theorem op_gtIS {X : Cx} (hu : X.A.units < cLine) : OpR X (compareOp .Gt) (rGtIS X.K) := by
  intro pins s σ H x y v u Q I rx ry h
  obtain ⟨a, b, i, j, l, m, rfl, rfl, ha, hb, q⟩ := h
  cases rx
  cases ry
  obtain ⟨its, r1, p1, _⟩ := I.tuple ha
  obtain ⟨its2, r2, p2, _⟩ := I.tuple hb
  cases r1 with
  | cons x1 y1 =>
  cases y1 with
  | cons x2 y2 =>
  cases y2
  cases r2 with
  | cons w1 z1 =>
  cases z1 with
  | cons w2 z2 =>
  cases z2
  obtain ⟨t1, rfl⟩ := x1
  obtain ⟨t2, rfl⟩ := x2
  obtain ⟨t3, rfl⟩ := w1
  obtain ⟨t4, rfl⟩ := w2
  have R := Ob.RcOp.tuples_gt (A := X.A) (s := s) (e := fun n => if n = 0 then decide (i = j) else decide (l = m)) (r := fun n => if n = 0 then decide (j < i) else decide (m < l)) p1 p2 hu (fun n h1 h2 => by
    match n, h1, h2 with
    | 0, _, _ =>
      show SeqAt.EqAt _ _ (Value.int i t1) (.int j t3) (decide (i = j))
      have z : (i == j) = decide (i = j) := rfl
      rw [← z]
      exact SeqAt.EqAt.int_int _ _ _ _
    | 1, _, _ =>
      show SeqAt.EqAt _ _ (Value.str (tx l) t2) (.str (tx m) t4) (decide (l = m))
      have z : (tx l == tx m) = decide (l = m) := by
        by_cases e : l = m
        · subst e
          simp
        · rw [decide_eq_false e]
          exact beq_eq_false_iff_ne.mpr fun z => e (str_inj.mp z)
      rw [← z]
      exact SeqAt.EqAt.str_str _ _ _ _
    | n + 2, h1, _ => exact absurd h1 (by simp)) (fun n h1 h2 _ => by
    match n, h1, h2 with
    | 0, _, _ => exact Ob.RcOp.gt_int _ _ _ _
    | 1, _, _ => exact RcOp_gt_str _ _ _ _
    | n + 2, h1, _ => exact absurd h1 (by simp))
  refine R X.prog X.w _ _ ?_
  refine fin_bl I q ?_
  show _ = _
  simp [Ob.lexAt]
/-! ### what comes ahead -/
abbrev fz (l : List Nat) : V := V.str (tx l)
def hdV : Option (List Nat) → V
  | none => .non
  | some l => fz l
def BefAt (H : Hp) (v : V) (n : Nat) (o : Option (List Nat)) : Prop := ∃ a, v = .ref a ∧ H a = some (.tup [.int (n : Int), hdV o])
def spSize : Sp := fun vs H Q _ => ∃ many n : Nat, vs = [.int (many : Int), .int (n : Int)] ∧ many ≤ 4 ∧ n ≤ 9 ∧ giv (.int ((many ^ n : Nat) : Int)) H Q
def spUpto : Sp := fun vs H Q _ => ∃ many n : Nat, vs = [.int (many : Int), .int (n : Int)] ∧ many ≤ 4 ∧ n ≤ 9 ∧ giv (.int ((tupto many n : Nat) : Int)) H Q
def spLeft : Sp := fun vs H Q _ => ∃ (v : V) (p : Pl) (g k u : Nat), vs = [v, .int (g : Int), .int (k : Int), .int (u : Int)] ∧ PlanAt H v p ∧ p.Ok ∧ g + k ≤ p.room ∧ giv (.int ((bleft p.room p.many g k u : Nat) : Int)) H Q
def spBefores : Sp := fun vs H Q _ => ∃ v p u t l, vs = [v, u, .str (tx l)] ∧ PlanAt H v p ∧ p.Ok ∧ TripAt H u t ∧ TrOk p.room p.many t ∧ l.length ≤ p.room ∧ (∀ c ∈ l, c ∈ signs p.many) ∧
  ∀ (H' : Hp) (w : V), Same H H' → BefAt H' w (bef p.room p.many t l).length (bef p.room p.many t l).head? → Q w H'
theorem alk_bef {H : Hp} {k : Nat} {v w : V} {n : Nat} {o : Option (List Nat)} (hv : BefAt H v n o) (hw : BefAt H w n o) : Alk H (k + 2) v w := by
  obtain ⟨a, rfl, ha⟩ := hv
  obtain ⟨b, rfl, hb⟩ := hw
  refine .inr ⟨a, b, _, _, rfl, rfl, .inl ⟨ha, hb⟩, rfl, by show 2 ≤ 10000; decide, fun i x y e1 e2 => ?_⟩
  have e : x = y := Option.some.inj (e1.symm.trans e2)
  subst e
  refine .inl ⟨rfl, ?_⟩
  match i, e1 with
  | 0, e1 => cases e1; trivial
  | 1, e1 =>
    cases e1
    cases o with
    | none => trivial
    | some l => trivial
theorem mulZ {a b : Nat} (h : a ≤ 1000000000) : (-(2 ^ 64) < (a : Int) ∧ (a : Int) < 2 ^ 64) := by
  constructor <;> omega
theorem pow_le9 {many n : Nat} (h : many ≤ 4) (h9 : n ≤ 9) : many ^ n ≤ 262144 := by
  calc many ^ n ≤ 4 ^ n := Nat.pow_le_pow_left h n
    _ ≤ 4 ^ 9 := Nat.pow_le_pow_right (by decide) h9
    _ = 262144 := by decide
theorem tupto_sum (many : Nat) : ∀ n, ((List.range (n + 1)).map fun i => many ^ i).sum = tupto many n
  | 0 => by simp [tupto]
  | n + 1 => by
    rw [List.range_succ, List.map_append, List.sum_append, tupto_sum many n]
    simp [tupto]
theorem ends_app {a b : List Nat} : Txt.endswith (tx a) (tx b) = decide (b <:+ a) := by
  unfold Txt.endswith Builtin.Str.subAt
  rw [tx_len, tx_len, Nat.zero_add]
  by_cases h : b.length ≤ a.length
  · rw [decide_eq_true h, Bool.true_and]
    have e : (tx a).cps.extract (a.length - b.length) (a.length - b.length + b.length) = (a.drop (a.length - b.length)).toArray := by
      show a.toArray.extract _ _ = _
      have e1 : a.length - b.length + b.length = a.length := by omega
      rw [e1]
      simp
      rw [List.take_of_length_le (by rw [List.length_drop]; omega)]
    rw [e]
    show ((a.drop (a.length - b.length)).toArray == b.toArray) = _
    by_cases e2 : a.drop (a.length - b.length) = b
    · have hs : b <:+ a := ⟨a.take (a.length - b.length), by
        conv => rhs; rw [← List.take_append_drop (a.length - b.length) a, e2]⟩
      rw [e2, decide_eq_true hs]
      simp
    · have hs : ¬ b <:+ a := by
        rintro ⟨u, rfl⟩
        refine e2 ?_
        rw [List.length_append, Nat.add_sub_cancel, List.drop_left]
      rw [decide_eq_false hs]
      exact beq_eq_false_iff_ne.mpr fun z => e2 (by simpa using z)
  · have hs : ¬ b <:+ a := by
      rintro ⟨u, rfl⟩
      exact h (by rw [List.length_append]; omega)
    rw [decide_eq_false h, Bool.false_and, decide_eq_false hs]
theorem tby_in {room many : Nat} {t : Tr} (ok : TrOk room many t) {x : List Nat} (h : ∀ c ∈ x, c ∈ signs many) : ∀ c ∈ tby t x, c ∈ signs many := fun c hc => by
  rcases List.mem_append.mp (show c ∈ tp t.k (ct t.g x) ++ t.l from hc) with h1 | h1
  · exact h c (mem_ct (mem_tp h1))
  · exact ok.s c h1
theorem bef_mem {room many : Nat} {t : Tr} {s x : List Nat} : x ∈ bef room many t s ↔ x ∈ stk many room ∧ tby t x = s := by
  unfold bef
  rw [List.mem_filter, decide_eq_true_iff]
theorem head_le {α : Type} {R : α → α → Prop} {l : List α} {x y : α} (h : l.Pairwise R) (hx : l.head? = some x) (hy : y ∈ l) : y = x ∨ R x y := by
  cases l with
  | nil => cases hx
  | cons z r =>
    cases hx
    rcases List.mem_cons.mp hy with e | e
    · exact .inl e
    · exact .inr ((List.pairwise_cons.mp h).1 y e)
/-- the first of those is not behind any of them -/
theorem bef_least {room many : Nat} {t : Tr} {s x f : List Nat} (hf : (bef room many t s).head? = some f) (hx : x ∈ bef room many t s) : (if (f.length : Int) = (x.length : Int) then (if f = x then false else decide (x < f)) else decide ((x.length : Int) < (f.length : Int))) = false := by
  have hp : (bef room many t s).Pairwise Bef := (stk_up many room).filter _
  rcases head_le hp hf hx with e | e
  · subst e
    simp
  · rcases e with e | ⟨e1, e2⟩
    · rw [if_neg (by omega)]
      exact decide_eq_false (by omega)
    · rw [if_pos (by omega)]
      by_cases h : f = x
      · rw [if_pos h]
      · rw [if_neg h]
        exact decide_eq_false fun z => List.lt_irrefl _ (List.lt_trans e2 z)
end SK
namespace SK
open PySem PySem.Spec PyProof.Rows L2
theorem szl2 {n : Nat} (h : n ≤ 3000000) : n < sizeLine := Nat.lt_of_lt_of_le (show n < 16777216 by omega) (by decide)
end SK
namespace SK
open PySem PySem.Spec PyProof.Rows L2
/-- len of a list or a tuple, its frame named -/
def rLenS (K : PySem.W.Frag) : List V → Hp → VK → Prop := fun xs H Q => ∃ p ys, xs = [.ref p] ∧ (SqL K H p ys ∨ SqT K H p ys) ∧ Q (.int (ys.length : Int)) H
theorem call_lenS {X : Cx} : CallR X (.builtin "len") (rLenS X.K) := call_len_seq
end SK
namespace SK
open PySem PySem.Spec PyProof.Rows L2
theorem hu1 {k : Nat} {A : Around} (r : Room k A) : A.units + 1 < cLine := by have := r.un; omega
theorem hu0 {k : Nat} {A : Around} (r : Room k A) : A.units < cLine := by have := r.un; omega
/-! ### a dict != an empty one -/
def rNeDE : R2 := fun x y H Q => ∃ a b ks, x = .ref a ∧ y = .ref b ∧ H a = some (.dK ks) ∧ H b = some (.dK []) ∧ Q (.bl (!decide (ks = []))) H
theorem op_neDE {X : Cx} (hu : X.A.units < cLine) : OpR X (compareOp .NotEq) rNeDE := by
  intro pins s σ H x y v u Q I rx ry h
  obtain ⟨a, b, ks, rfl, rfl, ea, eb, q⟩ := h
  obtain rfl : v = Value.ref a := rx
  obtain rfl : u = Value.ref b := ry
  obtain ⟨_, ya, va, ra, da⟩ := (show ObjOk X.prog X.w H s.heap a (.dK ks) from I.hok a _ ea)
  obtain ⟨_, yb, vb, rb, db⟩ := (show ObjOk X.prog X.w H s.heap b (.dK []) from I.hok b _ eb)
  have l1 := ra.length
  have l2 := rb.length
  refine PySem.W.keq_ne (knd := mixKind X.prog X.w) (r := true) ya yb da db hu (fun e => ?_) (fin_bl I q ?_)
  · have : va = [] := List.length_eq_zero_iff.mp (by rw [e, ← l2]; rfl)
    subst this
    exact .nil
  · have e2 : vb.length = 0 := by rw [← l2]; rfl
    rw [e2]
    cases ks with
    | nil =>
      have e1 : va.length = 0 := by rw [← l1]; rfl
      rw [e1]
      rfl
    | cons p r =>
      have e1 : va.length = r.length + 1 := by rw [← l1]; rfl
      rw [e1]
      rfl
/-! ### lists of states -/
def TsAt (H : Hp) (room many : Nat) : List Tr → List V → Prop
  | [], vs => vs = []
  | t :: r, vs => ∃ a s, vs = .ref a :: s ∧ H a = some (.tup ((ims room many t).map fz)) ∧ TsAt H room many r s
theorem TsAt.tups {H H' : Hp} {room many : Nat} (e : Tups H H') : ∀ {ts : List Tr} {vs : List V}, TsAt H room many ts vs → TsAt H' room many ts vs
  | [], _, h => h
  | _ :: _, _, ⟨a, s, h1, h2, h3⟩ => ⟨a, s, h1, e _ _ h2, h3.tups e⟩
theorem TsAt.len {H : Hp} {room many : Nat} : ∀ {ts : List Tr} {vs : List V}, TsAt H room many ts vs → vs.length = ts.length
  | [], _, h => by cases h; rfl
  | _ :: r, _, ⟨a, s, h1, h2, h3⟩ => by
    subst h1
    show s.length + 1 = r.length + 1
    rw [h3.len]
theorem TsAt.get {H : Hp} {room many : Nat} : ∀ {ts : List Tr} {vs : List V}, TsAt H room many ts vs → ∀ {i : Nat} {x : V}, vs[i]? = some x → ∃ t a, ts[i]? = some t ∧ x = .ref a ∧ H a = some (.tup ((ims room many t).map fz))
  | [], vs, h, i, x, e => by
    cases h
    cases e
  | t :: r, vs, ⟨a, s, h1, h2, h3⟩, i, x, e => by
    subst h1
    cases i with
    | zero =>
      cases e
      exact ⟨t, a, rfl, rfl, h2⟩
    | succ i => exact h3.get (i := i) e
theorem TsAt.snoc {H : Hp} {room many : Nat} {t : Tr} {a : Addr} (ha : H a = some (.tup ((ims room many t).map fz))) : ∀ {ts : List Tr} {vs : List V}, TsAt H room many ts vs → TsAt H room many (ts ++ [t]) (vs ++ [.ref a])
  | [], _, h => by
    cases h
    exact ⟨a, [], rfl, ha, rfl⟩
  | _ :: _, _, ⟨b, s, h1, h2, h3⟩ => by
    subst h1
    exact ⟨b, s ++ [.ref a], rfl, h2, h3.snoc ha⟩
/-! ### what waits, as a dict of lists -/
structure WRel (H : Hp) (room many : Nat) (kvs : List (Key × V)) (wv : Wv) : Prop where
  no : ∀ k : Int, wv k = none → valV kvs (.inl k) = none
  at_ : ∀ (k : Int) (ts : List Tr), wv k = some ts → ∃ b us, valV kvs (.inl k) = some (.ref b) ∧ H b = some (.lst us) ∧ TsAt H room many ts us
  int : ∀ p ∈ kvs, ∃ k : Int, p.1 = .inl k
/-- all but two dicts stand, both being tables -/
theorem WRel.keep {H H' : Hp} {room many : Nat} {kvs : List (Key × V)} {wv : Wv} (h : WRel H room many kvs wv) (e : ∀ b xs, H b = some (.lst xs) → H' b = some (.lst xs)) (t : Tups H H') : WRel H' room many kvs wv :=
  ⟨h.no, fun k ts hk => by
    obtain ⟨b, us, h1, h2, h3⟩ := h.at_ k ts hk
    exact ⟨b, us, h1, e _ _ h2, h3.tups t⟩, h.int⟩
theorem valV_drop {κ : Type} [DecidableEq κ] (k j : κ) : ∀ kvs : List (κ × V), valV (dropK kvs k) j = if j = k then none else valV kvs j
  | [] => by
    by_cases e : j = k
    · rw [if_pos e]
      rfl
    · rw [if_neg e]
      rfl
  | p :: r => by
    have ih := valV_drop k j r
    by_cases e1 : p.1 = k
    · have e2 : dropK (p :: r) k = dropK r k := by
        unfold dropK
        rw [List.filter_cons_of_neg (by simp [e1])]
      rw [e2, ih]
      by_cases e : j = k
      · rw [if_pos e, if_pos e]
      · rw [if_neg e, if_neg e, valV_neg (fun z => e (z.symm.trans e1))]
    · have e2 : dropK (p :: r) k = p :: dropK r k := by
        unfold dropK
        rw [List.filter_cons_of_pos (by simp [e1])]
      rw [e2]
      by_cases e3 : p.1 = j
      · rw [valV_pos e3, if_neg (fun z => e1 (e3.trans z)), valV_pos e3]
      · rw [valV_neg e3, ih, valV_neg e3]
theorem inl_ne {a b : Int} (h : ¬ a = b) : ¬ (Sum.inl a : Key) = Sum.inl b := fun z => h (Sum.inl.inj z)
theorem WRel.drop {H : Hp} {room many : Nat} {kvs : List (Key × V)} {wv : Wv} (h : WRel H room many kvs wv) (k : Int) : WRel H room many (dropK kvs (.inl k)) (wdrop wv k) := by
  refine ⟨fun j hj => ?_, fun j ts hj => ?_, fun p hp => h.int p (List.mem_filter.mp hp).1⟩
  · rw [valV_drop]
    by_cases e : j = k
    · rw [if_pos (congrArg Sum.inl e)]
    · rw [if_neg (inl_ne e)]
      unfold wdrop at hj
      rw [if_neg e] at hj
      exact h.no j hj
  · unfold wdrop at hj
    by_cases e : j = k
    · rw [if_pos e] at hj
      cases hj
    · rw [if_neg e] at hj
      rw [valV_drop, if_neg (inl_ne e)]
      exact h.at_ j ts hj
theorem WRel.same {H : Hp} {room many : Nat} {kvs : List (Key × V)} {wv : Wv} (h : WRel H room many kvs wv) {k : Int} (hk : valV kvs (.inl k) = none) : WRel H room many kvs (wdrop wv k) := by
  refine ⟨fun j hj => ?_, fun j ts hj => ?_, h.int⟩
  · by_cases e : j = k
    · subst e
      exact hk
    · unfold wdrop at hj
      rw [if_neg e] at hj
      exact h.no j hj
  · unfold wdrop at hj
    by_cases e : j = k
    · rw [if_pos e] at hj
      cases hj
    · rw [if_neg e] at hj
      exact h.at_ j ts hj
theorem WRel.put {H : Hp} {room many : Nat} {kvs : List (Key × V)} {wv : Wv} (h : WRel H room many kvs wv) {k : Int} {b : Addr} {ts : List Tr} {us : List V} (hb : H b = some (.lst us)) (hu : TsAt H room many ts us) : WRel H room many (putK kvs (.inl k) (.ref b)) (wput wv k ts) := by
  refine ⟨fun j hj => ?_, fun j ts2 hj => ?_, fun p hp => ?_⟩
  · unfold wput at hj
    by_cases e : j = k
    · rw [if_pos e] at hj
      cases hj
    · rw [if_neg e] at hj
      rw [valV_put, if_neg (inl_ne e)]
      exact h.no j hj
  · unfold wput at hj
    by_cases e : j = k
    · rw [if_pos e] at hj
      cases hj
      exact ⟨b, us, by rw [valV_put, if_pos (congrArg Sum.inl e)], hb, hu⟩
    · rw [if_neg e] at hj
      rw [valV_put, if_neg (inl_ne e)]
      exact h.at_ j ts2 hj
  · unfold putK at hp
    split at hp
    · obtain ⟨q, hq, rfl⟩ := List.mem_map.mp hp
      obtain ⟨j, hj⟩ := h.int q hq
      split
      · exact ⟨j, hj⟩
      · exact ⟨j, hj⟩
    · rcases List.mem_append.mp hp with z | z
      · exact h.int p z
      · have : p = (Sum.inl k, .ref b) := by simpa using z
        subst this
        exact ⟨k, rfl⟩
theorem WRel.nil {H : Hp} {room many : Nat} {wv : Wv} (h : WRel H room many [] wv) : ∀ k, wv k = none := fun k => by
  cases e : wv k with
  | none => rfl
  | some ts =>
    obtain ⟨b, us, h1, _⟩ := h.at_ k ts e
    cases h1
theorem WRel.cons {H : Hp} {room many : Nat} {p : Key × V} {r : List (Key × V)} {wv : Wv} (h : WRel H room many (p :: r) wv) : ∃ k ts, wv k = some ts := by
  obtain ⟨k, hk⟩ := h.int p (List.mem_cons_self ..)
  cases e : wv k with
  | some ts => exact ⟨k, ts, e⟩
  | none =>
    have := h.no k e
    rw [valV_pos hk] at this
    cases this
theorem Got.of_get {wv : Wv} {k : Int} {H : Hp} {room many : Nat} {kvs : List (Key × V)} (h : WRel H room many kvs wv) : (valV kvs (.inl k) = none ∧ (wv k).getD [] = []) ∨ ∃ b us, valV kvs (.inl k) = some (.ref b) ∧ H b = some (.lst us) ∧ TsAt H room many ((wv k).getD []) us := by
  cases e : wv k with
  | none => exact .inl ⟨h.no k e, rfl⟩
  | some ts => exact .inr (h.at_ k ts e)
/-! ### what is found, as a dict whose keys are tuples of texts -/
def tkey (room many : Nat) (t : Tr) : List Key := (ims room many t).map fun l => Sum.inr (tx l)
theorem tkey_kV (room many : Nat) (t : Tr) : (tkey room many t).map kV = (ims room many t).map fz := by
  unfold tkey
  rw [List.map_map]
  rfl
theorem tkey_inj {room many : Nat} (hm : 1 ≤ many) {t u : Tr} (a : TrOk room many t) (b : TrOk room many u) (h : tkey room many t = tkey room many u) : t = u := by
  refine ims_inj hm a b ?_
  unfold tkey at h
  have h2 : ∀ (x y : List (List Nat)), (x.map fun l => (Sum.inr (tx l) : Key)) = y.map (fun l => Sum.inr (tx l)) → x = y := fun x => by
    induction x with
    | nil =>
      intro y hy
      cases y with
      | nil => rfl
      | cons c d => cases hy
    | cons p r ih =>
      intro y hy
      cases y with
      | nil => cases hy
      | cons c d =>
        injection hy with h1 h2
        rw [str_inj.mp (Sum.inr.inj h1), ih d h2]
  exact h2 _ _ h
def fkv (room many : Nat) (L : List (Tr × Int)) : List (List Key × V) := L.map fun p => (tkey room many p.1, V.int p.2)
theorem fkv_out {room many : Nat} (hm : 1 ≤ many) {t : Tr} (a : TrOk room many t) : ∀ (L : List (Tr × Int)), (∀ p ∈ L, TrOk room many p.1) → t ∉ L.map (·.1) → valV (fkv room many L) (tkey room many t) = none
  | [], _, _ => rfl
  | p :: r, ok, h => by
    show valV ((tkey room many p.1, V.int p.2) :: fkv room many r) _ = _
    rw [valV_neg (fun z => h (by rw [List.map_cons, tkey_inj hm (ok p (List.mem_cons_self ..)) a z]; exact List.mem_cons_self ..))]
    exact fkv_out hm a r (fun q hq => ok q (List.mem_cons_of_mem _ hq)) fun z => h (List.mem_cons_of_mem _ z)
theorem fkv_in {room many : Nat} (hm : 1 ≤ many) {t : Tr} {v : Int} : ∀ (L : List (Tr × Int)), (∀ p ∈ L, TrOk room many p.1) → (L.map (·.1)).Nodup → (t, v) ∈ L → valV (fkv room many L) (tkey room many t) = some (.int v)
  | [], _, _, h => by cases h
  | p :: r, ok, nd, h => by
    show valV ((tkey room many p.1, V.int p.2) :: fkv room many r) _ = _
    obtain ⟨n1, n2⟩ := List.nodup_cons.mp nd
    rcases List.mem_cons.mp h with e | e
    · subst e
      rw [valV_pos rfl]
    · have hp : ¬ tkey room many p.1 = tkey room many t := fun z => by
        have e2 := tkey_inj hm (ok p (List.mem_cons_self ..)) (ok _ h) z
        exact n1 (by show p.1 ∈ _; rw [e2]; exact List.mem_map.mpr ⟨_, e, rfl⟩)
      rw [valV_neg hp]
      exact fkv_in hm r (fun q hq => ok q (List.mem_cons_of_mem _ hq)) n2 e
theorem fkv_some {room many : Nat} (hm : 1 ≤ many) {t : Tr} {L : List (Tr × Int)} (ok : ∀ p ∈ L, TrOk room many p.1) (a : TrOk room many t) (nd : (L.map (·.1)).Nodup) : (valV (fkv room many L) (tkey room many t)).isSome = decide (t ∈ L.map (·.1)) := by
  by_cases h : t ∈ L.map (·.1)
  · obtain ⟨p, hp, rfl⟩ := List.mem_map.mp h
    rw [decide_eq_true h, fkv_in hm L ok nd (v := p.2) hp]
    rfl
  · rw [decide_eq_false h, fkv_out hm a L ok h]
    rfl
theorem fkv_put {room many : Nat} (hm : 1 ≤ many) {t : Tr} {v : Int} {L : List (Tr × Int)} (ok : ∀ p ∈ L, TrOk room many p.1) (a : TrOk room many t) (h : t ∉ L.map (·.1)) : putK (fkv room many L) (tkey room many t) (.int v) = fkv room many (L ++ [(t, v)]) := by
  rw [putK_new _ (fkv_out hm a L ok h)]
  unfold fkv
  rw [List.map_append]
  rfl
/-! ### promises -/
def spLLeast : Sp := fun vs H Q _ => ∃ (v : V) (p : Pl) (D : Addr) (ps : List Int) (f : Nat → Int) (m q : Int) (c0 : Nat), vs = [v, .ref D] ∧ PlanAt H v p ∧ p.Ok ∧ p.room ≤ 4 ∧ p.many ≤ 3 ∧ H D = some (.lst (ps.map V.int)) ∧ (∀ k, k < p.many → ps[k]? = some (f (97 + k))) ∧ ps[p.many]? = some (f 45) ∧
  (∀ c, Stp p.many c → 1 ≤ f c ∧ f c ≤ 99) ∧ Pay p.many m q f ∧ c0 ∈ signs p.many ∧ f c0 = m ∧
  ∀ (F : Addr) (H' : Hp) (kvs : List (List Key × V)), Same H H' → H F = none → H' F = some (.dT kvs) → (∀ t, TrOk p.room p.many t → valV kvs (tkey p.room p.many t) = some (.int (LB p.room m q f t))) → Q (.ref F) H'
def spJudgedA : Sp := fun vs H Q _ => ∃ v p u t l, vs = [v, u, .str (tx l)] ∧ PlanAt H v p ∧ p.Ok ∧ TripAt H u t ∧ TrOk p.room p.many t ∧ l.length ≤ 10000 ∧ (∀ c ∈ l, c = 45 ∨ c ∈ signs p.many) ∧ giv (if ttold p.room l = t then .int (sprc (cst p) l) else .non) H Q
end SK
namespace SK
open PySem PySem.Spec PyProof.Rows L2
/-! ### a reading, one word opened -/
theorem tseq_i {t u : TS} {D : Ends} {σ : L2.St} {H : Hp} (h : t { D with nx := u D } σ H) : tSeq t u D σ H := h
theorem tfor_i {wi : TI} {g : TG} {tb : TS} {D : Ends} {σ : L2.St} {H : Hp} (h : wi σ H fun J H1 => ∃ W : Nat → Nat → L2.St → Hp → Prop, (∃ m, W 0 m σ H1) ∧ ∀ i m σ H, W i m σ H →
  (J.stop i H ∧ D.nx σ H) ∨ (J.go i H ∧ ∃ N : L2.St → Hp → Prop, (∀ σ' H', N σ' H' → ∃ m', m' < m ∧ W (i + 1) m' σ' H') ∧ ∀ x H', J.yld i H x H' → g x σ H' fun σ2 H2 => tb { D with nx := N, ct := N, bk := D.nx } σ2 H2)) : tFor wi g tb D σ H := h
theorem ilist_i {K : PySem.W.Frag} {tl : TE} {σ : L2.St} {H : Hp} {R : It → Hp → Prop} (h : tl σ H fun x H1 => ∃ a, x = .ref a ∧ (∃ xs, SqL K H1 a xs) ∧ R (Itl K a) H1) : iList K tl σ H R := h
theorem sdput_i {td ty tv : TE} {D : Ends} {σ : L2.St} {H : Hp} (h : tv σ H fun v H1 => td σ H1 fun x H2 => ty σ H2 fun y H3 => ∃ a H4, x = .ref a ∧ DPut H3 a y v H4 ∧ D.nx σ H4) : sDPut td ty tv D σ H := h
theorem top_i {r : R2} {ta tb : TE} {σ : L2.St} {H : Hp} {Q : VK} (h : ta σ H fun x H1 => tb σ H1 fun y H2 => r x y H2 Q) : tOp r ta tb σ H Q := h
end SK
namespace SK
open PySem PySem.Spec PyProof.Rows L2
def top (i : Nat) : Stmt := PySem.Challenge.pw_sinkstack_k05_cheapest_by_all_steps.main.body.getD i (.Pass ⟨0, 0, 0, 0⟩)
abbrev s_signs_of : Stmt := top 10
abbrev N_signs_of : List Str := ["plan"]
abbrev P_signs_of : List Str := ["plan"]
theorem sc_signs_of : FnScope N_signs_of P_signs_of (defScope s_signs_of) := ⟨rfl, rfl, rfl, by decide +kernel, rfl, by decide +kernel, by decide +kernel⟩
abbrev s_is_number : Stmt := top 11
abbrev N_is_number : List Str := ["value", "low", "high"]
abbrev P_is_number : List Str := ["value", "low", "high"]
theorem sc_is_number : FnScope N_is_number P_is_number (defScope s_is_number) := ⟨rfl, rfl, rfl, by decide +kernel, rfl, by decide +kernel, by decide +kernel⟩
abbrev s_is_text_of : Stmt := top 12
abbrev N_is_text_of : List Str := ["value", "signs", "sign"]
abbrev P_is_text_of : List Str := ["value", "signs"]
theorem sc_is_text_of : FnScope N_is_text_of P_is_text_of (defScope s_is_text_of) := ⟨rfl, rfl, rfl, by decide +kernel, rfl, by decide +kernel, by decide +kernel⟩
abbrev s_check_plan : Stmt := top 13
abbrev N_check_plan : List Str := ["plan", "room", "many", "prices", "pop_price"]
abbrev P_check_plan : List Str := ["plan"]
theorem sc_check_plan : FnScope N_check_plan P_check_plan (defScope s_check_plan) := ⟨rfl, rfl, rfl, by decide +kernel, rfl, by decide +kernel, by decide +kernel⟩
abbrev s_are_prices : Stmt := top 14
abbrev N_are_prices : List Str := ["prices", "many", "price"]
abbrev P_are_prices : List Str := ["prices", "many"]
theorem sc_are_prices : FnScope N_are_prices P_are_prices (defScope s_are_prices) := ⟨rfl, rfl, rfl, by decide +kernel, rfl, by decide +kernel, by decide +kernel⟩
abbrev s_check_steps : Stmt := top 15
abbrev N_check_steps : List Str := ["plan", "steps"]
abbrev P_check_steps : List Str := ["plan", "steps"]
theorem sc_check_steps : FnScope N_check_steps P_check_steps (defScope s_check_steps) := ⟨rfl, rfl, rfl, by decide +kernel, rfl, by decide +kernel, by decide +kernel⟩
abbrev s_check_triple : Stmt := top 16
abbrev N_check_triple : List Str := ["plan", "triple"]
abbrev P_check_triple : List Str := ["plan", "triple"]
theorem sc_check_triple : FnScope N_check_triple P_check_triple (defScope s_check_triple) := ⟨rfl, rfl, rfl, by decide +kernel, rfl, by decide +kernel, by decide +kernel⟩
abbrev s_is_triple : Stmt := top 17
abbrev N_is_triple : List Str := ["plan", "triple", "room", "gone", "kept", "laid"]
abbrev P_is_triple : List Str := ["plan", "triple"]
theorem sc_is_triple : FnScope N_is_triple P_is_triple (defScope s_is_triple) := ⟨rfl, rfl, rfl, by decide +kernel, rfl, by decide +kernel, by decide +kernel⟩
abbrev s_told_of_steps : Stmt := top 19
abbrev N_told_of_steps : List Str := ["plan", "steps"]
abbrev P_told_of_steps : List Str := ["plan", "steps"]
theorem sc_told_of_steps : FnScope N_told_of_steps P_told_of_steps (defScope s_told_of_steps) := ⟨rfl, rfl, rfl, by decide +kernel, rfl, by decide +kernel, by decide +kernel⟩
abbrev s_triple_of_steps : Stmt := top 20
abbrev N_triple_of_steps : List Str := ["plan", "steps", "whole", "step"]
abbrev P_triple_of_steps : List Str := ["plan", "steps"]
theorem sc_triple_of_steps : FnScope N_triple_of_steps P_triple_of_steps (defScope s_triple_of_steps) := ⟨rfl, rfl, rfl, by decide +kernel, rfl, by decide +kernel, by decide +kernel⟩
abbrev s_triple_of_step : Stmt := top 21
abbrev N_triple_of_step : List Str := ["plan", "step"]
abbrev P_triple_of_step : List Str := ["plan", "step"]
theorem sc_triple_of_step : FnScope N_triple_of_step P_triple_of_step (defScope s_triple_of_step) := ⟨rfl, rfl, rfl, by decide +kernel, rfl, by decide +kernel, by decide +kernel⟩
abbrev s_untouched : Stmt := top 22
abbrev N_untouched : List Str := ["plan"]
abbrev P_untouched : List Str := ["plan"]
theorem sc_untouched : FnScope N_untouched P_untouched (defScope s_untouched) := ⟨rfl, rfl, rfl, by decide +kernel, rfl, by decide +kernel, by decide +kernel⟩
abbrev s_tidied : Stmt := top 23
abbrev N_tidied : List Str := ["gone", "kept", "laid"]
abbrev P_tidied : List Str := ["gone", "kept", "laid"]
theorem sc_tidied : FnScope N_tidied P_tidied (defScope s_tidied) := ⟨rfl, rfl, rfl, by decide +kernel, rfl, by decide +kernel, by decide +kernel⟩
abbrev s_join_triples : Stmt := top 24
abbrev N_join_triples : List Str := ["one", "other", "gone", "kept", "laid", "next_gone", "next_kept", "next_laid", "deeper", "left", "still_kept"]
abbrev P_join_triples : List Str := ["one", "other"]
theorem sc_join_triples : FnScope N_join_triples P_join_triples (defScope s_join_triples) := ⟨rfl, rfl, rfl, by decide +kernel, rfl, by decide +kernel, by decide +kernel⟩
abbrev s_without_top : Stmt := top 25
abbrev N_without_top : List Str := ["stack", "many"]
abbrev P_without_top : List Str := ["stack", "many"]
theorem sc_without_top : FnScope N_without_top P_without_top (defScope s_without_top) := ⟨rfl, rfl, rfl, by decide +kernel, rfl, by decide +kernel, by decide +kernel⟩
abbrev s_top_of : Stmt := top 26
abbrev N_top_of : List Str := ["stack", "many"]
abbrev P_top_of : List Str := ["stack", "many"]
theorem sc_top_of : FnScope N_top_of P_top_of (defScope s_top_of) := ⟨rfl, rfl, rfl, by decide +kernel, rfl, by decide +kernel, by decide +kernel⟩
abbrev s_cheapest : Stmt := top 28
abbrev N_cheapest : List Str := ["plan", "triple", "way", "steps"]
abbrev P_cheapest : List Str := ["plan", "triple"]
theorem sc_cheapest : FnScope N_cheapest P_cheapest (defScope s_cheapest) := ⟨rfl, rfl, rfl, by decide +kernel, rfl, by decide +kernel, by decide +kernel⟩
abbrev s_fewest : Stmt := top 29
abbrev N_fewest : List Str := ["plan", "triple", "popped", "filled"]
abbrev P_fewest : List Str := ["plan", "triple"]
theorem sc_fewest : FnScope N_fewest P_fewest (defScope s_fewest) := ⟨rfl, rfl, rfl, by decide +kernel, rfl, by decide +kernel, by decide +kernel⟩
abbrev s_judged : Stmt := top 30
abbrev N_judged : List Str := ["plan", "triple", "steps"]
abbrev P_judged : List Str := ["plan", "triple", "steps"]
theorem sc_judged : FnScope N_judged P_judged (defScope s_judged) := ⟨rfl, rfl, rfl, by decide +kernel, rfl, by decide +kernel, by decide +kernel⟩
abbrev s_ways : Stmt := top 31
abbrev N_ways : List Str := ["plan", "triple", "gone", "kept", "laid", "room"]
abbrev P_ways : List Str := ["plan", "triple"]
theorem sc_ways : FnScope N_ways P_ways (defScope s_ways) := ⟨rfl, rfl, rfl, by decide +kernel, rfl, by decide +kernel, by decide +kernel⟩
abbrev s_cheapest_way : Stmt := top 32
abbrev N_cheapest_way : List Str := ["plan", "triple", "filler_price", "pop_price"]
abbrev P_cheapest_way : List Str := ["plan", "triple"]
theorem sc_cheapest_way : FnScope N_cheapest_way P_cheapest_way (defScope s_cheapest_way) := ⟨rfl, rfl, rfl, by decide +kernel, rfl, by decide +kernel, by decide +kernel⟩
abbrev s_steps_of_way : Stmt := top 33
abbrev N_steps_of_way : List Str := ["plan", "way", "laid", "popped", "filled", "filling"]
abbrev P_steps_of_way : List Str := ["plan", "way", "laid"]
theorem sc_steps_of_way : FnScope N_steps_of_way P_steps_of_way (defScope s_steps_of_way) := ⟨rfl, rfl, rfl, by decide +kernel, rfl, by decide +kernel, by decide +kernel⟩
abbrev s_cheapest_sign : Stmt := top 34
abbrev N_cheapest_sign : List Str := ["plan", "prices"]
abbrev P_cheapest_sign : List Str := ["plan"]
theorem sc_cheapest_sign : FnScope N_cheapest_sign P_cheapest_sign (defScope s_cheapest_sign) := ⟨rfl, rfl, rfl, by decide +kernel, rfl, by decide +kernel, by decide +kernel⟩
abbrev s_price_of_steps : Stmt := top 35
abbrev N_price_of_steps : List Str := ["plan", "steps", "step"]
abbrev P_price_of_steps : List Str := ["plan", "steps"]
theorem sc_price_of_steps : FnScope N_price_of_steps P_price_of_steps (defScope s_price_of_steps) := ⟨rfl, rfl, rfl, by decide +kernel, rfl, by decide +kernel, by decide +kernel⟩
abbrev s_price_of_step : Stmt := top 36
abbrev N_price_of_step : List Str := ["plan", "step"]
abbrev P_price_of_step : List Str := ["plan", "step"]
theorem sc_price_of_step : FnScope N_price_of_step P_price_of_step (defScope s_price_of_step) := ⟨rfl, rfl, rfl, by decide +kernel, rfl, by decide +kernel, by decide +kernel⟩
abbrev s_law_begun : Stmt := top 38
abbrev N_law_begun : List Str := ["_law_script", "_law_stirred", "_law_cell"]
abbrev P_law_begun : List Str := ["_law_script"]
theorem sc_law_begun : FnScope N_law_begun P_law_begun (defScope s_law_begun) := ⟨rfl, rfl, rfl, by decide +kernel, rfl, by decide +kernel, by decide +kernel⟩
abbrev s_law_take : Stmt := top 39
abbrev N_law_take : List Str := ["_law_box", "_law_size", "_law_figure"]
abbrev P_law_take : List Str := ["_law_box", "_law_size"]
theorem sc_law_take : FnScope N_law_take P_law_take (defScope s_law_take) := ⟨rfl, rfl, rfl, by decide +kernel, rfl, by decide +kernel, by decide +kernel⟩
abbrev s_law_alike : Stmt := top 40
abbrev N_law_alike : List Str := ["_law_found", "_law_due", "_law_k"]
abbrev P_law_alike : List Str := ["_law_found", "_law_due"]
theorem sc_law_alike : FnScope N_law_alike P_law_alike (defScope s_law_alike) := ⟨rfl, rfl, rfl, by decide +kernel, rfl, by decide +kernel, by decide +kernel⟩
abbrev s_law_plan : Stmt := top 41
abbrev N_law_plan : List Str := ["_law_box", "_law_room", "_law_signs_here", "_law_size", "_law_prices", "_law_k"]
abbrev P_law_plan : List Str := ["_law_box", "_law_room", "_law_signs_here"]
theorem sc_law_plan : FnScope N_law_plan P_law_plan (defScope s_law_plan) := ⟨rfl, rfl, rfl, by decide +kernel, rfl, by decide +kernel, by decide +kernel⟩
abbrev s_law_signs : Stmt := top 42
abbrev N_law_signs : List Str := ["_law_box", "_law_plan_here", "_law_limit", "_law_k"]
abbrev P_law_signs : List Str := ["_law_box", "_law_plan_here", "_law_limit"]
theorem sc_law_signs : FnScope N_law_signs P_law_signs (defScope s_law_signs) := ⟨rfl, rfl, rfl, by decide +kernel, rfl, by decide +kernel, by decide +kernel⟩
abbrev s_law_steps : Stmt := top 43
abbrev N_law_steps : List Str := ["_law_box", "_law_plan_here", "_law_limit", "_law_found", "_law_turn"]
abbrev P_law_steps : List Str := ["_law_box", "_law_plan_here", "_law_limit"]
theorem sc_law_steps : FnScope N_law_steps P_law_steps (defScope s_law_steps) := ⟨rfl, rfl, rfl, by decide +kernel, rfl, by decide +kernel, by decide +kernel⟩
abbrev s_law_triple : Stmt := top 47
abbrev N_law_triple : List Str := ["_law_box", "_law_plan_here", "_law_kept", "_law_laid"]
abbrev P_law_triple : List Str := ["_law_box", "_law_plan_here"]
theorem sc_law_triple : FnScope N_law_triple P_law_triple (defScope s_law_triple) := ⟨rfl, rfl, rfl, by decide +kernel, rfl, by decide +kernel, by decide +kernel⟩
abbrev s_law_step : Stmt := top 48
abbrev N_law_step : List Str := ["_law_plan_here", "_law_stack", "_law_sign"]
abbrev P_law_step : List Str := ["_law_plan_here", "_law_stack", "_law_sign"]
theorem sc_law_step : FnScope N_law_step P_law_step (defScope s_law_step) := ⟨rfl, rfl, rfl, by decide +kernel, rfl, by decide +kernel, by decide +kernel⟩
abbrev s_law_gone : Stmt := top 49
abbrev N_law_gone : List Str := ["_law_plan_here", "_law_stack", "_law_steps_here", "_law_sign"]
abbrev P_law_gone : List Str := ["_law_plan_here", "_law_stack", "_law_steps_here"]
theorem sc_law_gone : FnScope N_law_gone P_law_gone (defScope s_law_gone) := ⟨rfl, rfl, rfl, by decide +kernel, rfl, by decide +kernel, by decide +kernel⟩
abbrev s_law_by : Stmt := top 50
abbrev N_law_by : List Str := ["_law_triple_here", "_law_stack", "_law_gone_here", "_law_kept", "_law_laid", "_law_left"]
abbrev P_law_by : List Str := ["_law_triple_here", "_law_stack"]
theorem sc_law_by : FnScope N_law_by P_law_by (defScope s_law_by) := ⟨rfl, rfl, rfl, by decide +kernel, rfl, by decide +kernel, by decide +kernel⟩
abbrev s_law_stacks : Stmt := top 51
abbrev N_law_stacks : List Str := ["_law_plan_here", "_law_found", "_law_last", "_law_size", "_law_longer", "_law_one", "_law_sign"]
abbrev P_law_stacks : List Str := ["_law_plan_here"]
theorem sc_law_stacks : FnScope N_law_stacks P_law_stacks (defScope s_law_stacks) := ⟨rfl, rfl, rfl, by decide +kernel, rfl, by decide +kernel, by decide +kernel⟩
abbrev s_law_least : Stmt := top 53
abbrev N_law_least : List Str := ["_law_plan_here", "_law_prices", "_law_begin", "_law_found", "_law_now", "_law_waits", "_law_one", "_law_k", "_law_sign", "_law_later", "_law_stack"]
abbrev P_law_least : List Str := ["_law_plan_here", "_law_prices"]
theorem sc_law_least : FnScope N_law_least P_law_least (defScope s_law_least) := ⟨rfl, rfl, rfl, by decide +kernel, rfl, by decide +kernel, by decide +kernel⟩
abbrev s_law : Stmt := top 54
abbrev N_law : List Str := ["_law_script", "_law_box", "_law_plan_here", "_law_stacks_here", "_law_table", "_law_steps_of", "_law_turn", "_law_triple_here", "_law_done_so", "_law_price", "_law_steps_here", "_law_paid", "_law_other", "_law_same", "_law_again", "_law_stack", "_law_sign"]
abbrev P_law : List Str := ["_law_script"]
theorem sc_law : FnScope N_law P_law (defScope s_law) := ⟨rfl, rfl, rfl, by decide +kernel, rfl, by decide +kernel, by decide +kernel⟩
/-! ### what the module's names hold -/
structure Gx (mg : Str → Option Value) : Prop where
  SIGNS : ∃ u, mg "SIGNS" = some u ∧ RelV (.str (tx [97, 98, 99, 100])) u
  POP_STEP : ∃ u, mg "POP_STEP" = some u ∧ RelV (.str (tx [45])) u
  MOST_ROOM : ∃ u, mg "MOST_ROOM" = some u ∧ RelV (.int 9) u
  MOST_PRICE : ∃ u, mg "MOST_PRICE" = some u ∧ RelV (.int 99) u
  isi : mg "isinstance" = none
  bool : mg "bool" = none
  int : mg "int" = none
  str : mg "str" = none
  tuple : mg "tuple" = none
  len : mg "len" = none
  all : mg "all" = none
  max : mg "max" = none
  min : mg "min" = none
  range : mg "range" = none
  list : mg "list" = none
  reversed : mg "reversed" = none
  sum : mg "sum" = none
  abs : mg "abs" = none
section
variable {P : Program} {w : World} {K : PySem.W.Frag} {mg : Str → Option Value} {base : Heap}
theorem ok_signs_of (D : Dn K mg "signs_of" s_signs_of P_signs_of) (g : Gx mg) : C8.Cal P w K mg base 1 "signs_of" spSigns [] := by
  refine D.cal sc_signs_of (fun vs H Q E h => ?_) (fun f cdv A outer s H vs Q E hr h => ?_)
  · obtain ⟨v, p, rfl, ⟨a, b, rfl, ha, hb⟩, ok, q⟩ := h
    rfl
  obtain ⟨v, p, rfl, ⟨a, b, rfl, ha, hb⟩, ok, q⟩ := h
  have nd := sc_signs_of.nd
  refine ⟨_, (pss_one (ps_ret (pe_slice sl_str (C8.pe_gc rfl g.SIGNS) po_none (po_some (pe_ix ix_tup (pv 0) pe_int (fun _ _ => rfl)))))), ?_⟩
  refine ⟨_, rfl, a, _, 1, _, rfl, rfl, SqT.of ha, rfl, _, rfl, _, rfl, sz (by decide), ?_⟩
  rw [cut_to (l := [97, 98, 99, 100]) (n := p.many) ok.m4]
  exact q H (Same.refl H)
theorem ok_is_number (D : Dn K mg "is_number" s_is_number P_is_number) (g : Gx mg) : C8.Cal P w K mg base 1 "is_number" spNum [] := by
  refine D.cal sc_is_number (fun vs H Q E h => ?_) (fun f cdv A outer s H vs Q E hr h => ?_)
  · obtain ⟨i, lo, hi, rfl, q⟩ := h
    rfl
  obtain ⟨i, lo, hi, rfl, q⟩ := h
  have nd := sc_is_number.nd
  refine ⟨_, (pss_one (ps_ret (pe_and (pe_callB call_isi rfl g.isi b_isi (pa_cons (pv 0) (pa_cons (pe_bltn (v := .ty "int") rfl g.int b_int rfl) pa_nil))) (pe_and (pe_not (pe_callB call_isi rfl g.isi b_isi (pa_cons (pv 0) (pa_cons (pe_bltn (v := .ty "bool") rfl g.bool b_bool rfl) pa_nil)))) (pe_one (pe_chain op_le op_le (pv 1) (pv 0) (pv 2))))))), ?_⟩
  refine ⟨_, rfl, _, _, _, _, _, rfl, .ty "int", ty_int, kit_ty k_int_int, _, rfl, iteT ?_⟩
  refine ⟨_, rfl, _, _, _, _, _, rfl, .ty "bool", ty_int, kit_ty k_int_bool, _, rfl, _, rfl, iteT ?_⟩
  refine ⟨_, rfl, _, rfl, _, _, rfl, rfl, _, rfl, ite2 (fun c => ?_) (fun c => ?_)⟩
  · have c1 : lo ≤ i := of_decide_eq_true c
    refine ⟨_, rfl, _, _, rfl, rfl, ?_⟩
    have e : decide (lo ≤ i ∧ i ≤ hi) = decide (i ≤ hi) := by simp [c1]
    have q1 := q H (Same.refl H)
    rw [e] at q1
    exact q1
  · have c1 : ¬ lo ≤ i := fun z => c (decide_eq_true z)
    have e : decide (lo ≤ i ∧ i ≤ hi) = false := by simp [c1]
    have q1 := q H (Same.refl H)
    rw [e] at q1
    exact q1
theorem ok_is_text_of (D : Dn K mg "is_text_of" s_is_text_of P_is_text_of) (g : Gx mg) : C8.Cal P w K mg base 1 "is_text_of" spTextOf [] := by
  refine D.cal sc_is_text_of (fun vs H Q E h => ?_) (fun f cdv A outer s H vs Q E hr h => ?_)
  · obtain ⟨l, sg, rfl, hl, q⟩ := h
    rfl
  obtain ⟨l, sg, rfl, hl, q⟩ := h
  have nd := sc_is_text_of.nd
  refine ⟨_, (pss_one (ps_ret (pe_and (pe_callB call_isi rfl g.isi b_isi (pa_cons (pv 0) (pa_cons (pe_bltn (v := .ty "str") rfl g.str b_str rfl) pa_nil))) (pe_one (pe_callB (cr_all rfl) rfl g.all b_all (pa_cons (pe_lc (own := [("sign", 2)]) rfl nd (pi_str (pv 0)) (blkOk_by (own := [("sign", 2)]) (N := N_is_text_of) (sc := defScope s_is_text_of) (by decide +kernel)) (fun _ _ _ _ _ => (pg_name (i := 2) nd rfl (.inl rfl))) (fun _ _ _ _ _ => pts_nil) (fun _ _ _ _ _ => (pe_cmpR op_in_sign (pv 2) (pv 1) rfl))) pa_nil)))))), ?_⟩
  refine ⟨_, rfl, _, _, _, _, _, rfl, .ty "str", ty_str, kit_ty k_str_str, _, rfl, iteT ?_⟩
  refine ⟨_, rfl, _, rfl, fun D hD => ?_⟩
  have hn : (tx l).cps.size = l.length := tx_len l
  refine lc_it (walk_str (z := tx l)) (fun i H2 => Same H H2 ∧ H2 D = some (.lst ((l.take i).map fun c => V.bl (decide (c ∈ sg))))) ⟨Same.new hD _, upd_same⟩ (fun _ _ _ _ => trivial) ?_ ?_
  · rintro i x H2 H3 hi ⟨s2, h2⟩ ⟨rfl, c, hc, rfl⟩
    have hc' : l[i]? = some c := by
      rw [← hc]
      simp [tx]
    refine ⟨rfl, ?_⟩
    refine ⟨_, rfl, _, rfl, c, tx sg, rfl, rfl, _, h2, ?_, fun b o e => ?_, ?_⟩
    · rw [List.length_map, List.length_take]
      exact szl (by omega)
    · rw [upd_ne (ne_of_none e hD)]
      exact s2 b o e
    · rw [upd_same, List.take_add_one, hc']
      simp [tx_list]
      exact decide_eq_decide.mpr Iff.rfl
  · rintro H2 ⟨s2, h2⟩
    rw [hn, List.take_of_length_le (Nat.le_refl _)] at h2
    refine ⟨D, l.map fun c => decide (c ∈ sg), rfl, SqL.of (by rw [h2, List.map_map]; rfl), ?_⟩
    have e : (l.map fun c => decide (c ∈ sg)).all id = decide (∀ c ∈ l, c ∈ sg) := by
      rw [List.all_map, Bool.eq_iff_iff]
      simp
    rw [e]
    exact q H2 s2
theorem ok_are_prices (D : Dn K mg "are_prices" s_are_prices P_are_prices) (g : Gx mg) (c_is_number : C8.Cal P w K mg base 1 "is_number" spNum []) : C8.Cal P w K mg base 2 "are_prices" spPrices [] := by
  refine D.cal sc_are_prices (fun vs H Q E h => ?_) (fun f cdv A outer s H vs Q E hr h => ?_)
  · obtain ⟨b, p, rfl, hb, ok, q⟩ := h
    rfl
  obtain ⟨b, p, rfl, hb, ok, q⟩ := h
  have nd := sc_are_prices.nd
  refine ⟨_, (pss_cons (ps_if (PW.pt (pw_or (pt_not (pt_val (pe_callB call_isi rfl g.isi b_isi (pa_cons (pv 0) (pa_cons (pe_bltn (v := .ty "tuple") rfl g.tuple b_tuple rfl) pa_nil))))) (pw_or1 (pt_cmpR op_ne (pe_callB call_len_seq rfl g.len PySem.boot_len (pa_cons (pv 0) pa_nil)) (pv 1) (nomark _))))) (pss_one (ps_ret pe_bl)) pss_nil)
    (pss_one (ps_ret (pe_callB (cr_all rfl) rfl g.all b_all (pa_cons (pe_lc (own := [("price", 2)]) rfl nd (pi_tup (pv 0)) (blkOk_by (own := [("price", 2)]) (N := N_are_prices) (sc := defScope s_are_prices) (by decide +kernel)) (fun _ _ _ _ _ => (pg_name (i := 2) nd rfl (.inl rfl))) (fun _ _ _ _ _ => pts_nil) (fun _ _ _ _ _ => (C8.pe_c c_is_number (by exact hr) (by decide) rfl (pa_cons (pv 2) (pa_cons pe_int (pa_cons (C8.pe_gc rfl g.MOST_PRICE) pa_nil)))))) pa_nil))))), ?_⟩
  have hl : (p.pr.map V.int).length = p.many := by rw [List.length_map]; exact ok.pl
  refine ⟨_, rfl, _, _, _, _, _, rfl, .ty "tuple", hb.ty, kit_ty k_tup_tup, _, rfl, iteF ?_⟩
  refine ⟨_, rfl, b, _, rfl, .inr (TupF.sq hb), _, rfl, rfl, _, rfl, iteNS (by rw [hl]) ?_⟩
  refine ⟨_, rfl, b, rfl, ⟨_, TupF.sq hb⟩, fun D hD => ?_⟩
  refine lc_it (walk_tup (a := b) (xs := p.pr.map V.int)) (fun i H2 => Same H H2 ∧ H2 D = some (.lst ((List.replicate i true).map V.bl))) ⟨Same.new hD _, upd_same⟩ (fun i H2 _ h2 => TupF.sq (PrAt.mono hb h2.1)) ?_ ?_
  · rintro i x H2 H3 hi ⟨s2, h2⟩ ⟨rfl, hx⟩
    rw [List.getElem?_map] at hx
    obtain ⟨y, hy, rfl⟩ := Option.map_eq_some_iff.mp hx
    have hy' := ok.pr y (List.mem_of_getElem? hy)
    refine ⟨rfl, ?_⟩
    refine ⟨_, rfl, y, 1, 99, rfl, fun H4 s4 => ⟨_, s4 _ _ h2, ?_, fun b o e => ?_, ?_⟩⟩
    · rw [List.length_map, List.length_replicate]
      have := ok.m4
      exact szl (by omega)
    · rw [upd_ne (ne_of_none e hD)]
      exact s4 _ _ (s2 b o e)
    · rw [upd_same, List.replicate_succ', List.map_append, decide_eq_true hy']
      rfl
  · rintro H2 ⟨s2, h2⟩
    refine ⟨D, _, rfl, SqL.of h2, ?_⟩
    have e : (List.replicate (p.pr.map V.int).length true).all id = true := by simp
    rw [e]
    exact q H2 s2
theorem mem_steps {c n : Nat} : c ∈ signs n ++ [45] ↔ c = 45 ∨ c ∈ signs n := by
  rw [List.mem_append, List.mem_singleton, Or.comm]
theorem ok_check_plan (D : Dn K mg "check_plan" s_check_plan P_check_plan) (g : Gx mg) (c_is_number : C8.Cal P w K mg base 1 "is_number" spNum []) (c_are_prices : C8.Cal P w K mg base 2 "are_prices" spPrices []) : C8.Cal P w K mg base 3 "check_plan" spChPlan [] := by
  refine D.cal sc_check_plan (fun vs H Q E h => ?_) (fun f cdv A outer s H vs Q E hr h => ?_)
  · obtain ⟨v, p, rfl, ⟨a, b, rfl, ha, hb⟩, ok, q⟩ := h
    rfl
  obtain ⟨v, p, rfl, ⟨a, b, rfl, ha, hb⟩, ok, q⟩ := h
  have nd := sc_check_plan.nd
  refine ⟨_, (pss_cons (ps_if (PW.pt (pw_or (pt_not (pt_val (pe_callB call_isi rfl g.isi b_isi (pa_cons (pv 0) (pa_cons (pe_bltn (v := .ty "tuple") rfl g.tuple b_tuple rfl) pa_nil))))) (pw_or1 (pt_cmpR op_ne (pe_callB call_len_seq rfl g.len PySem.boot_len (pa_cons (pv 0) pa_nil)) pe_int (nomark _))))) (pss_one ps_never) pss_nil)
    (pss_cons (ps_asg (pv 0) (pg_tup (by rfl) (pgs_cons (pg_name (i := 1) nd rfl (.inl rfl)) (pgs_cons (pg_name (i := 2) nd rfl (.inl rfl)) (pgs_cons (pg_name (i := 3) nd rfl (.inl rfl)) (pgs_cons (pg_name (i := 4) nd rfl (.inl rfl)) pgs_nil))))))
    (pss_cons (ps_if (pt_not (pt_val (C8.pe_c c_is_number hr (by decide) rfl (pa_cons (pv 1) (pa_cons pe_int (pa_cons (C8.pe_gc rfl g.MOST_ROOM) pa_nil)))))) (pss_one ps_never) pss_nil)
    (pss_cons (ps_if (pt_not (pt_val (C8.pe_c c_is_number hr (by decide) rfl (pa_cons (pv 2) (pa_cons pe_int (pa_cons (pe_callB call_len_str rfl g.len PySem.boot_len (pa_cons (C8.pe_gc rfl g.SIGNS) pa_nil)) pa_nil)))))) (pss_one ps_never) pss_nil)
    (pss_cons (ps_if (pt_not (pt_val (C8.pe_c c_are_prices hr (by decide) rfl (pa_cons (pv 3) (pa_cons (pv 2) pa_nil))))) (pss_one ps_never) pss_nil)
    (pss_one (ps_if (pt_not (pt_val (C8.pe_c c_is_number hr (by decide) rfl (pa_cons (pv 4) (pa_cons pe_int (pa_cons (C8.pe_gc rfl g.MOST_PRICE) pa_nil)))))) (pss_one ps_never) pss_nil))))))), ?_⟩
  refine ⟨_, rfl, _, _, _, _, _, rfl, .ty "tuple", ty_tup ha, kit_ty k_tup_tup, _, rfl, iteF ?_⟩
  refine ⟨_, rfl, a, _, rfl, .inr (SqT.of ha), rfl, _, rfl, iteNS rfl ?_⟩
  refine ⟨_, rfl, a, _, rfl, SqT.of ha, rfl, _, _, rfl, _, _, rfl, _, _, rfl, _, _, rfl, rfl, ?_⟩
  have e0 : decide ((1 : Int) ≤ (p.room : Int) ∧ (p.room : Int) ≤ 9) = true := decide_eq_true (by have := ok.r1; have := ok.r9; omega)
  have e1 : decide ((1 : Int) ≤ (p.many : Int) ∧ (p.many : Int) ≤ 4) = true := decide_eq_true (by have := ok.m1; have := ok.m4; omega)
  have e3 : decide ((1 : Int) ≤ p.pop ∧ p.pop ≤ 99) = true := decide_eq_true ⟨ok.q1, ok.q9⟩
  refine ⟨_, rfl, p.room, 1, 9, rfl, fun H1 s1 => ⟨_, rfl, ?_⟩⟩
  rw [e0]
  refine iteF ?_
  refine ⟨_, rfl, _, rfl, by rw [tx_len]; exact sz (by decide), p.many, 1, 4, rfl, fun H2 s2 => ⟨_, rfl, ?_⟩⟩
  rw [e1]
  refine iteF ?_
  refine ⟨_, rfl, _, rfl, b, p, rfl, PrAt.mono hb (s1.trans s2), ok, fun H3 s3 => ⟨_, rfl, iteF ?_⟩⟩
  refine ⟨_, rfl, p.pop, 1, 99, rfl, fun H4 s4 => ⟨_, rfl, ?_⟩⟩
  rw [e3]
  refine iteF ?_
  exact q H4 (s1.trans (s2.trans (s3.trans s4)))
theorem ok_check_steps (D : Dn K mg "check_steps" s_check_steps P_check_steps) (g : Gx mg) (c_signs_of : C8.Cal P w K mg base 1 "signs_of" spSigns []) (c_is_text_of : C8.Cal P w K mg base 1 "is_text_of" spTextOf []) : C8.Cal P w K mg base 2 "check_steps" spChSteps [] := by
  refine D.cal sc_check_steps (fun vs H Q E h => ?_) (fun f cdv A outer s H vs Q E hr h => ?_)
  · obtain ⟨v, p, l, rfl, ⟨a, b, rfl, ha, hb⟩, ok, hl, hs, q⟩ := h
    rfl
  obtain ⟨v, p, l, rfl, ⟨a, b, rfl, ha, hb⟩, ok, hl, hs, q⟩ := h
  have nd := sc_check_steps.nd
  refine ⟨_, (pss_one (ps_if (pt_not (pt_val (C8.pe_c c_is_text_of hr (by decide) rfl (pa_cons (pv 1) (pa_cons (pe_op op_add_str (C8.pe_c c_signs_of hr (by decide) rfl (pa_cons (pv 0) pa_nil)) (C8.pe_gc rfl g.POP_STEP)) pa_nil))))) (pss_one ps_never) pss_nil)), ?_⟩
  refine ⟨_, rfl, _, rfl, _, p, rfl, ⟨a, b, rfl, ha, hb⟩, ok, fun H1 s1 => ⟨_, _, rfl, rfl, ?_, ?_⟩⟩
  · rw [tx_len, tx_len]
    have := signs_len p.many
    exact sz (by simp; omega)
  rw [tx_app]
  refine ⟨l, _, rfl, hl, fun H2 s2 => ⟨_, rfl, ?_⟩⟩
  rw [decide_eq_true (fun c hc => mem_steps.mpr (hs c hc))]
  exact iteF (q H2 (s1.trans s2))
theorem ok_is_triple (D : Dn K mg "is_triple" s_is_triple P_is_triple) (g : Gx mg) (c_is_number : C8.Cal P w K mg base 1 "is_number" spNum []) (c_signs_of : C8.Cal P w K mg base 1 "signs_of" spSigns []) (c_is_text_of : C8.Cal P w K mg base 1 "is_text_of" spTextOf []) : C8.Cal P w K mg base 2 "is_triple" spIsTriple [] := by
  refine D.cal sc_is_triple (fun vs H Q E h => ?_) (fun f cdv A outer s H vs Q E hr h => ?_)
  · obtain ⟨v, p, u, t, rfl, ⟨a, b, rfl, ha, hb⟩, ok, ⟨c, rfl, hc⟩, tok, q⟩ := h
    rfl
  obtain ⟨v, p, u, t, rfl, ⟨a, b, rfl, ha, hb⟩, ok, ⟨c, rfl, hc⟩, tok, q⟩ := h
  have nd := sc_is_triple.nd
  refine ⟨_, (pss_cons (ps_if (PW.pt (pw_or (pt_not (pt_val (pe_callB call_isi rfl g.isi b_isi (pa_cons (pv 1) (pa_cons (pe_bltn (v := .ty "tuple") rfl g.tuple b_tuple rfl) pa_nil))))) (pw_or1 (pt_cmpR op_ne (pe_callB call_len_seq rfl g.len PySem.boot_len (pa_cons (pv 1) pa_nil)) pe_int (nomark _))))) (pss_one (ps_ret pe_bl)) pss_nil)
    (pss_cons (ps_set (i := 2) nd rfl (.inl rfl) (pe_ix ix_tup (pv 0) pe_int (fun _ _ => rfl)))
    (pss_cons (ps_asg (pv 1) (pg_tup (by rfl) (pgs_cons (pg_name (i := 3) nd rfl (.inl rfl)) (pgs_cons (pg_name (i := 4) nd rfl (.inl rfl)) (pgs_cons (pg_name (i := 5) nd rfl (.inl rfl)) pgs_nil)))))
    (pss_cons (ps_if (PW.pt (pw_or (pt_not (pt_val (C8.pe_c c_is_number hr (by decide) rfl (pa_cons (pv 3) (pa_cons pe_int (pa_cons (pv 2) pa_nil)))))) (pw_or1 (pt_not (pt_val (C8.pe_c c_is_number hr (by decide) rfl (pa_cons (pv 4) (pa_cons pe_int (pa_cons (pv 2) pa_nil))))))))) (pss_one (ps_ret pe_bl)) pss_nil)
    (pss_cons (ps_if (pt_not (pt_val (C8.pe_c c_is_text_of hr (by decide) rfl (pa_cons (pv 5) (pa_cons (C8.pe_c c_signs_of hr (by decide) rfl (pa_cons (pv 0) pa_nil)) pa_nil))))) (pss_one (ps_ret pe_bl)) pss_nil)
    (pss_cons (ps_if (PW.pt (pw_and (pt_cmpR op_eq (pv 4) pe_int (nomark _)) (pw_and1 (pt_cmpR op_ne (pv 3) pe_int (nomark _))))) (pss_one (ps_ret pe_bl)) pss_nil)
    (pss_one (ps_ret (pe_and (pe_cmpR op_le (pe_op op_add (pv 3) (pv 4)) (pv 2) (nomark _)) (pe_one (pe_cmpR op_le (pe_op op_add (pe_callB call_len_str rfl g.len PySem.boot_len (pa_cons (pv 5) pa_nil)) (pv 4)) (pv 2) (nomark _)))))))))))), ?_⟩
  have h1 := tok.gk
  have h2 := tok.kl
  have h3 := tok.z
  have hr9 := ok.r9
  refine ⟨_, rfl, _, _, _, _, _, rfl, .ty "tuple", ty_tup hc, kit_ty k_tup_tup, _, rfl, iteF ?_⟩
  refine ⟨_, rfl, c, _, rfl, .inr (SqT.of hc), rfl, _, rfl, iteNS rfl ?_⟩
  refine ⟨_, rfl, a, _, 0, _, rfl, rfl, SqT.of ha, rfl, ?_⟩
  refine ⟨_, rfl, c, _, rfl, SqT.of hc, rfl, _, _, rfl, _, _, rfl, _, _, rfl, rfl, ?_⟩
  refine ⟨_, rfl, _, rfl, t.g, 0, p.room, rfl, fun H1 s1 => ⟨_, rfl, ?_⟩⟩
  rw [decide_eq_true (by omega)]
  refine iteF ?_
  refine ⟨_, rfl, _, rfl, t.k, 0, p.room, rfl, fun H2 s2 => ⟨_, rfl, ?_⟩⟩
  rw [decide_eq_true (by omega)]
  refine iteF ?_
  refine ⟨_, rfl, _, rfl, _, p, rfl, ⟨a, b, rfl, (s1.trans s2) _ _ ha, PrAt.mono hb (s1.trans s2)⟩, ok, fun H3 s3 => ?_⟩
  refine ⟨t.l, signs p.many, rfl, by omega, fun H4 s4 => ⟨_, rfl, ?_⟩⟩
  rw [decide_eq_true tok.s]
  refine iteF ?_
  refine ⟨_, rfl, rfl, _, rfl, ite2 (fun z => ?_) (fun z => ?_)⟩
  · have z1 : t.k = 0 := by
      have z1 := of_decide_eq_true z
      injection z1 with z2
      omega
    have z2 := h3 z1
    refine ⟨_, rfl, rfl, _, rfl, iteNS (by rw [z2]; rfl) ?_⟩
    refine ⟨_, rfl, _, rfl, _, _, rfl, rfl, _, rfl, _, _, rfl, rfl, _, rfl, ?_⟩
    rw [decide_eq_true (by omega)]
    refine iteT ⟨_, rfl, _, rfl, by rw [tx_len]; exact sz (by omega), _, rfl, _, _, rfl, rfl, _, rfl, _, _, rfl, rfl, ?_⟩
    show Q (.bl (decide (((tx t.l).length : Int) + (t.k : Int) ≤ (p.room : Int)))) H4
    rw [tx_len, decide_eq_true (by omega)]
    exact q _ (s1.trans (s2.trans (s3.trans s4)))
  · refine iteF ?_
    refine ⟨_, rfl, _, rfl, _, _, rfl, rfl, _, rfl, _, _, rfl, rfl, _, rfl, ?_⟩
    rw [decide_eq_true (by omega)]
    refine iteT ⟨_, rfl, _, rfl, by rw [tx_len]; exact sz (by omega), _, rfl, _, _, rfl, rfl, _, rfl, _, _, rfl, rfl, ?_⟩
    show Q (.bl (decide (((tx t.l).length : Int) + (t.k : Int) ≤ (p.room : Int)))) H4
    rw [tx_len, decide_eq_true (by omega)]
    exact q _ (s1.trans (s2.trans (s3.trans s4)))
theorem ok_check_triple (D : Dn K mg "check_triple" s_check_triple P_check_triple) (g : Gx mg) (c_is_triple : C8.Cal P w K mg base 2 "is_triple" spIsTriple []) : C8.Cal P w K mg base 3 "check_triple" spChTriple [] := by
  refine D.cal sc_check_triple (fun vs H Q E h => ?_) (fun f cdv A outer s H vs Q E hr h => ?_)
  · obtain ⟨v, p, u, t, rfl, hp, ok, ht, tok, q⟩ := h
    rfl
  obtain ⟨v, p, u, t, rfl, hp, ok, ht, tok, q⟩ := h
  have nd := sc_check_triple.nd
  refine ⟨_, (pss_one (ps_if (pt_not (pt_val (C8.pe_c c_is_triple hr (by decide) rfl (pa_cons (pv 0) (pa_cons (pv 1) pa_nil))))) (pss_one ps_never) pss_nil)), ?_⟩
  refine ⟨_, rfl, _, rfl, v, p, u, t, rfl, hp, ok, ht, tok, fun H1 s1 => ⟨_, rfl, iteF ?_⟩⟩
  exact q H1 s1
theorem ok_without_top (D : Dn K mg "without_top" s_without_top P_without_top) (g : Gx mg) : C8.Cal P w K mg base 1 "without_top" spWithout [] := by
  refine D.cal sc_without_top (fun vs H Q E h => ?_) (fun f cdv A outer s H vs Q E hr h => ?_)
  · obtain ⟨l, n, rfl, hl, q⟩ := h
    rfl
  obtain ⟨l, n, rfl, hl, q⟩ := h
  have nd := sc_without_top.nd
  refine ⟨_, (pss_one (ps_ret (pe_slice sl_str (pv 0) po_none (po_some (pe_callB (call_max2 rfl) rfl g.max b_max (pa_cons (pe_op op_sub (pe_callB call_len_str rfl g.len PySem.boot_len (pa_cons (pv 0) pa_nil)) (pv 1)) (pa_cons pe_int pa_nil))))))), ?_⟩
  have e : (if (0 : Int) > (((tx l).length : Nat) : Int) - (n : Int) then (0 : Int) else (((tx l).length : Nat) : Int) - (n : Int)) = ((l.length - n : Nat) : Int) := by
    rw [tx_len]
    split <;> omega
  refine ⟨_, rfl, _, rfl, _, rfl, by rw [tx_len]; exact sz (by omega), _, rfl, _, _, rfl, rfl, _, _, rfl, ?_⟩
  rw [e]
  refine ⟨_, rfl, _, rfl, by rw [tx_len]; exact sz (by omega), ?_⟩
  rw [cut_to (Nat.sub_le ..)]
  exact q H (Same.refl H)
theorem ok_top_of (D : Dn K mg "top_of" s_top_of P_top_of) (g : Gx mg) : C8.Cal P w K mg base 1 "top_of" spTop [] := by
  refine D.cal sc_top_of (fun vs H Q E h => ?_) (fun f cdv A outer s H vs Q E hr h => ?_)
  · obtain ⟨l, n, rfl, hl, q⟩ := h
    rfl
  obtain ⟨l, n, rfl, hl, q⟩ := h
  have nd := sc_top_of.nd
  refine ⟨_, (pss_one (ps_ret (pe_slice sl_str (pv 0) (po_some (pe_callB (call_max2 rfl) rfl g.max b_max (pa_cons (pe_op op_sub (pe_callB call_len_str rfl g.len PySem.boot_len (pa_cons (pv 0) pa_nil)) (pv 1)) (pa_cons pe_int pa_nil)))) po_none))), ?_⟩
  have e : (if (0 : Int) > (((tx l).length : Nat) : Int) - (n : Int) then (0 : Int) else (((tx l).length : Nat) : Int) - (n : Int)) = ((l.length - n : Nat) : Int) := by
    rw [tx_len]
    split <;> omega
  refine ⟨_, rfl, _, rfl, _, rfl, by rw [tx_len]; exact sz (by omega), _, rfl, _, _, rfl, rfl, _, _, rfl, ?_⟩
  rw [e]
  refine ⟨_, rfl, _, rfl, by rw [tx_len]; exact sz (by omega), ?_⟩
  rw [cut_from (Nat.sub_le ..)]
  exact q H (Same.refl H)
theorem ok_tidied (D : Dn K mg "tidied" s_tidied P_tidied) (g : Gx mg) : C8.Cal P w K mg base 1 "tidied" spTidied [] := by
  refine D.cal sc_tidied (fun vs H Q E h => ?_) (fun f cdv A outer s H vs Q E hr h => ?_)
  · obtain ⟨a, b, l, rfl, q⟩ := h
    rfl
  obtain ⟨a, b, l, rfl, q⟩ := h
  have nd := sc_tidied.nd
  refine ⟨_, (pss_cons (ps_if (pt_cmpR op_eq (pv 1) pe_int (nomark _)) (pss_one (ps_ret (pe_tup (pa_cons pe_int (pa_cons pe_int (pa_cons (pv 2) pa_nil)))))) pss_nil)
    (pss_one (ps_ret (pe_tup (pa_cons (pv 0) (pa_cons (pv 1) (pa_cons (pv 2) pa_nil))))))), ?_⟩
  refine ⟨_, rfl, rfl, _, rfl, ite2 (fun c => ?_) (fun c => ?_)⟩
  · have c' : b = 0 := by
      have c1 := of_decide_eq_true c
      injection c1 with c2
      omega
    refine ⟨_, rfl, by show 3 ≤ sizeLine; decide, fun p hp => ?_⟩
    refine q _ _ (Same.new hp _) ⟨p, rfl, ?_⟩
    unfold tidy
    rw [if_pos c', upd_same]
    rfl
  · have c' : ¬ b = 0 := fun z => by
      subst z
      exact c (decide_eq_true rfl)
    refine ⟨_, rfl, _, rfl, _, rfl, by show 3 ≤ sizeLine; decide, fun p hp => ?_⟩
    refine q _ _ (Same.new hp _) ⟨p, rfl, ?_⟩
    unfold tidy
    rw [if_neg c', upd_same]
theorem ok_untouched (D : Dn K mg "untouched" s_untouched P_untouched) (g : Gx mg) : C8.Cal P w K mg base 1 "untouched" spUnt [] := by
  refine D.cal sc_untouched (fun vs H Q E h => ?_) (fun f cdv A outer s H vs Q E hr h => ?_)
  · obtain ⟨v, p, rfl, ⟨a, b, rfl, ha, hb⟩, q⟩ := h
    rfl
  obtain ⟨v, p, rfl, ⟨a, b, rfl, ha, hb⟩, q⟩ := h
  have nd := sc_untouched.nd
  refine ⟨_, (pss_one (ps_ret (pe_tup (pa_cons pe_int (pa_cons (pe_ix ix_tup (pv 0) pe_int (fun _ _ => rfl)) (pa_cons pe_str pa_nil)))))), ?_⟩
  refine ⟨_, rfl, a, _, 0, _, rfl, rfl, SqT.of ha, rfl, by show 3 ≤ sizeLine; decide, fun e he => ?_⟩
  refine q _ _ (Same.new he _) ⟨e, rfl, ?_⟩
  rw [upd_same]
  exact congrArg (fun z => some (HO.tup [V.int 0, V.int p.room, V.str z])) s_empty
theorem ok_join_triples (D : Dn K mg "join_triples" s_join_triples P_join_triples) (g : Gx mg) (c_without_top : C8.Cal P w K mg base 1 "without_top" spWithout []) (c_top_of : C8.Cal P w K mg base 1 "top_of" spTop []) (c_tidied : C8.Cal P w K mg base 1 "tidied" spTidied []) : C8.Cal P w K mg base 2 "join_triples" spJoin [] := by
  refine D.cal sc_join_triples (fun vs H Q E h => ?_) (fun f cdv A outer s H vs Q E hr h => ?_)
  · obtain ⟨_, _, t, u, rfl, ⟨a, rfl, ha⟩, ⟨b, rfl, hb⟩, ht, hu, q⟩ := h
    rfl
  obtain ⟨_, _, t, u, rfl, ⟨a, rfl, ha⟩, ⟨b, rfl, hb⟩, ht, hu, q⟩ := h
  have nd := sc_join_triples.nd
  refine ⟨_, (pss_cons (ps_asg (pv 0) (pg_tup (by rfl) (pgs_cons (pg_name (i := 2) nd rfl (.inl rfl)) (pgs_cons (pg_name (i := 3) nd rfl (.inl rfl)) (pgs_cons (pg_name (i := 4) nd rfl (.inl rfl)) pgs_nil)))))
    (pss_cons (ps_asg (pv 1) (pg_tup (by rfl) (pgs_cons (pg_name (i := 5) nd rfl (.inl rfl)) (pgs_cons (pg_name (i := 6) nd rfl (.inl rfl)) (pgs_cons (pg_name (i := 7) nd rfl (.inl rfl)) pgs_nil)))))
    (pss_cons (ps_set (i := 8) nd rfl (.inl rfl) (pe_callB (call_max2 rfl) rfl g.max b_max (pa_cons (pe_op op_sub (pv 5) (pe_callB call_len_str rfl g.len PySem.boot_len (pa_cons (pv 4) pa_nil))) (pa_cons pe_int pa_nil))))
    (pss_cons (ps_set (i := 9) nd rfl (.inl rfl) (C8.pe_c c_without_top hr (by decide) rfl (pa_cons (pv 4) (pa_cons (pv 5) pa_nil))))
    (pss_cons (ps_set (i := 10) nd rfl (.inl rfl) (pe_callB (call_max2 rfl) rfl g.max b_max (pa_cons (pe_callB (call_min2 rfl) rfl g.min b_min (pa_cons (pe_op op_sub (pv 3) (pv 8)) (pa_cons (pe_op op_sub (pv 6) (pe_callB call_len_str rfl g.len PySem.boot_len (pa_cons (pv 9) pa_nil))) pa_nil))) (pa_cons pe_int pa_nil))))
    (pss_one (ps_ret (C8.pe_c c_tidied hr (by decide) rfl (pa_cons (pe_op op_add (pv 2) (pv 8)) (pa_cons (pv 10) (pa_cons (pe_op op_add_str (C8.pe_c c_top_of hr (by decide) rfl (pa_cons (pv 9) (pa_cons (pv 6) pa_nil))) (pv 7)) pa_nil))))))))))), ?_⟩
  refine ⟨_, rfl, a, _, rfl, SqT.of ha, rfl, _, _, rfl, _, _, rfl, _, _, rfl, rfl, ?_⟩
  refine ⟨_, rfl, b, _, rfl, SqT.of hb, rfl, _, _, rfl, _, _, rfl, _, _, rfl, rfl, ?_⟩
  have e1 : (if (0 : Int) > (u.g : Int) - (((tx t.l).length : Nat) : Int) then (0 : Int) else (u.g : Int) - (((tx t.l).length : Nat) : Int)) = ((u.g - t.l.length : Nat) : Int) := by
    rw [tx_len]
    split <;> omega
  refine ⟨_, rfl, _, rfl, _, rfl, by rw [tx_len]; exact sz (by omega), _, _, rfl, rfl, _, _, rfl, ?_⟩
  rw [e1]
  refine ⟨_, rfl, _, rfl, t.l, u.g, rfl, by omega, fun H1 s1 => ?_⟩
  have e2 : (if (0 : Int) > (if (u.k : Int) - (((tx (ct u.g t.l)).length : Nat) : Int) < (t.k : Int) - ((u.g - t.l.length : Nat) : Int) then (u.k : Int) - (((tx (ct u.g t.l)).length : Nat) : Int) else (t.k : Int) - ((u.g - t.l.length : Nat) : Int)) then (0 : Int)
      else (if (u.k : Int) - (((tx (ct u.g t.l)).length : Nat) : Int) < (t.k : Int) - ((u.g - t.l.length : Nat) : Int) then (u.k : Int) - (((tx (ct u.g t.l)).length : Nat) : Int) else (t.k : Int) - ((u.g - t.l.length : Nat) : Int)))
      = ((min (t.k - (u.g - t.l.length)) (u.k - (ct u.g t.l).length) : Nat) : Int) := by
    rw [tx_len]
    split <;> split <;> omega
  have hc := len_ct u.g t.l
  refine ⟨_, rfl, _, rfl, _, _, rfl, rfl, _, rfl, _, rfl, _, rfl, by rw [tx_len]; exact sz (by omega), _, _, rfl, rfl, _, _, rfl, _, _, rfl, ?_⟩
  rw [e2]
  refine ⟨_, rfl, _, rfl, _, _, rfl, rfl, _, rfl, _, rfl, _, rfl, ct u.g t.l, u.k, rfl, by omega, fun H2 s2 => ⟨_, rfl, _, _, rfl, rfl, ?_, ?_⟩⟩
  · rw [tx_len, tx_len, len_tp]
    exact sz (by omega)
  rw [tx_app]
  exact ⟨t.g + (u.g - t.l.length), _, _, rfl, fun H3 v s3 hv => q H3 v (s1.trans (s2.trans s3)) hv⟩
theorem ok_triple_of_step (D : Dn K mg "triple_of_step" s_triple_of_step P_triple_of_step) (g : Gx mg) (c_tidied : C8.Cal P w K mg base 1 "tidied" spTidied []) : C8.Cal P w K mg base 2 "triple_of_step" spTStep [] := by
  refine D.cal sc_triple_of_step (fun vs H Q E h => ?_) (fun f cdv A outer s H vs Q E hr h => ?_)
  · obtain ⟨v, p, c, rfl, ⟨a, b, rfl, ha, hb⟩, ok, q⟩ := h
    rfl
  obtain ⟨v, p, c, rfl, ⟨a, b, rfl, ha, hb⟩, ok, q⟩ := h
  have nd := sc_triple_of_step.nd
  refine ⟨_, (pss_cons (ps_if (pt_cmpR op_eq (pv 1) (C8.pe_gc rfl g.POP_STEP) (nomark _)) (pss_one (ps_ret (C8.pe_c c_tidied hr (by decide) rfl (pa_cons pe_int (pa_cons (pe_op op_sub (pe_ix ix_tup (pv 0) pe_int (fun _ _ => rfl)) pe_int) (pa_cons pe_str pa_nil)))))) pss_nil)
    (pss_one (ps_ret (pe_tup (pa_cons pe_int (pa_cons (pe_op op_sub (pe_ix ix_tup (pv 0) pe_int (fun _ _ => rfl)) pe_int) (pa_cons (pv 1) pa_nil))))))), ?_⟩
  have hr1 := ok.r1
  have e : (p.room : Int) - 1 = ((p.room - 1 : Nat) : Int) := by omega
  refine ⟨_, rfl, rfl, _, rfl, ite2 (fun z => ?_) (fun z => ?_)⟩
  · have z' : c = 45 := by
      have z1 := of_decide_eq_true z
      injection z1 with z2
      have z3 := str_inj.mp z2
      exact List.head_eq_of_cons_eq z3
    refine ⟨_, rfl, a, _, 0, _, rfl, rfl, SqT.of ha, rfl, _, _, rfl, rfl, ?_⟩
    refine ⟨1, p.room - 1, [], (by show [V.int 1, V.int ((p.room : Int) - 1), V.str ""] = _; rw [e, s_empty]; rfl), fun H1 v s1 hv => q H1 v s1 ?_⟩
    unfold tstep
    rw [if_pos z']
    exact hv
  · have z' : ¬ c = 45 := fun y => by
      subst y
      exact z (decide_eq_true rfl)
    refine ⟨_, rfl, a, _, 0, _, rfl, rfl, SqT.of ha, rfl, _, _, rfl, rfl, _, rfl, by show 3 ≤ sizeLine; decide, fun x hx => ?_⟩
    refine q _ _ (Same.new hx _) ⟨x, rfl, ?_⟩
    unfold tstep
    rw [if_neg z', upd_same]
    exact congrArg (fun z => some (HO.tup [V.int 0, V.int z, V.str (tx [c])])) e
theorem ok_triple_of_steps (D : Dn K mg "triple_of_steps" s_triple_of_steps P_triple_of_steps) (g : Gx mg) (c_untouched : C8.Cal P w K mg base 1 "untouched" spUnt []) (c_triple_of_step : C8.Cal P w K mg base 2 "triple_of_step" spTStep []) (c_join_triples : C8.Cal P w K mg base 2 "join_triples" spJoin []) : C8.Cal P w K mg base 3 "triple_of_steps" spTSteps [] := by
  refine D.cal sc_triple_of_steps (fun vs H Q E h => ?_) (fun f cdv A outer s H vs Q E hr h => ?_)
  · obtain ⟨v, p, l, rfl, ⟨a, b, rfl, ha, hb⟩, ok, hs, q⟩ := h
    rfl
  obtain ⟨v, p, l, rfl, ⟨a, b, rfl, ha, hb⟩, ok, hs, q⟩ := h
  have nd := sc_triple_of_steps.nd
  refine ⟨_, (pss_cons (ps_set (i := 2) nd rfl (.inl rfl) (C8.pe_c c_untouched hr (by decide) rfl (pa_cons (pv 0) pa_nil)))
    (pss_cons (ps_for PassesOwn.never rfl (pi_str (pv 1)) (pg_name (i := 3) nd rfl (.inl rfl)) (pss_one (ps_set (i := 2) nd rfl (.inl rfl) (C8.pe_c c_join_triples hr (by decide) rfl (pa_cons (pv 2) (pa_cons (C8.pe_c c_triple_of_step hr (by decide) rfl (pa_cons (pv 0) (pa_cons (pv 3) pa_nil))) pa_nil))))))
    (pss_one (ps_ret (pv 2))))), ?_⟩
  have hr1 := ok.r1
  have hr9 := ok.r9
  have hn : (tx l).cps.size = l.length := tx_len l
  refine ⟨_, rfl, _, p, rfl, ⟨a, b, rfl, ha, hb⟩, fun H1 v1 s1 hv1 => ?_⟩
  refine ⟨_, rfl, _, rfl, for_it (walk_str (z := tx l)) (fun i σ H2 => ∃ (v2 : V) (o : Option V), σ = [some (.ref a), some (.str (tx l)), some v2, o] ∧ Same H H2 ∧ TripAt H2 v2 ((l.take i).foldl (fun t c => tjoin t (tstep p.room c)) (tunt p.room)))
    ⟨v1, none, rfl, s1, hv1⟩ (fun _ _ _ _ _ => trivial) ?_ ?_⟩
  · rintro i x σ H2 H3 hi ⟨v2, o, rfl, s2, hv2⟩ ⟨rfl, c, hc, rfl⟩
    have hc' : l[i]? = some c := by
      rw [← hc]
      simp [tx]
    have hcm : c ∈ l := List.mem_of_getElem? hc'
    have ok1 := ttold_ok (room := p.room) (many := p.many) hr1 (l.take i) (tunt p.room) tunt_ok (fun d hd => hs d (List.mem_of_mem_take hd))
    have ok2 := tstep_ok (room := p.room) (many := p.many) (c := c) hr1 (hs c hcm)
    have k1 := ok1.kl
    have k2 := ok2.kl
    refine ⟨_, rfl, _, rfl, _, rfl, _, p, c, rfl, ⟨a, b, rfl, s2 _ _ ha, PrAt.mono hb s2⟩, ok, fun H4 v4 s4 hv4 => ?_⟩
    refine ⟨_, _, _, _, rfl, hv2.mono s4, hv4, by omega, by omega, fun H5 v5 s5 hv5 => ?_⟩
    refine ⟨v5, _, rfl, s2.trans (s4.trans s5), ?_⟩
    rw [List.take_add_one, hc', List.foldl_append]
    exact hv5
  · rintro σ H2 ⟨v2, o, rfl, s2, hv2⟩
    rw [hn, List.take_of_length_le (Nat.le_refl _)] at hv2
    exact ⟨_, rfl, q H2 v2 s2 hv2⟩
theorem ok_told_of_steps (D : Dn K mg "told_of_steps" s_told_of_steps P_told_of_steps) (g : Gx mg) (c_check_plan : C8.Cal P w K mg base 3 "check_plan" spChPlan []) (c_check_steps : C8.Cal P w K mg base 2 "check_steps" spChSteps []) (c_triple_of_steps : C8.Cal P w K mg base 3 "triple_of_steps" spTSteps []) : C8.Cal P w K mg base 4 "told_of_steps" spToldSteps [] := by
  refine D.cal sc_told_of_steps (fun vs H Q E h => ?_) (fun f cdv A outer s H vs Q E hr h => ?_)
  · obtain ⟨v, p, l, rfl, hp, ok, hl, hs, q⟩ := h
    rfl
  obtain ⟨v, p, l, rfl, hp, ok, hl, hs, q⟩ := h
  have nd := sc_told_of_steps.nd
  refine ⟨_, (pss_cons (ps_expr (C8.pe_c c_check_plan hr (by decide) rfl (pa_cons (pv 0) pa_nil)))
    (pss_cons (ps_expr (C8.pe_c c_check_steps hr (by decide) rfl (pa_cons (pv 0) (pa_cons (pv 1) pa_nil))))
    (pss_one (ps_ret (C8.pe_c c_triple_of_steps hr (by decide) rfl (pa_cons (pv 0) (pa_cons (pv 1) pa_nil))))))), ?_⟩
  refine ⟨_, rfl, v, p, rfl, hp, ok, fun H1 s1 => ?_⟩
  refine ⟨_, rfl, _, rfl, v, p, l, rfl, hp.mono s1, ok, hl, hs, fun H2 s2 => ?_⟩
  exact ⟨_, rfl, _, rfl, v, p, l, rfl, hp.mono (s1.trans s2), ok, hs, fun H3 v3 s3 h3 => q H3 v3 (s1.trans (s2.trans s3)) h3⟩
theorem ok_law_take (D : Dn K mg "_law_take" s_law_take P_law_take) (g : Gx mg) : C8.Cal P w K mg base 1 "_law_take" spTake [] := by
  refine D.cal sc_law_take (fun vs H Q E h => ?_) (fun f cdv A outer s H vs Q E hr h => ?_)
  · obtain ⟨p, q, ns, z, n, rfl, B, h0, h9, kk⟩ := h
    rfl
  obtain ⟨p, q, ns, z, n, rfl, B, h0, h9, kk⟩ := h
  have nd := sc_law_take.nd
  refine ⟨_, (pss_cons (ps_if (pt_cmpR (op_eqD hr.units) (pe_ix ix_list (pv 0) pe_int (fun _ _ => rfl)) (pe_lst pa_nil) (nomark _)) (pss_cons (ps_asg (pe_op op_modN (pe_op op_mul (pe_ix ix_list (pv 0) pe_int (fun _ _ => rfl)) pe_int) pe_int) (pg_sub (pv 0) pe_int set_list))
    (pss_one (ps_ret (pe_op op_modN (pe_op op_fdivN (pe_ix ix_list (pv 0) pe_int (fun _ _ => rfl)) pe_int) (pv 1))))) pss_nil)
    (pss_cons (ps_set (i := 2) nd rfl (.inl rfl) (pe_ix ix_list (pe_ix ix_list (pv 0) pe_int (fun _ _ => rfl)) pe_int (fun _ _ => rfl)))
    (pss_cons (ps_asg (pe_op op_fdivW (pv 2) (pv 1)) (pg_sub (pe_ix ix_list (pv 0) pe_int (fun _ _ => rfl)) pe_int set_list))
    (pss_cons (ps_if (PW.pt (pw_or (pt_cmpR op_eq (pe_ix ix_list (pe_ix ix_list (pv 0) pe_int (fun _ _ => rfl)) pe_int (fun _ _ => rfl)) pe_int (nomark _)) (pw_or1 (pt_cmpR op_eq (pe_ix ix_list (pe_ix ix_list (pv 0) pe_int (fun _ _ => rfl)) pe_int (fun _ _ => rfl)) (pe_un un_neg pe_int) (nomark _))))) (pss_one (ps_expr (pe_bm PySem.F.plainAttrs_list PySem.F.slot_list_pop PySem.F.type_list_pop mt_popAt (pe_ix ix_list (pv 0) pe_int (fun _ _ => rfl)) (pa_cons pe_int pa_nil)))) pss_nil)
    (pss_one (ps_ret (pe_op op_modN (pv 2) (pv 1)))))))), ?_⟩
  refine ⟨_, rfl, p, _, 0, _, rfl, rfl, SqL.of B.b, rfl, by show 0 ≤ sizeLine; decide, fun D hD => ?_⟩
  have s1 : Same H (upd H D (.lst [])) := Same.new hD _
  have B1 := B.mono s1
  refine ⟨.list (ns.map PyData.int), .list [], .lst (SqL.of B1.l) (dpAll ns), .lst (SqL.of upd_same) .nil, shp ns, shp [], _, rfl, ?_⟩
  cases ns with
  | nil =>
    refine iteT ?_
    refine ⟨_, rfl, p, _, 1, _, rfl, rfl, SqL.of B1.b, rfl, _, _, rfl, rfl, .inr ⟨by decide, by decide⟩, _, _, rfl, rfl, by show ((2147483647 : Int) ≠ 0); decide, ?_⟩
    refine ⟨_, rfl, p, _, 1, 1, rfl, rfl, B1.b, rfl, ?_⟩
    refine ⟨_, rfl, p, _, 1, _, rfl, rfl, SqL.of upd_same, rfl, _, _, rfl, rfl, ⟨by decide, by decide⟩, _, rfl, _, _, rfl, rfl, by show n ≠ 0; omega, ?_⟩
    obtain ⟨f1, f2⟩ := fmod_in (x := ((z * 48271).fmod 2147483647).fdiv 7) h0
    refine kk _ [] ((z * 48271).fmod 2147483647) _ f1 f2 ⟨upd_same, by rw [upd_ne B.ne.symm]; exact B1.l, B.ne⟩ fun b o e e1 e2 => ?_
    rw [upd_ne e1]
    exact s1 _ _ e
  | cons x r =>
    refine iteF ?_
    refine ⟨_, rfl, p, _, 0, _, rfl, rfl, SqL.of B1.b, rfl, q, _, 0, _, rfl, rfl, SqL.of B1.l, at0, ?_⟩
    refine ⟨_, rfl, _, rfl, _, _, rfl, rfl, divW h0 h9, ?_⟩
    refine ⟨_, rfl, p, _, 0, _, rfl, rfl, SqL.of B1.b, rfl, q, _, 0, 0, rfl, rfl, B1.l, ix0, ?_⟩
    have B2 : BoxAt (upd (upd H D (.lst [])) q (.lst (((x / n) :: r).map V.int))) p q ((x / n) :: r) z := ⟨by rw [upd_ne B.ne]; exact B1.b, upd_same, B.ne⟩
    have k2 : Keep p q H (upd (upd H D (.lst [])) q (.lst (((x / n) :: r).map V.int))) := fun b o e e1 e2 => by
      rw [upd_ne e2]
      exact s1 _ _ e
    obtain ⟨f1, f2⟩ := fmod_in (x := x) h0
    have pop : ∀ (T : Prop), (∀ (ns' : List Int) (H' : Hp), BoxAt H' p q ns' z → Keep p q H H' → T) → T := fun T h => h _ _ B2 k2
    have fin : ∀ (ns' : List Int) (H' : Hp), BoxAt H' p q ns' z → Keep p q H H' → tRet (tOp (rI (fun _ j => j ≠ 0) fun i j => V.int (i.fmod j)) (tVar 2) (tVar 1)) { nx := fun _ H' => Q V.non H', rt := Q } [some (.ref p), some (.int n), some (.int x)] H' := fun ns' H' b k =>
      ⟨_, rfl, _, rfl, _, _, rfl, rfl, by show n ≠ 0; omega, kk _ ns' z H' f1 f2 b k⟩
    have B3 : BoxAt (upd (upd (upd H D (.lst [])) q (.lst (((x / n) :: r).map V.int))) q (.lst (r.map V.int))) p q r z := ⟨by rw [upd_ne B.ne]; exact B2.b, upd_same, B.ne⟩
    have k3 : Keep p q H (upd (upd (upd H D (.lst [])) q (.lst (((x / n) :: r).map V.int))) q (.lst (r.map V.int))) := fun b o e e1 e2 => by
      rw [upd_ne e2]
      exact k2 _ _ e e1 e2
    refine ⟨_, rfl, p, _, 0, _, rfl, rfl, SqL.of B2.b, rfl, q, _, 0, _, rfl, rfl, SqL.of B2.l, at0, rfl, _, rfl, ite2 (fun c => ?_) (fun c => ?_)⟩
    · refine iteT ?_
      refine ⟨_, rfl, p, _, 0, _, rfl, rfl, SqL.of B2.b, rfl, .inl ⟨rfl, _, SqL.of B2.l⟩, q, _, 0, 0, _, rfl, rfl, B2.l, by decide, by decide, sq0, rfl, ?_⟩
      exact fin r _ B3 k3
    · refine ⟨_, rfl, p, _, 0, _, rfl, rfl, SqL.of B2.b, rfl, q, _, 0, _, rfl, rfl, SqL.of B2.l, at0, _, rfl, rfl, _, rfl, ite2 (fun c2 => ?_) (fun c2 => ?_)⟩
      · refine ⟨_, rfl, p, _, 0, _, rfl, rfl, SqL.of B2.b, rfl, .inl ⟨rfl, _, SqL.of B2.l⟩, q, _, 0, 0, _, rfl, rfl, B2.l, by decide, by decide, sq0, rfl, ?_⟩
        exact fin r _ B3 k3
      · exact fin _ _ B2 k2
theorem ok_law_begun (D : Dn K mg "_law_begun" s_law_begun P_law_begun) (g : Gx mg) : C8.Cal P w K mg base 1 "_law_begun" (spLBegun K) [] := by
  refine D.cal sc_law_begun (fun vs H Q E h => ?_) (fun f cdv A outer s H vs Q E hr h => ?_)
  · obtain ⟨a, ns, rfl, hS, h63, kk⟩ := h
    rfl
  obtain ⟨a, ns, rfl, hS, h63, kk⟩ := h
  have nd := sc_law_begun.nd
  refine ⟨_, (pss_cons (ps_set (i := 1) nd rfl (.inl rfl) pe_int)
    (pss_cons (ps_for PassesOwn.never rfl (pi_list (pv 0)) (pg_name (i := 2) nd rfl (.inl rfl)) (pss_one (ps_set (i := 1) nd rfl (.inl rfl) (pe_op op_modN (pe_op op_add (pe_op op_add (pe_op op_mul (pv 1) pe_int) (pe_op op_mul (pv 2) pe_int)) pe_int) pe_int))))
    (pss_one (ps_ret (pe_lst (pa_cons (pe_callTy call_list_of rfl g.list b_list (pa_cons (pv 0) pa_nil)) (pa_cons (pe_op op_mul (pv 1) (pe_callTy call_int1 rfl g.int b_int (pa_cons (pe_cmpR op_gt (pe_callB call_len_seq rfl g.len PySem.boot_len (pa_cons (pv 0) pa_nil)) pe_int (nomark _)) pa_nil))) pa_nil))))))), ?_⟩
  have hc : ∀ k : Bool, -(2 ^ 64) < (if k = true then (1 : Int) else 0) ∧ (if k = true then (1 : Int) else 0) < 2 ^ 64 := fun k => by
    cases k <;> decide
  refine ⟨_, rfl, a, rfl, ⟨_, hS⟩, for_list (K := K) (a := a) (xs := ns.map V.int) (fun i σ H2 => (∃ (z : Int) (o : Option V), σ = [some (.ref a), some (.int z), o]) ∧ H2 = H)
    ⟨⟨0, none, rfl⟩, rfl⟩ (fun i σ H2 _ h2 => by rw [h2.2]; exact hS) ?_ ?_⟩
  · rintro i x σ H2 hx ⟨⟨z, o, rfl⟩, rfl⟩
    rw [List.getElem?_map] at hx
    obtain ⟨y, hy, rfl⟩ := Option.map_eq_some_iff.mp hx
    refine ⟨_, rfl, _, _, rfl, rfl, .inr ⟨by decide, by decide⟩, _, rfl, _, _, rfl, rfl, .inr ⟨by decide, by decide⟩, _, _, rfl, rfl, _, _, rfl, rfl, _, _, rfl, rfl, by show ((2147483647 : Int) ≠ 0); decide, ?_⟩
    exact ⟨⟨_, _, rfl⟩, rfl⟩
  · rintro σ H2 ⟨⟨z, o, rfl⟩, rfl⟩
    refine ⟨_, rfl, a, _, rfl, .inl hS, fun l hl => ?_⟩
    refine ⟨_, rfl, _, rfl, a, _, rfl, .inl ((Same.new hl _).seq hS), _, _, rfl, rfl, .inr ⟨_, rfl, _, _, rfl, rfl, .inr (hc _), by show 2 ≤ sizeLine; decide, fun D hD => ?_⟩⟩
    have s1 := Same.new hl (.lst (ns.map V.int))
    have hD0 : H2 D = none := s1.free hD
    refine kk D l _ _ (s1.trans (Same.new hD _)) ⟨upd_same, (Same.new hD _) _ _ upd_same, fun e => ?_⟩ hD0 hl
    subst e
    rw [upd_same] at hD
    cases hD
theorem ok_law_step (D : Dn K mg "_law_step" s_law_step P_law_step) (g : Gx mg) : C8.Cal P w K mg base 1 "_law_step" spLStep [] := by
  refine D.cal sc_law_step (fun vs H Q E h => ?_) (fun f cdv A outer s H vs Q E hr h => ?_)
  · obtain ⟨v, p, l, c, rfl, ⟨a, b, rfl, ha, hb⟩, ok, hl, q⟩ := h
    rfl
  obtain ⟨v, p, l, c, rfl, ⟨a, b, rfl, ha, hb⟩, ok, hl, q⟩ := h
  have nd := sc_law_step.nd
  refine ⟨_, (pss_cons (ps_if (pt_cmpR op_eq (pv 2) pe_str (nomark _)) (pss_one (ps_ret (pe_slice sl_str (pv 1) po_none (po_some (pe_un un_neg pe_int))))) pss_nil)
    (pss_one (ps_ret (pe_slice sl_str (pe_op op_add_str (pv 1) (pv 2)) (po_some (pe_un un_neg (pe_ix ix_tup (pv 0) pe_int (fun _ _ => rfl)))) po_none)))), ?_⟩
  have h1 := ok.r1
  have h9 := ok.r9
  refine ⟨_, rfl, rfl, _, rfl, ite2 (fun z => ?_) (fun z => ?_)⟩
  · have z' : c = 45 := by
      have z1 := of_decide_eq_true z
      injection z1 with z2
      exact List.head_eq_of_cons_eq (str_inj.mp (z2.trans s_minus))
    refine ⟨_, rfl, _, rfl, _, rfl, _, rfl, by rw [tx_len]; exact sz (by omega), ?_⟩
    have e : cutS (tx l) none (some (-1)) = tx (step p.room l c) := by
      unfold step
      rw [if_pos z']
      exact cut_but (l := l) (n := 1) (by omega)
    have q1 := q H (Same.refl H)
    rw [← e] at q1
    exact q1
  · have z' : ¬ c = 45 := fun y => by
      subst y
      exact z (decide_eq_true (congrArg V.str s_minus.symm))
    refine ⟨_, rfl, _, rfl, _, _, rfl, rfl, by rw [tx_len, tx_len]; exact sz (by simp; omega), ?_⟩
    rw [tx_app]
    refine ⟨_, rfl, a, _, 0, _, rfl, rfl, SqT.of ha, rfl, _, rfl, _, rfl, _, rfl, by rw [tx_len]; exact sz (by simp; omega), ?_⟩
    have e : cutS (tx (l ++ [c])) (some (-(p.room : Int))) none = tx (step p.room l c) := by
      unfold step
      rw [if_neg z']
      exact cut_back (l := l ++ [c]) (n := p.room) (by omega)
    have q1 := q H (Same.refl H)
    rw [← e] at q1
    exact q1
theorem ok_law_gone (D : Dn K mg "_law_gone" s_law_gone P_law_gone) (g : Gx mg) (c_law_step : C8.Cal P w K mg base 1 "_law_step" spLStep []) : C8.Cal P w K mg base 2 "_law_gone" spLGone [] := by
  refine D.cal sc_law_gone (fun vs H Q E h => ?_) (fun f cdv A outer s H vs Q E hr h => ?_)
  · obtain ⟨v, p, l, st, rfl, ⟨a, b, rfl, ha, hb⟩, ok, hl, q⟩ := h
    rfl
  obtain ⟨v, p, l, st, rfl, ⟨a, b, rfl, ha, hb⟩, ok, hl, q⟩ := h
  have nd := sc_law_gone.nd
  refine ⟨_, (pss_cons (ps_for PassesOwn.never rfl (pi_str (pv 2)) (pg_name (i := 3) nd rfl (.inl rfl)) (pss_one (ps_set (i := 1) nd rfl (.inl rfl) (C8.pe_c c_law_step hr (by decide) rfl (pa_cons (pv 0) (pa_cons (pv 1) (pa_cons (pv 3) pa_nil)))))))
    (pss_one (ps_ret (pv 1)))), ?_⟩
  have h9 := ok.r9
  have hn : (tx st).cps.size = st.length := tx_len st
  refine ⟨_, rfl, _, rfl, for_it (walk_str (z := tx st)) (fun i σ H2 => ∃ (o : Option V), σ = [some (.ref a), some (.str (tx (gone p.room l (st.take i)))), some (.str (tx st)), o] ∧ Same H H2)
    ⟨none, rfl, Same.refl H⟩ (fun _ _ _ _ _ => trivial) ?_ ?_⟩
  · rintro i x σ H2 H3 hi ⟨o, rfl, s2⟩ ⟨rfl, c, hc, rfl⟩
    have hc' : st[i]? = some c := by
      rw [← hc]
      simp [tx]
    have hlen := gone_len (room := p.room) (st.take i) l hl
    refine ⟨_, rfl, _, rfl, _, rfl, _, p, gone p.room l (st.take i), c, rfl, ⟨a, b, rfl, s2 _ _ ha, PrAt.mono hb s2⟩, ok, by omega, fun H4 s4 => ?_⟩
    refine ⟨some (.str ⟨#[c]⟩), ?_, s2.trans s4⟩
    have e : gone p.room l (st.take (i + 1)) = step p.room (gone p.room l (st.take i)) c := by
      unfold gone
      rw [List.take_add_one, hc', List.foldl_append]
      rfl
    rw [e]
    rfl
  · rintro σ H2 ⟨o, rfl, s2⟩
    rw [hn, List.take_of_length_le (Nat.le_refl _)]
    exact ⟨_, rfl, q H2 s2⟩
theorem ok_law_by (D : Dn K mg "_law_by" s_law_by P_law_by) (g : Gx mg) : C8.Cal P w K mg base 1 "_law_by" spLBy [] := by
  refine D.cal sc_law_by (fun vs H Q E h => ?_) (fun f cdv A outer s H vs Q E hr h => ?_)
  · obtain ⟨u, t, l, rfl, ⟨a, rfl, ha⟩, hl, ht, q⟩ := h
    rfl
  obtain ⟨u, t, l, rfl, ⟨a, rfl, ha⟩, hl, ht, q⟩ := h
  have nd := sc_law_by.nd
  refine ⟨_, (pss_cons (ps_asg (pv 0) (pg_tup (by rfl) (pgs_cons (pg_name (i := 2) nd rfl (.inl rfl)) (pgs_cons (pg_name (i := 3) nd rfl (.inl rfl)) (pgs_cons (pg_name (i := 4) nd rfl (.inl rfl)) pgs_nil)))))
    (pss_cons (ps_set (i := 5) nd rfl (.inl rfl) (pe_slice sl_str (pv 1) po_none (po_some (pe_callB (call_max2 rfl) rfl g.max b_max (pa_cons pe_int (pa_cons (pe_op op_sub (pe_callB call_len_str rfl g.len PySem.boot_len (pa_cons (pv 1) pa_nil)) (pv 2)) pa_nil))))))
    (pss_one (ps_ret (pe_op op_add_str (pe_slice sl_str (pv 5) (po_some (pe_callB (call_max2 rfl) rfl g.max b_max (pa_cons pe_int (pa_cons (pe_op op_sub (pe_callB call_len_str rfl g.len PySem.boot_len (pa_cons (pv 5) pa_nil)) (pv 3)) pa_nil)))) po_none) (pv 4)))))), ?_⟩
  refine ⟨_, rfl, a, _, rfl, SqT.of ha, rfl, _, _, rfl, _, _, rfl, _, _, rfl, rfl, ?_⟩
  have e : ∀ (m : Nat) (x : List Nat), (if (((tx x).length : Nat) : Int) - (m : Int) > 0 then (((tx x).length : Nat) : Int) - (m : Int) else 0) = ((x.length - m : Nat) : Int) := fun m x => by
    rw [tx_len]
    split <;> omega
  refine ⟨_, rfl, _, rfl, _, rfl, by rw [tx_len]; exact sz (by omega), _, rfl, _, _, rfl, rfl, _, _, rfl, ?_⟩
  rw [e]
  refine ⟨_, rfl, _, rfl, by rw [tx_len]; exact sz (by omega), ?_⟩
  rw [cut_to (Nat.sub_le ..)]
  have hc := len_ct t.g l
  have e2 : l.take (l.length - t.g) = ct t.g l := rfl
  rw [e2]
  refine ⟨_, rfl, _, rfl, _, rfl, by rw [tx_len]; exact sz (by omega), _, rfl, _, _, rfl, rfl, _, _, rfl, ?_⟩
  rw [e]
  refine ⟨_, rfl, _, rfl, by rw [tx_len]; exact sz (by omega), ?_⟩
  rw [cut_from (Nat.sub_le ..)]
  have e3 : (ct t.g l).drop ((ct t.g l).length - t.k) = tp t.k (ct t.g l) := rfl
  rw [e3]
  have hp := len_tp t.k (ct t.g l)
  refine ⟨_, rfl, _, _, rfl, rfl, by rw [tx_len, tx_len]; exact sz (by omega), ?_⟩
  rw [tx_app]
  exact q H (Same.refl H)
/-- [a, b][take(box, 2)] -/
theorem pick2 {K : PySem.W.Frag} {i : Nat} {σ : L2.St} {H : Hp} {Q : VK} {p q : Addr} {ns : List Int} {z : Int} {x y : V} {t1 t2 : TE} (hσ : σ[i]? = some (some (.ref p))) (B : BoxAt H p q ns z)
    (h1 : ∀ H Q, Q x H → t1 σ H Q) (h2 : ∀ H Q, Q y H → t2 σ H Q)
    (h : ∀ (v : V) (ns' : List Int) (z' : Int) (H' : Hp), (v = x ∨ v = y) → BoxAt H' p q ns' z' → Keep p q H H' → Q v H') :
    tOp (rIxL K) (tLst (tCons t1 (tCons t2 tNil))) (tCall spTake [] C8.E0 (tCons (tVar i) (tCons (tC (.int 2)) tNil))) σ H Q := by
  refine h1 _ _ (h2 _ _ ⟨by show 2 ≤ sizeLine; decide, fun D hD => ?_⟩)
  have s1 : Same H (upd H D (.lst [x, y])) := Same.new hD _
  refine ⟨_, hσ, p, q, ns, z, 2, rfl, B.mono s1, by decide, p9 (by decide), fun r ns' z' H' r0 r1 B' k' => ?_⟩
  have k2 : Keep p q H H' := (Keep.of s1).trans k'
  have hf := B.fresh hD
  have hL : H' D = some (.lst [x, y]) := k' _ _ upd_same hf.1 hf.2
  have hr : r = 0 ∨ r = 1 := by omega
  rcases hr with rfl | rfl
  · exact ⟨D, _, 0, x, rfl, rfl, SqL.of hL, rfl, h _ _ _ _ (.inl rfl) B' k2⟩
  · exact ⟨D, _, 1, y, rfl, rfl, SqL.of hL, rfl, h _ _ _ _ (.inr rfl) B' k2⟩
theorem tC_q {v : V} {σ : L2.St} : ∀ (H : Hp) (Q : VK), Q v H → tC v σ H Q := fun _ _ h => h
theorem ok_law_plan (D : Dn K mg "_law_plan" s_law_plan P_law_plan) (g : Gx mg) (c_law_take : C8.Cal P w K mg base 1 "_law_take" spTake []) : C8.Cal P w K mg base 2 "_law_plan" spLPlan [] := by
  refine D.cal sc_law_plan (fun vs H Q E h => ?_) (fun f cdv A outer s H vs Q E hr h => ?_)
  · obtain ⟨p, q, ns, z, r, s0, rfl, B, r1, r9, s1, s4, kk⟩ := h
    rfl
  obtain ⟨p, q, ns, z, r, s0, rfl, B, r1, r9, s1, s4, kk⟩ := h
  have nd := sc_law_plan.nd
  refine ⟨_, (pss_cons (ps_set (i := 3) nd rfl (.inl rfl) (pe_op op_add pe_int (C8.pe_c c_law_take hr (by decide) rfl (pa_cons (pv 0) (pa_cons (pv 2) pa_nil)))))
    (pss_cons (ps_set (i := 4) nd rfl (.inl rfl) (pe_callTy call_tupleF rfl g.tuple b_tuple (pa_cons (pe_lc (own := [("_law_k", 5)]) rfl nd (pi_range1 (by rfl) g.range (pa_cons (pv 3) pa_nil)) (blkOk_by (own := [("_law_k", 5)]) (N := N_law_plan) (sc := defScope s_law_plan) (by decide +kernel)) (fun _ _ _ _ _ => (pg_name (i := 5) nd rfl (.inl rfl))) (fun _ _ _ _ _ => pts_nil) (fun _ _ _ _ _ => (pe_op op_add pe_int (C8.pe_c c_law_take (by exact hr) (by decide) rfl (pa_cons (pv 0) (pa_cons (pe_ix (r := rIxL K) ix_list (pe_lst (pa_cons pe_int (pa_cons pe_int pa_nil))) (C8.pe_c c_law_take (by exact hr) (by decide) rfl (pa_cons (pv 0) (pa_cons pe_int pa_nil))) (fun _ _ => rfl)) pa_nil)))))) pa_nil)))
    (pss_one (ps_ret (pe_tup (pa_cons (pe_op op_add pe_int (C8.pe_c c_law_take hr (by decide) rfl (pa_cons (pv 0) (pa_cons (pv 1) pa_nil)))) (pa_cons (pv 3) (pa_cons (pv 4) (pa_cons (pe_op op_add pe_int (C8.pe_c c_law_take hr (by decide) rfl (pa_cons (pv 0) (pa_cons (pe_ix ix_list (pe_lst (pa_cons pe_int (pa_cons pe_int pa_nil))) (C8.pe_c c_law_take hr (by decide) rfl (pa_cons (pv 0) (pa_cons pe_int pa_nil))) (fun _ _ => rfl)) pa_nil)))) pa_nil))))))))), ?_⟩
  refine ⟨_, rfl, _, rfl, p, q, ns, z, s0, rfl, B, by omega, p9 (by omega), fun m ns1 z1 H1 m0 m1 B1 k1 => ⟨_, _, rfl, rfl, ?_⟩⟩
  -- the prices
  obtain ⟨M, rfl⟩ : ∃ M : Nat, m = (M : Int) := ⟨m.toNat, by omega⟩
  refine ⟨_, rfl, ?_⟩
  refine ⟨1 + (M : Int), rfl, by omega, by omega, fun D hD => ?_⟩
  have hf := B1.fresh hD
  have sD := Same.new hD (.lst [])
  refine lc_range (lo := 0) (fun i H2 => ∃ (ps : List Int) (ns2 : List Int) (z2 : Int), BoxAt H2 p q ns2 z2 ∧ Keep p q H1 H2 ∧ H2 D = some (.lst (ps.map V.int)) ∧ ps.length = i ∧ ∀ x ∈ ps, 1 ≤ x ∧ x ≤ 99)
    ⟨[], ns1, z1, B1.mono sD, Keep.of sD, upd_same, rfl, fun x hx => by simp at hx⟩ ?_ ?_
  · rintro i H2 hi ⟨ps, ns2, z2, B2, k2, hD2, hl, hps⟩
    refine ⟨rfl, ?_⟩
    refine ⟨_, rfl, pick2 (x := .int 3) (y := .int 99) rfl B2 tC_q tC_q fun v ns3 z3 H3 hv B3 k3 => ?_⟩
    have hv' : ∃ n : Int, v = .int n ∧ 0 < n ∧ n ≤ 99 := by
      rcases hv with rfl | rfl
      · exact ⟨3, rfl, by decide, by decide⟩
      · exact ⟨99, rfl, by decide, by decide⟩
    obtain ⟨n, rfl, n0, n9⟩ := hv'
    refine ⟨p, q, ns3, z3, n, rfl, B3, n0, p9 (by omega), fun d ns4 z4 H4 d0 d1 B4 k4 => ⟨_, _, rfl, rfl, ?_⟩⟩
    have hD4 : H4 D = some (.lst (ps.map V.int)) := k4 _ _ (k3 _ _ hD2 hf.1 hf.2) hf.1 hf.2
    refine ⟨_, hD4, by rw [List.length_map, hl]; exact szl (by omega), ps ++ [1 + d], ns4, z4, ⟨by rw [upd_ne hf.1.symm]; exact B4.b, by rw [upd_ne hf.2.symm]; exact B4.l, B4.ne⟩, fun b o e e1 e2 => ?_, ?_, by simp [hl], fun x hx => ?_⟩
    · rw [upd_ne (ne_of_none e hD)]
      exact k4 _ _ (k3 _ _ (k2 _ _ e e1 e2) e1 e2) e1 e2
    · rw [upd_same, List.map_append]
      rfl
    · rcases List.mem_append.mp hx with h | h
      · exact hps x h
      · have : x = 1 + d := by simpa using h
        omega
  · rintro H2 ⟨ps, ns2, z2, B2, k2, hD2, hl, hps⟩
    have hl' : ps.length = M + 1 := by omega
    refine ⟨D, _, rfl, SqL.of hD2, fun T obT hobT hT => ?_⟩
    have sT := Same.new hT (.frz obT (.tup (ps.map V.int)))
    have BT := B2.mono sT
    refine ⟨_, rfl, _, rfl, p, q, ns2, z2, r, rfl, BT, by omega, p9 (by omega), fun a ns3 z3 H3 a0 a1 B3 k3 => ⟨_, _, rfl, rfl, ?_⟩⟩
    refine ⟨_, rfl, _, rfl, _, rfl, pick2 (x := .int 3) (y := .int 99) rfl B3 tC_q tC_q fun v ns4 z4 H4 hv B4 k4 => ?_⟩
    have hv' : ∃ n : Int, v = .int n ∧ 0 < n ∧ n ≤ 99 := by
      rcases hv with rfl | rfl
      · exact ⟨3, rfl, by decide, by decide⟩
      · exact ⟨99, rfl, by decide, by decide⟩
    obtain ⟨n, rfl, n0, n9⟩ := hv'
    refine ⟨p, q, ns4, z4, n, rfl, B4, n0, p9 (by omega), fun c ns5 z5 H5 c0 c1 B5 k5 => ⟨_, _, rfl, rfl, ?_⟩⟩
    refine ⟨by show 4 ≤ sizeLine; decide, fun U hU => ?_⟩
    have sU := Same.new hU (.tup [.int (1 + a), .int (1 + (M : Int)), .ref T, .int (1 + c)])
    obtain ⟨A0, rfl⟩ : ∃ A0 : Nat, a = (A0 : Int) := ⟨a.toNat, by omega⟩
    refine kk ⟨A0 + 1, M + 1, ps, 1 + c⟩ _ ns5 z5 _ ⟨by show 1 ≤ A0 + 1; omega, by show A0 + 1 ≤ 9; omega, by show 1 ≤ M + 1; omega, by show M + 1 ≤ 4; omega, hl', hps, by show 1 ≤ 1 + c; omega, by show 1 + c ≤ 99; omega⟩
      (by show A0 + 1 ≤ r; omega) (by show M + 1 ≤ s0; omega) ⟨U, T, rfl, ?_, ?_⟩ (B5.mono sU) ?_
    · rw [upd_same]
      have e1 : (1 : Int) + (A0 : Int) = ((A0 + 1 : Nat) : Int) := by omega
      have e2 : (1 : Int) + (M : Int) = ((M + 1 : Nat) : Int) := by omega
      show some (HO.tup [V.int (1 + (A0 : Int)), V.int (1 + (M : Int)), V.ref T, V.int (1 + c)]) = _
      rw [e1, e2]
    · exact ⟨obT, hobT, sU _ _ ((k5.tups B4).f _ _ _ ((k4.tups B3).f _ _ _ ((k3.tups BT).f _ _ _ upd_same)))⟩
    · refine (k1.trans (k2.trans ((Keep.of sT).trans (k3.trans (k4.trans (k5.trans (Keep.of sU)))))))
theorem ok_law_steps (D : Dn K mg "_law_steps" s_law_steps P_law_steps) (g : Gx mg) (c_law_take : C8.Cal P w K mg base 1 "_law_take" spTake []) : C8.Cal P w K mg base 2 "_law_steps" spLSteps [] := by
  refine D.cal sc_law_steps (fun vs H Q E h => ?_) (fun f cdv A outer s H vs Q E hr h => ?_)
  · obtain ⟨p, q, ns, z, v, pl, n, rfl, B, ⟨a, b, rfl, ha, hb⟩, ok, hn, kk⟩ := h
    rfl
  obtain ⟨p, q, ns, z, v, pl, n, rfl, B, ⟨a, b, rfl, ha, hb⟩, ok, hn, kk⟩ := h
  have nd := sc_law_steps.nd
  refine ⟨_, (pss_cons (ps_set (i := 3) nd rfl (.inl rfl) pe_str)
    (pss_cons (ps_for PassesOwn.never rfl (pi_range1 (by rfl) g.range (pa_cons (C8.pe_c c_law_take hr (by decide) rfl (pa_cons (pv 0) (pa_cons (pe_op op_add (pv 2) pe_int) pa_nil))) pa_nil)) (pg_name (i := 4) nd rfl (.inl rfl)) (pss_one (ps_set (i := 3) nd rfl (.inl rfl) (pe_op op_add_str (pv 3) (pe_ix ix_list (pe_lst (pa_cons (pe_ix ix_str pe_str (C8.pe_c c_law_take hr (by decide) rfl (pa_cons (pv 0) (pa_cons (pe_ix ix_tup (pv 1) pe_int (fun _ _ => rfl)) pa_nil))) (fun _ _ => rfl)) (pa_cons pe_str pa_nil))) (C8.pe_c c_law_take hr (by decide) rfl (pa_cons (pv 0) (pa_cons pe_int pa_nil))) (fun _ _ => rfl))))))
    (pss_one (ps_ret (pv 3))))), ?_⟩
  have hm1 := ok.m1
  have hm4 := ok.m4
  refine ⟨_, rfl, _, rfl, _, _, rfl, rfl, p, q, ns, z, (n : Int) + 1, rfl, B, by omega, p9 (by omega), fun m ns1 z1 H1 m0 m1 B1 k1 => ?_⟩
  refine ⟨m, rfl, by omega, by omega, ?_⟩
  refine for_range (lo := 0) (fun i σ H2 => ∃ (l : List Nat) (o : Option V) (ns2 : List Int) (z2 : Int), σ = [some (.ref p), some (.ref a), some (.int n), some (.str (tx l)), o] ∧ BoxAt H2 p q ns2 z2 ∧ Keep p q H H2 ∧ l.length = i ∧ ∀ c ∈ l, c = 45 ∨ c ∈ signs pl.many)
    ⟨[], none, ns1, z1, by rw [← s_empty]; rfl, B1, k1, rfl, fun c hc => by simp at hc⟩ ?_ ?_
  · rintro i σ H2 hi ⟨l, o, ns2, z2, rfl, B2, k2, hl, hs⟩
    refine ⟨_, rfl, _, rfl, _, rfl, a, _, 1, _, rfl, rfl, SqT.of (k2.tup B ha), rfl, p, q, ns2, z2, pl.many, rfl, B2, by omega, p9 (by omega), fun r ns3 z3 H3 r0 r1 B3 k3 => ?_⟩
    have hsg : ∃ c : Nat, c ∈ signs pl.many ∧ atI (("abcd" : Str).cps.toList) r = some c := by
      obtain ⟨R, rfl⟩ : ∃ R : Nat, r = (R : Int) := ⟨r.toNat, by omega⟩
      have hR : R < pl.many := by omega
      have hg : ∀ (M R : Nat), M ≤ 4 → R < M → ∃ c, c ∈ signs M ∧ ([97, 98, 99, 100] : List Nat)[R]? = some c := by
        intro M R h1 h2
        have h3 : R < ([97, 98, 99, 100] : List Nat).length := by show R < 4; omega
        refine ⟨([97, 98, 99, 100] : List Nat)[R], ?_, List.getElem?_eq_getElem h3⟩
        unfold signs
        exact List.mem_take_iff_getElem.mpr ⟨R, by rw [Nat.lt_min]; exact ⟨h2, h3⟩, rfl⟩
      obtain ⟨c, hc, hg⟩ := hg pl.many R hm4 hR
      exact ⟨c, hc, atI_nat (by rw [s_abcd]; exact hg)⟩
    obtain ⟨c, hc, hat⟩ := hsg
    refine ⟨("abcd" : Str), r, c, rfl, rfl, by rw [s_abcd, tx_len]; exact sz (by decide), hat, ?_⟩
    refine ⟨by show 2 ≤ sizeLine; decide, fun D hD => ?_⟩
    have sD := Same.new hD (.lst [.str ⟨#[c]⟩, .str "-"])
    refine ⟨_, rfl, p, q, ns3, z3, 2, rfl, B3.mono sD, by decide, p9 (by decide), fun w ns4 z4 H4 w0 w1 B4 k4 => ?_⟩
    have hf := B3.fresh hD
    have hL : H4 D = some (.lst [.str ⟨#[c]⟩, .str "-"]) := k4 _ _ upd_same hf.1 hf.2
    have k5 : Keep p q H H4 := k2.trans (k3.trans ((Keep.of sD).trans k4))
    have fin : ∀ d : Nat, (d = 45 ∨ d ∈ signs pl.many) → ∃ (l2 : List Nat) (o : Option V) (ns2 : List Int) (z2 : Int), [some (V.ref p), some (.ref a), some (.int n), some (.str (tx l ++ tx [d])), some (.int (0 + (i : Int)))] = [some (.ref p), some (.ref a), some (.int n), some (.str (tx l2)), o] ∧ BoxAt H4 p q ns2 z2 ∧ Keep p q H H4 ∧ l2.length = i + 1 ∧ ∀ c ∈ l2, c = 45 ∨ c ∈ signs pl.many := fun d hd =>
      ⟨l ++ [d], _, ns4, z4, by rw [tx_app], B4, k5, by simp [hl], fun e he => by
        rcases List.mem_append.mp he with h | h
        · exact hs e h
        · have : e = d := by simpa using h
          subst this
          exact hd⟩
    have hsz : l.length + 1 ≤ 100000 := by omega
    have hw : w = 0 ∨ w = 1 := by omega
    rcases hw with rfl | rfl
    · exact ⟨D, _, 0, _, rfl, rfl, SqL.of hL, rfl, _, _, rfl, rfl, by rw [tx_len]; exact sz hsz, fin c (.inr hc)⟩
    · refine ⟨D, _, 1, _, rfl, rfl, SqL.of hL, rfl, _, _, rfl, rfl, by rw [tx_len, s_minus, tx_len]; exact sz hsz, ?_⟩
      have f := fin 45 (.inl rfl)
      rw [← s_minus] at f
      exact f
  · rintro σ H2 ⟨l, o, ns2, z2, rfl, B2, k2, hl, hs⟩
    exact ⟨_, rfl, kk l ns2 z2 H2 (by omega) hs B2 k2⟩
theorem iteD {c A B : Prop} [Decidable c] (hc : c) (h : A) : if decide c = true then A else B := by
  rw [decide_eq_true hc]
  exact iteT h
theorem iteDF {c A B : Prop} [Decidable c] (hc : ¬ c) (h : B) : if decide c = true then A else B := by
  rw [decide_eq_false hc]
  exact iteF h
theorem givD {x : V} {H : Hp} {Q : VK} (q : giv (.bl true) H Q) : Q (.bl (decide (x = x))) H := by
  rw [decide_eq_true rfl]
  exact q H (Same.refl H)
theorem ok_law_alike (D : Dn K mg "_law_alike" s_law_alike P_law_alike) (g : Gx mg) : ∀ n, C8.Cal P w K mg base n "_law_alike" (spAlike n) []
  | 0 => by
    obtain ⟨f, fd, F, hm, b⟩ := D.ex
    have no : ∀ vs H Q E, ¬ spAlike 0 vs H Q E := fun vs H Q E h => by
      obtain ⟨v, w, _, h, _⟩ := h
      exact h
    exact ⟨f, fd, _, [], ⟨fun vs H Q E h => absurd h (no vs H Q E), fun A outer s H args us vs Q E _ _ _ _ h => absurd h (no vs H Q E)⟩, hm, F.kp, b, .nil⟩
  | n + 1 => by
    have c_law_alike := ok_law_alike D g n
    refine D.cal sc_law_alike (fun vs H Q E h => ?_) (fun f cdv A outer s H vs Q E hr h => ?_)
    · obtain ⟨v, w, rfl, _⟩ := h
      rfl
    obtain ⟨v, w, rfl, al, q⟩ := h
    have nd := sc_law_alike.nd
    refine ⟨_, (pss_cons (ps_if (pt_cmpR op_isN (pv 1) pe_non (nomark _)) (pss_one (ps_ret (pe_cmpR op_isN (pv 0) pe_non (nomark _)))) pss_nil)
    (pss_cons (ps_if (pt_val (pe_callB call_isi rfl g.isi b_isi (pa_cons (pv 1) (pa_cons (pe_bltn (v := .ty "bool") rfl g.bool b_bool rfl) pa_nil)))) (pss_one (ps_ret (pe_and (pe_callB call_isi rfl g.isi b_isi (pa_cons (pv 0) (pa_cons (pe_bltn (v := .ty "bool") rfl g.bool b_bool rfl) pa_nil))) (pe_one (pe_cmpR op_eq (pv 0) (pv 1) (nomark _)))))) pss_nil)
    (pss_cons (ps_if (pt_val (pe_callB call_isi rfl g.isi b_isi (pa_cons (pv 1) (pa_cons (pe_bltn (v := .ty "int") rfl g.int b_int rfl) pa_nil)))) (pss_one (ps_ret (pe_and (pe_callB call_isi rfl g.isi b_isi (pa_cons (pv 0) (pa_cons (pe_bltn (v := .ty "int") rfl g.int b_int rfl) pa_nil))) (pe_and (pe_not (pe_callB call_isi rfl g.isi b_isi (pa_cons (pv 0) (pa_cons (pe_bltn (v := .ty "bool") rfl g.bool b_bool rfl) pa_nil)))) (pe_one (pe_cmpR op_eq (pv 0) (pv 1) (nomark _))))))) pss_nil)
    (pss_cons (ps_if (pt_val (pe_callB call_isi rfl g.isi b_isi (pa_cons (pv 1) (pa_cons (pe_bltn (v := .ty "str") rfl g.str b_str rfl) pa_nil)))) (pss_one (ps_ret (pe_and (pe_callB call_isi rfl g.isi b_isi (pa_cons (pv 0) (pa_cons (pe_bltn (v := .ty "str") rfl g.str b_str rfl) pa_nil))) (pe_one (pe_cmpR op_eq (pv 0) (pv 1) (nomark _)))))) pss_nil)
    (pss_cons (ps_if (PW.pt (pw_or (pt_cmpR op_ne (pe_callB call_isi rfl g.isi b_isi (pa_cons (pv 1) (pa_cons (pe_bltn (v := .ty "tuple") rfl g.tuple b_tuple rfl) pa_nil))) (pe_callB call_isi rfl g.isi b_isi (pa_cons (pv 0) (pa_cons (pe_bltn (v := .ty "tuple") rfl g.tuple b_tuple rfl) pa_nil))) (nomark _)) (pw_or1 (pt_cmpR op_ne (pe_callB call_isi rfl g.isi b_isi (pa_cons (pv 1) (pa_cons (pe_bltn (v := .ty "list") rfl g.list b_list rfl) pa_nil))) (pe_callB call_isi rfl g.isi b_isi (pa_cons (pv 0) (pa_cons (pe_bltn (v := .ty "list") rfl g.list b_list rfl) pa_nil))) (nomark _))))) (pss_one (ps_ret pe_bl)) pss_nil)
    (pss_cons (ps_if (pt_cmpR op_ne (pe_callB call_len rfl g.len PySem.boot_len (pa_cons (pv 0) pa_nil)) (pe_callB call_len rfl g.len PySem.boot_len (pa_cons (pv 1) pa_nil)) (nomark _)) (pss_one (ps_ret pe_bl)) pss_nil)
    (pss_cons (ps_for PassesOwn.never rfl (pi_range1 (by rfl) g.range (pa_cons (pe_callB call_len rfl g.len PySem.boot_len (pa_cons (pv 1) pa_nil)) pa_nil)) (pg_name (i := 2) nd rfl (.inl rfl)) (pss_one (ps_if (pt_not (pt_val (C8.pe_c c_law_alike hr (Nat.le_refl _) rfl (pa_cons (pe_ix ix_seq (pv 0) (pv 2) (fun _ _ => rfl)) (pa_cons (pe_ix ix_seq (pv 1) (pv 2) (fun _ _ => rfl)) pa_nil))))) (pss_one (ps_ret pe_bl)) pss_nil)))
    (pss_one (ps_ret pe_bl))))))))), ?_⟩
    rcases al with ⟨rfl, hs⟩ | ⟨a, b, xs, ys, rfl, rfl, ⟨ha, hb⟩ | ⟨ha, hb⟩, hl, hy, he⟩
    · cases v with
      | non =>
        refine ⟨_, rfl, rfl, _, rfl, iteD rfl ?_⟩
        exact ⟨_, rfl, rfl, givD q⟩
      | bl x =>
        refine ⟨_, rfl, rfl, _, rfl, iteDF (by intro z; cases z) ?_⟩
        refine ⟨_, rfl, _, _, _, _, _, rfl, .ty "bool", ty_bl, kit_ty k_bool_bool, _, rfl, iteT ?_⟩
        exact ⟨_, rfl, _, _, _, _, _, rfl, .ty "bool", ty_bl, kit_ty k_bool_bool, _, rfl, iteT ⟨_, rfl, _, rfl, rfl, givD q⟩⟩
      | int x =>
        refine ⟨_, rfl, rfl, _, rfl, iteDF (by intro z; cases z) ?_⟩
        refine ⟨_, rfl, _, _, _, _, _, rfl, .ty "bool", ty_int, kit_ty k_int_bool, _, rfl, iteF ?_⟩
        refine ⟨_, rfl, _, _, _, _, _, rfl, .ty "int", ty_int, kit_ty k_int_int, _, rfl, iteT ?_⟩
        refine ⟨_, rfl, _, _, _, _, _, rfl, .ty "int", ty_int, kit_ty k_int_int, _, rfl, iteT ?_⟩
        exact ⟨_, rfl, _, _, _, _, _, rfl, .ty "bool", ty_int, kit_ty k_int_bool, _, rfl, _, rfl, iteT ⟨_, rfl, _, rfl, rfl, givD q⟩⟩
      | str x =>
        refine ⟨_, rfl, rfl, _, rfl, iteDF (by intro z; cases z) ?_⟩
        refine ⟨_, rfl, _, _, _, _, _, rfl, .ty "bool", ty_str, kit_ty k_str_bool, _, rfl, iteF ?_⟩
        refine ⟨_, rfl, _, _, _, _, _, rfl, .ty "int", ty_str, kit_ty k_str_int, _, rfl, iteF ?_⟩
        refine ⟨_, rfl, _, _, _, _, _, rfl, .ty "str", ty_str, kit_ty k_str_str, _, rfl, iteT ?_⟩
        exact ⟨_, rfl, _, _, _, _, _, rfl, .ty "str", ty_str, kit_ty k_str_str, _, rfl, iteT ⟨_, rfl, _, rfl, rfl, givD q⟩⟩
      | ref x => exact hs.elim
      | ty x => exact hs.elim
      | flt x => exact hs.elim
      | byt x => exact hs.elim
    · -- tuples
      refine ⟨_, rfl, rfl, _, rfl, iteDF (by intro z; cases z) ?_⟩
      refine ⟨_, rfl, _, _, _, _, _, rfl, .ty "bool", ty_tup hb, kit_ty k_tup_bool, _, rfl, iteF ?_⟩
      refine ⟨_, rfl, _, _, _, _, _, rfl, .ty "int", ty_tup hb, kit_ty k_tup_int, _, rfl, iteF ?_⟩
      refine ⟨_, rfl, _, _, _, _, _, rfl, .ty "str", ty_tup hb, kit_ty k_tup_str, _, rfl, iteF ?_⟩
      refine ⟨_, rfl, _, _, _, _, _, rfl, .ty "tuple", ty_tup hb, kit_ty k_tup_tup, _, rfl, _, _, _, _, _, rfl, .ty "tuple", ty_tup ha, kit_ty k_tup_tup, rfl, _, rfl, iteNS rfl ?_⟩
      refine ⟨_, rfl, _, _, _, _, _, rfl, .ty "list", ty_tup hb, kit_ty k_tup_lst, _, rfl, _, _, _, _, _, rfl, .ty "list", ty_tup ha, kit_ty k_tup_lst, rfl, _, rfl, iteNS rfl ?_⟩
      refine ⟨_, rfl, _, _, rfl, .inr ⟨xs, SqT.of ha, rfl⟩, _, rfl, _, _, rfl, .inr ⟨ys, SqT.of hb, rfl⟩, rfl, _, rfl, iteNS (by rw [hl]) ?_⟩
      refine ⟨_, rfl, _, _, rfl, .inr ⟨ys, SqT.of hb, rfl⟩, _, rfl, by omega, by omega, ?_⟩
      refine for_range (lo := 0) (fun i σ H2 => ∃ (o : Option V), σ = [some (.ref a), some (.ref b), o] ∧ Same H H2) ⟨none, rfl, Same.refl H⟩ ?_ ?_
      · rintro i σ H2 hi ⟨o, rfl, s2⟩
        have hi' : i < ys.length := by omega
        have ex : xs[i]? = some xs[i] := List.getElem?_eq_getElem (by omega)
        have ey : ys[i]? = some ys[i] := List.getElem?_eq_getElem hi'
        refine ⟨_, rfl, _, rfl, .inr <| .inl ⟨a, xs, 0 + (i : Int), _, rfl, rfl, SqT.of (s2 _ _ ha), (by rw [Int.zero_add]; exact atI_nat ex), ?_⟩⟩
        refine ⟨_, rfl, _, rfl, .inr <| .inl ⟨b, ys, 0 + (i : Int), _, rfl, rfl, SqT.of (s2 _ _ hb), (by rw [Int.zero_add]; exact atI_nat ey), ?_⟩⟩
        refine ⟨_, _, rfl, Alk.mono s2 (he i _ _ ex ey), fun H3 s3 => ⟨_, rfl, iteF ?_⟩⟩
        exact ⟨_, rfl, s2.trans s3⟩
      · rintro σ H2 ⟨o, rfl, s2⟩
        exact q H2 s2
    · -- lists
      refine ⟨_, rfl, rfl, _, rfl, iteDF (by intro z; cases z) ?_⟩
      refine ⟨_, rfl, _, _, _, _, _, rfl, .ty "bool", ty_lst hb, kit_ty k_lst_bool, _, rfl, iteF ?_⟩
      refine ⟨_, rfl, _, _, _, _, _, rfl, .ty "int", ty_lst hb, kit_ty k_lst_int, _, rfl, iteF ?_⟩
      refine ⟨_, rfl, _, _, _, _, _, rfl, .ty "str", ty_lst hb, kit_ty k_lst_str, _, rfl, iteF ?_⟩
      refine ⟨_, rfl, _, _, _, _, _, rfl, .ty "tuple", ty_lst hb, kit_ty k_lst_tup, _, rfl, _, _, _, _, _, rfl, .ty "tuple", ty_lst ha, kit_ty k_lst_tup, rfl, _, rfl, iteNS rfl ?_⟩
      refine ⟨_, rfl, _, _, _, _, _, rfl, .ty "list", ty_lst hb, kit_ty k_lst_lst, _, rfl, _, _, _, _, _, rfl, .ty "list", ty_lst ha, kit_ty k_lst_lst, rfl, _, rfl, iteNS rfl ?_⟩
      refine ⟨_, rfl, _, _, rfl, .inl ⟨xs, SqL.of ha, rfl⟩, _, rfl, _, _, rfl, .inl ⟨ys, SqL.of hb, rfl⟩, rfl, _, rfl, iteNS (by rw [hl]) ?_⟩
      refine ⟨_, rfl, _, _, rfl, .inl ⟨ys, SqL.of hb, rfl⟩, _, rfl, by omega, by omega, ?_⟩
      refine for_range (lo := 0) (fun i σ H2 => ∃ (o : Option V), σ = [some (.ref a), some (.ref b), o] ∧ Same H H2) ⟨none, rfl, Same.refl H⟩ ?_ ?_
      · rintro i σ H2 hi ⟨o, rfl, s2⟩
        have hi' : i < ys.length := by omega
        have ex : xs[i]? = some xs[i] := List.getElem?_eq_getElem (by omega)
        have ey : ys[i]? = some ys[i] := List.getElem?_eq_getElem hi'
        refine ⟨_, rfl, _, rfl, .inl ⟨a, xs, 0 + (i : Int), _, rfl, rfl, SqL.of (s2 _ _ ha), (by rw [Int.zero_add]; exact atI_nat ex), ?_⟩⟩
        refine ⟨_, rfl, _, rfl, .inl ⟨b, ys, 0 + (i : Int), _, rfl, rfl, SqL.of (s2 _ _ hb), (by rw [Int.zero_add]; exact atI_nat ey), ?_⟩⟩
        refine ⟨_, _, rfl, Alk.mono s2 (he i _ _ ex ey), fun H3 s3 => ⟨_, rfl, iteF ?_⟩⟩
        exact ⟨_, rfl, s2.trans s3⟩
      · rintro σ H2 ⟨o, rfl, s2⟩
        exact q H2 s2
def ext (many : Nat) (l : List Nat) : List (List Nat) := (signs many).map fun c => l ++ [c]
abbrev fv (l : List Nat) : V := V.str (tx l)
theorem fm_len (many : Nat) (xs : List (List Nat)) : (xs.flatMap (ext many)).length = xs.length * (signs many).length := by
  induction xs with
  | nil => simp
  | cons x r ih =>
    rw [List.flatMap_cons, List.length_append, ih]
    unfold ext
    rw [List.length_map, List.length_cons, Nat.succ_mul, Nat.add_comm]
theorem fm_le (many : Nat) {i : Nat} (h : i + 1 ≤ 9) (j : Nat) : (((lay many i).take j).flatMap (ext many)).length ≤ 262144 := by
  have h1 := lay_le many h
  have h2 : (lay many (i + 1)).length = (lay many i).length * (signs many).length := fm_len many (lay many i)
  rw [fm_len, List.length_take]
  exact Nat.le_trans (Nat.mul_le_mul_right _ (Nat.min_le_right ..)) (by omega)
theorem big {n : Nat} (h : n ≤ 3000000) : n ≤ sizeLine := Nat.le_trans h (by decide)
theorem ok_law_stacks (D : Dn K mg "_law_stacks" s_law_stacks P_law_stacks) (g : Gx mg) : C8.Cal P w K mg base 1 "_law_stacks" spLStacks [] := by
  refine D.cal sc_law_stacks (fun vs H Q E h => ?_) (fun f cdv A outer s H vs Q E hr h => ?_)
  · obtain ⟨v, p, rfl, ⟨a, b, rfl, ha, hb⟩, ok, kk⟩ := h
    rfl
  obtain ⟨v, p, rfl, ⟨a, b, rfl, ha, hb⟩, ok, kk⟩ := h
  have nd := sc_law_stacks.nd
  refine ⟨_, (pss_cons (ps_par (i := 1) (j := 2) (by rfl) nd rfl rfl (by decide) rfl rfl (pa_cons (pe_lst (pa_cons pe_str pa_nil)) (pa_cons (pe_lst (pa_cons pe_str pa_nil)) pa_nil)) (by rfl))
    (pss_cons (ps_for PassesOwn.never rfl (pi_range1 (by rfl) g.range (pa_cons (pe_ix ix_tup (pv 0) pe_int (fun _ _ => rfl)) pa_nil)) (pg_name (i := 3) nd rfl (.inl rfl)) (pss_cons (ps_set (i := 4) nd rfl (.inl rfl) (pe_lst pa_nil))
    (pss_cons (ps_for PassesOwn.never rfl (pi_list (pv 2)) (pg_name (i := 5) nd rfl (.inr rfl)) (pss_one (ps_set (i := 4) nd rfl (.inl rfl) (pe_op op_cat (pv 4) (pe_lc (own := [("_law_sign", 6)]) rfl nd (pi_str (pe_slice sl_str pe_str po_none (po_some (pe_ix ix_tup (pv 0) pe_int (fun _ _ => rfl))))) (blkOk_by (own := [("_law_sign", 6)]) (N := N_law_stacks) (sc := defScope s_law_stacks) (by decide +kernel)) (fun _ _ _ _ _ => (pg_name (i := 6) nd rfl (.inl rfl))) (fun _ _ _ _ _ => pts_nil) (fun _ _ _ _ _ => (pe_op op_add_str (pv 5) (pv 6))))))))
    (pss_one (ps_par (i := 1) (j := 2) (by rfl) nd rfl rfl (by decide) rfl rfl (pa_cons (pe_op op_cat (pv 1) (pv 4)) (pa_cons (pv 4) pa_nil)) (by rfl))))))
    (pss_one (ps_ret (pv 1))))), ?_⟩
  have h9 := ok.r9
  have m4 := ok.m4
  have e0 : V.str "" = fv [] := congrArg V.str s_empty
  refine ⟨by show 1 ≤ sizeLine; decide, fun F0 hF0 => ⟨by show 1 ≤ sizeLine; decide, fun L0 hL0 => ⟨_, _, rfl, ?_⟩⟩⟩
  have sF := Same.new hF0 (.lst [.str ""])
  have sL := Same.new hL0 (.lst [.str ""])
  refine ⟨_, rfl, a, _, 0, _, rfl, rfl, SqT.of (sL _ _ (sF _ _ ha)), rfl, _, rfl, by omega, by omega, ?_⟩
  refine for_range (lo := 0) (fun i σ H2 => ∃ (F L : Addr) (o3 o4 o5 : Option V), σ = [some (.ref a), some (.ref F), some (.ref L), o3, o4, o5, none] ∧ Same H H2 ∧ H F = none ∧ H2 F = some (.lst ((stk p.many i).map fv)) ∧ H2 L = some (.lst ((lay p.many i).map fv)))
    ⟨F0, L0, none, none, none, rfl, sF.trans sL, hF0, by rw [sL _ _ upd_same, e0]; rfl, by rw [upd_same, e0]; rfl⟩ ?_ ?_
  · rintro i σ H2 hi ⟨F, L, o3, o4, o5, rfl, s2, nF, hF, hL⟩
    have hi9 : i + 1 ≤ 9 := by omega
    refine ⟨by show 0 ≤ sizeLine; decide, fun G0 hG0 => ?_⟩
    have sG := Same.new hG0 (.lst [])
    refine ⟨_, rfl, L, rfl, ⟨_, SqL.of (sG _ _ hL)⟩, for_list (K := K) (a := L) (xs := (lay p.many i).map fv)
      (fun j σ H3 => ∃ (G : Addr) (o5 : Option V), σ = [some (.ref a), some (.ref F), some (.ref L), some (.int (0 + (i : Int))), some (.ref G), o5, none] ∧ Same H2 H3 ∧ H3 G = some (.lst ((((lay p.many i).take j).flatMap (ext p.many)).map fv)))
      ⟨G0, o5, rfl, sG, upd_same⟩ (fun j σ H3 _ ⟨_, _, _, s3, _⟩ => SqL.of (s3 _ _ hL)) ?_ ?_⟩
    · rintro j x σ H3 hx ⟨G, o5, rfl, s3, hG⟩
      rw [List.getElem?_map] at hx
      obtain ⟨one, hone, rfl⟩ := Option.map_eq_some_iff.mp hx
      have hlen : one.length = i := (lay_mem (List.mem_of_getElem? hone)).1
      refine ⟨_, rfl, _, rfl, a, _, 1, _, rfl, rfl, SqT.of (s3 _ _ (s2 _ _ ha)), rfl, _, rfl, _, rfl, by rw [s_abcd, tx_len]; exact sz (by decide), ?_⟩
      rw [s_abcd, cut_to (l := [97, 98, 99, 100]) (n := p.many) m4]
      refine ⟨_, rfl, fun D hD => ?_⟩
      have hn : (tx (signs p.many)).cps.size = (signs p.many).length := tx_len _
      have sl4 := signs_len p.many
      refine lc_it (walk_str (z := tx (signs p.many))) (fun k H4 => Same H3 H4 ∧ H4 D = some (.lst (((signs p.many).take k).map fun c => fv (one ++ [c])))) ⟨Same.new hD _, upd_same⟩ (fun _ _ _ _ => trivial) ?_ ?_
      · rintro k y H4 H5 hk ⟨s4, h4⟩ ⟨rfl, c, hc, rfl⟩
        have hc' : (signs p.many)[k]? = some c := by
          rw [← hc]
          simp [tx]
        refine ⟨rfl, ?_⟩
        refine ⟨_, rfl, _, rfl, _, _, rfl, rfl, by rw [tx_len]; exact sz (by show one.length + 1 ≤ _; omega), _, h4, ?_, fun b o e => ?_, ?_⟩
        · rw [List.length_map, List.length_take]
          exact szl (by omega)
        · rw [upd_ne (ne_of_none e hD)]
          exact s4 b o e
        · rw [upd_same, List.take_add_one, hc', List.map_append]
          exact congrArg (fun z => some (HO.lst (_ ++ [V.str z]))) (tx_app one [c])
      · rintro H4 ⟨s4, h4⟩
        rw [hn, List.take_of_length_le (Nat.le_refl _)] at h4
        have hfl := fm_le p.many hi9 j
        refine ⟨G, D, _, _, rfl, rfl, s4 _ _ hG, h4, by rw [List.length_map, List.length_map]; exact big (by omega), fun E hE => ?_⟩
        refine ⟨E, some (fv one), rfl, s3.trans (s4.trans (Same.new hE _)), ?_⟩
        rw [upd_same, List.take_add_one, hone, List.flatMap_append, List.map_append]
        simp [ext]
    · rintro σ H3 ⟨G, o5, rfl, s3, hG⟩
      rw [List.length_map, List.take_of_length_le (Nat.le_refl _)] at hG
      have hs := stk_le p.many (n := i) (by omega)
      have hl : ((lay p.many i).flatMap (ext p.many)).length ≤ 262144 := lay_le p.many hi9
      have h10 : (i + 1) * 262144 ≤ 9 * 262144 := Nat.mul_le_mul_right _ (by omega)
      refine ⟨_, rfl, _, rfl, F, G, _, _, rfl, rfl, s3 _ _ hF, hG, by rw [List.length_map, List.length_map]; exact big (by omega), fun U hU => ⟨_, rfl, _, _, rfl, ?_⟩⟩
      have sU := Same.new hU (.lst ((stk p.many i).map fv ++ ((lay p.many i).flatMap (ext p.many)).map fv))
      have nU : H U = none := (s2.trans s3).free hU
      refine ⟨U, G, _, _, _, rfl, s2.trans (s3.trans sU), nU, ?_, sU _ _ hG⟩
      rw [upd_same, ← List.map_append]
      rfl
  · rintro σ H2 ⟨F, L, o3, o4, o5, rfl, s2, nF, hF, hL⟩
    have e : ((p.room : Int)).toNat = p.room := by omega
    rw [e] at hF
    exact ⟨_, rfl, kk F H2 s2 nF hF⟩
/-- waits.pop(now, []) -/
theorem dpop2_list {i j : Nat} {σ : L2.St} {H : Hp} {Q : VK} {Wd : Addr} {now : Int} {kw : List (Key × V)} {room many : Nat} {wv : Wv} (hi : σ[i]? = some (some (.ref Wd))) (hj : σ[j]? = some (some (.int now))) (hW : H Wd = some (.dK kw)) (R : WRel H room many kw wv)
    (h : ∀ (a : Addr) (us : List V) (H5 : Hp) (kw5 : List (Key × V)), (∀ b o, H b = some o → b ≠ Wd → H5 b = some o) → H5 Wd = some (.dK kw5) → WRel H5 room many kw5 (wdrop wv now) → kw5.length ≤ kw.length → H5 a = some (.lst us) → TsAt H5 room many ((wv now).getD []) us → Q (.ref a) H5) :
    tDPop2 (tVar i) (tVar j) (tLst tNil) σ H Q := by
  refine ⟨_, hi, Wd, rfl, .inl ⟨kw, .inl hW⟩, _, hj, by show 0 ≤ sizeLine; decide, fun E hE => ?_⟩
  have sE := Same.new hE (.lst [])
  have hW' := sE _ _ hW
  have RE : WRel (upd H E (.lst [])) room many kw wv := R.keep (fun b xs e => sE _ _ e) (Tups.of sE)
  refine ⟨kw, .inl now, hW', rfl, fun v hv => ?_, fun hn => ?_⟩
  · rcases Got.of_get (k := now) RE with ⟨h1, _⟩ | ⟨b, us, h1, h2, h3⟩
    · rw [h1] at hv
      cases hv
    · rw [h1] at hv
      cases hv
      have hne : b ≠ Wd := ne_of h2 hW' (by intro z; cases z)
      have tu : Tups (upd H E (.lst [])) (upd (upd H E (.lst [])) Wd (.dK (dropK kw (.inl now)))) := ⟨fun c xs e => by
        rw [upd_ne (ne_of e hW' (by intro z; cases z))]
        exact e, fun c o xs e => by
        rw [upd_ne (ne_of e hW' (by intro z; cases z))]
        exact e⟩
      refine h b us _ (dropK kw (.inl now)) (fun c o e n => ?_) upd_same ((RE.drop now).keep (fun c xs e => ?_) tu) (dropK_le _ _) ?_ (h3.tups tu)
      · rw [upd_ne n]
        exact sE _ _ e
      · rw [upd_ne (ne_of e hW' (by intro z; cases z))]
        exact e
      · rw [upd_ne hne]
        exact h2
  · refine h E [] _ kw (fun c o e _ => sE _ _ e) hW' (RE.same hn) (Nat.le_refl _) upd_same ?_
    rcases Got.of_get (k := now) RE with ⟨_, h2⟩ | ⟨b, us, h1, _⟩
    · rw [h2]
      rfl
    · rw [h1] at hn
      cases hn
/-- waits.get(k, []) -/
theorem dget2_list {i : Nat} {tk : TE} {σ : L2.St} {H : Hp} {Q : VK} {Wd : Addr} {k : Int} {kw : List (Key × V)} {room many : Nat} {wv : Wv} (hi : σ[i]? = some (some (.ref Wd))) (hk : ∀ (Q : VK), Q (.int k) H → tk σ H Q) (hW : H Wd = some (.dK kw)) (R : WRel H room many kw wv)
    (h : ∀ (a : Addr) (us : List V) (H5 : Hp), Same H H5 → H5 a = some (.lst us) → TsAt H5 room many ((wv k).getD []) us → Q (.ref a) H5) :
    tDGet2 (tVar i) tk (tLst tNil) σ H Q := by
  refine ⟨_, hi, Wd, rfl, .inl ⟨kw, .inl hW⟩, hk _ ⟨by show 0 ≤ sizeLine; decide, fun E hE => ?_⟩⟩
  have sE := Same.new hE (.lst [])
  have hW' := sE _ _ hW
  have RE : WRel (upd H E (.lst [])) room many kw wv := R.keep (fun b xs e => sE _ _ e) (Tups.of sE)
  refine ⟨valV kw (.inl k), DGet.k (k := .inl k) hW', ?_⟩
  rcases Got.of_get (k := k) RE with ⟨h1, h2⟩ | ⟨b, us, h1, h2, h3⟩
  · rw [h1]
    exact h E [] _ sE upd_same (by rw [h2]; rfl)
  · rw [h1]
    exact h b us _ sE h2 h3
theorem isDK {H : Hp} {a : Addr} {kvs : List (Key × V)} (h : H a = some (.dK kvs)) : IsD H a := .inl ⟨kvs, .inl h⟩
def csn (many j : Nat) : Nat := if j < many then 97 + j else 45
theorem csn_stp {many j : Nat} (h4 : many ≤ 4) (hj : j ≤ many) : Stp many (csn many j) := by
  unfold csn
  by_cases h : j < many
  · rw [if_pos h]
    exact .inr ((signs_mem h4).mpr ⟨by omega, by omega⟩)
  · rw [if_neg h]
    exact .inl rfl
def todo (many j c : Nat) : Prop := (c = 45 ∧ j ≤ many) ∨ (c ≠ 45 ∧ 97 + j ≤ c)
theorem todo_next {many j d : Nat} (hj : j ≤ many) (h4 : many ≤ 4) (hd : Stp many d) (h : todo many j d) : d = csn many j ∨ todo many (j + 1) d := by
  unfold csn
  rcases hd with hd | hd
  · by_cases e : j < many
    · exact .inr (.inl ⟨hd, e⟩)
    · rw [if_neg e]
      exact .inl hd
  · have h5 := (signs_mem h4).mp hd
    rcases h with ⟨h, _⟩ | ⟨_, h⟩
    · omega
    · by_cases e : d = 97 + j
      · rw [if_pos (by omega)]
        exact .inl e
      · exact .inr (.inr ⟨by omega, by omega⟩)
theorem todo_end {many c : Nat} (h4 : many ≤ 4) (hc : Stp many c) : ¬ todo many (many + 1) c := by
  rintro (⟨_, h⟩ | ⟨h1, h2⟩)
  · omega
  · rcases hc with h | h
    · exact h1 h
    · have := (signs_mem h4).mp h
      omega
theorem sgn_at {many j : Nat} (h4 : many ≤ 4) (hj : j ≤ many) : atI ((tx (signs many) ++ ("-" : Str)).cps.toList) (j : Int) = some (csn many j) := by
  rw [s_minus, tx_app, tx_list]
  refine atI_nat ?_
  have hl := signs_l h4
  unfold csn
  by_cases h : j < many
  · rw [if_pos h, List.getElem?_append_left (by omega)]
    unfold signs
    rw [List.getElem?_take, if_pos h]
    have : j = 0 ∨ j = 1 ∨ j = 2 ∨ j = 3 := by omega
    rcases this with e | e | e | e <;> subst e <;> rfl
  · have e : j = many := by omega
    subst e
    rw [if_neg h, List.getElem?_append_right (by omega), hl, Nat.sub_self]
    rfl
/-- found, waits: all else stands -/
theorem Keep.upl {p q : Addr} {H H' : Hp} (k : Keep p q H H') (o : HO) : Keep p q H (upd H' p o) := fun b u e h1 h2 => by
  rw [upd_ne h1]
  exact k b u e h1 h2
theorem Keep.upr {p q : Addr} {H H' : Hp} (k : Keep p q H H') (o : HO) : Keep p q H (upd H' q o) := fun b u e h1 h2 => by
  rw [upd_ne h2]
  exact k b u e h1 h2
theorem ok_law_least (D : Dn K mg "_law_least" s_law_least P_law_least) (g : Gx mg) (c_law_stacks : C8.Cal P w K mg base 1 "_law_stacks" spLStacks []) (c_law_step : C8.Cal P w K mg base 1 "_law_step" spLStep []) : C8.Cal P w K mg base 2 "_law_least" spLLeast [] := by
  refine D.cal sc_law_least (fun vs H Q E h => ?_) (fun f cdv A outer s H vs Q E hr h => ?_)
  · obtain ⟨v, p, D, ps, f, m, q, c0, rfl, ⟨a, b, rfl, ha, hb⟩, ok, hr4, hm3, hD, hps, hpm, hf, hP, hc0, hfc, kk⟩ := h
    rfl
  obtain ⟨v, p, D, ps, f, m, q, c0, rfl, ⟨a, b, rfl, ha, hb⟩, ok, hr4, hm3, hD, hps, hpm, hf, hP, hc0, hfc, kk⟩ := h
  have nd := sc_law_least.nd
  refine ⟨_, (pss_cons (ps_par3 (i := 2) (j := 3) (l := 4) (by rfl) nd rfl rfl rfl (by decide) (by decide) (by decide) rfl rfl rfl (pa_cons (pe_callTy call_tuple_of rfl g.tuple b_tuple (pa_cons (C8.pe_c c_law_stacks hr (by decide) rfl (pa_cons (pv 0) pa_nil)) pa_nil)) (pa_cons pe_dnewT (pa_cons pe_int pa_nil))) (by rfl))
    (pss_cons (ps_set (i := 5) nd rfl (.inl rfl) (pe_disp (pps_cons pe_int (pe_lst (pa_cons (pv 2) pa_nil)) pps_nil) (by rfl) (by rfl) (fun z => by cases z) (by decide)))
    (pss_cons (ps_while PassesOwn.never (pt_cmpR (op_neDE (hu0 hr)) (pv 5) pe_dnewK (nomark _)) (pss_cons (ps_for PassesOwn.never rfl (pi_list (pe_dpop2 (pv 5) (pv 4) (pe_lst pa_nil) ⟨rfl, rfl, rfl, rfl⟩)) (pg_name (i := 6) nd rfl (.inl rfl)) (pss_one (ps_if (pt_cmp (pc_dnotin (hu1 hr) (pv 6) (pv 3))) (pss_cons (ps_dput (hu1 hr) (pv 3) (pv 6) (pv 4) rfl)
    (pss_one (ps_for PassesOwn.never rfl (pi_range1 (by rfl) g.range (pa_cons (pe_op op_add (pe_ix ix_tup (pv 0) pe_int (fun _ _ => rfl)) pe_int) pa_nil)) (pg_name (i := 7) nd rfl (.inl rfl)) (pss_cons (ps_set (i := 8) nd rfl (.inr rfl) (pe_ix ix_str (pe_op op_add_str (pe_slice sl_str pe_str po_none (po_some (pe_ix ix_tup (pv 0) pe_int (fun _ _ => rfl)))) pe_str) (pv 7) (fun _ _ => rfl)))
    (pss_cons (ps_set (i := 9) nd rfl (.inl rfl) (pe_callTy call_tuple_of rfl g.tuple b_tuple (pa_cons (pe_lc (own := [("_law_stack", 10)]) rfl nd (pi_tup (pv 6)) (blkOk_by (own := [("_law_stack", 10)]) (N := N_law_least) (sc := defScope s_law_least) (by decide +kernel)) (fun _ _ _ _ _ => (pg_name (i := 10) nd rfl (.inl rfl))) (fun _ _ _ _ _ => pts_nil) (fun _ _ _ _ _ => (C8.pe_c c_law_step (by exact hr) (by decide) rfl (pa_cons (pv 0) (pa_cons (pv 10) (pa_cons (pv 8) pa_nil)))))) pa_nil)))
    (pss_one (ps_dput (hu1 hr) (pv 5) (pe_op op_add (pv 4) (pe_ix ix_list (pv 1) (pv 7) (fun _ _ => rfl))) (pe_op op_cat (pe_dget2 (hu1 hr) (pv 5) (pe_op op_add (pv 4) (pe_ix ix_list (pv 1) (pv 7) (fun _ _ => rfl))) (pe_lst pa_nil) ⟨rfl, rfl, rfl, rfl⟩) (pe_lst (pa_cons (pv 9) pa_nil))) rfl))))))) pss_nil)))
    (pss_one (ps_set (i := 4) nd rfl (.inl rfl) (pe_op op_add (pv 4) pe_int)))))
    (pss_one (ps_ret (pv 3)))))), ?_⟩
  have r1 := ok.r1
  have r9 := ok.r9
  have m1 := ok.m1
  have m4 := ok.m4
  have hsl : (stk p.many p.room).length ≤ 121 := by
    rw [stk_l m4]
    have h1 : p.room = 1 ∨ p.room = 2 ∨ p.room = 3 ∨ p.room = 4 := by omega
    have h2 : p.many = 1 ∨ p.many = 2 ∨ p.many = 3 := by omega
    rcases h1 with e | e | e | e <;> rcases h2 with e2 | e2 | e2 <;> rw [e, e2] <;> decide
  have hN : (trs p.room p.many).length ≤ 3025 := by
    rw [trs_len]
    calc (p.room + 1) * ((p.room + 1) * (stk p.many p.room).length) ≤ 5 * (5 * 121) := Nat.mul_le_mul (by omega) (Nat.mul_le_mul (by omega) hsl)
      _ = 3025 := by decide
  generalize hNN : (trs p.room p.many).length = N at hN
  have iml : ∀ t, (ims p.room p.many t).length ≤ 121 := fun t => by
    unfold ims
    rw [List.length_map]
    exact hsl
  -- begin, found, now
  refine ⟨_, rfl, _, p, rfl, ⟨a, b, rfl, ha, hb⟩, ok, fun D1 H1 s1 nD1 hD1 => ?_⟩
  refine ⟨D1, _, rfl, .inl ⟨SqL.of hD1, fun T hT => fun F hF => ⟨_, _, _, rfl, ?_⟩⟩⟩
  have sT := Same.new hT (.tup ((stk p.many p.room).map fun l => V.str (tx l)))
  have hTT : upd H1 T (.tup ((stk p.many p.room).map fun l => V.str (tx l))) T = some (.tup ((ims p.room p.many (tunt p.room)).map fz)) := by
    rw [upd_same, ims_unt]
  generalize upd H1 T (.tup ((stk p.many p.room).map fun l => V.str (tx l))) = H2 at sT hTT hF
  have s12 := s1.trans sT
  have nF : H F = none := s12.free hF
  have sF := Same.new hF (.dT [])
  have hFF : upd H2 F (.dT []) F = some (.dT []) := upd_same
  generalize upd H2 F (.dT []) = H3 at sF hFF
  have s13 := s12.trans sF
  have hT3 := sF _ _ hTT
  -- waits
  refine fun Wd hWd => ⟨_, rfl, by show 1 ≤ sizeLine; decide, fun l0 hl0 => ?_⟩
  have sW := Same.new hWd (.dK [])
  have sl := Same.new hl0 (.lst [.ref T])
  refine ⟨sl _ _ upd_same, [(Sum.inl 0, .ref l0)], rfl, (show 1 ≤ 15 by decide), ?_⟩
  have nW : H Wd = none := s13.free hWd
  have hFW : F ≠ Wd := ne_of_none hFF hWd
  have hWD0 : upd (upd (upd H3 Wd (.dK [])) l0 (.lst [.ref T])) Wd (.dK (mergeK [] [(Sum.inl 0, .ref l0)])) Wd = some (.dK [(Sum.inl 0, .ref l0)]) := upd_same
  have hl0W : l0 ≠ Wd := fun z => by
    rw [z, upd_same] at hl0
    cases hl0
  have hF4 : upd (upd (upd H3 Wd (.dK [])) l0 (.lst [.ref T])) Wd (.dK (mergeK [] [(Sum.inl 0, .ref l0)])) F = some (.dT []) := by
    rw [upd_ne hFW]
    exact sl _ _ (sW _ _ hFF)
  have hl4 : upd (upd (upd H3 Wd (.dK [])) l0 (.lst [.ref T])) Wd (.dK (mergeK [] [(Sum.inl 0, .ref l0)])) l0 = some (.lst [.ref T]) := by
    rw [upd_ne hl0W, upd_same]
  have hT4 : upd (upd (upd H3 Wd (.dK [])) l0 (.lst [.ref T])) Wd (.dK (mergeK [] [(Sum.inl 0, .ref l0)])) T = some (.tup ((ims p.room p.many (tunt p.room)).map fz)) := by
    rw [upd_ne (ne_of_none hT3 hWd)]
    exact sl _ _ (sW _ _ hT3)
  have k4 : Keep F Wd H (upd (upd (upd H3 Wd (.dK [])) l0 (.lst [.ref T])) Wd (.dK (mergeK [] [(Sum.inl 0, .ref l0)]))) := Keep.upr (Keep.of (s13.trans (sW.trans sl))) _
  generalize upd (upd (upd H3 Wd (.dK [])) l0 (.lst [.ref T])) Wd (.dK (mergeK [] [(Sum.inl 0, .ref l0)])) = H4 at hWD0 hF4 hl4 hT4 k4
  have hp_ : ∀ H', Keep F Wd H H' → PlanAt H' (.ref a) p := fun H' k => ⟨a, b, rfl, k _ _ ha (ne_of_none ha nF) (ne_of_none ha nW), by
    obtain ⟨ob, o1, o2⟩ := hb
    exact ⟨ob, o1, k _ _ o2 (ne_of_none o2 nF) (ne_of_none o2 nW)⟩⟩
  have hD_ : ∀ H', Keep F Wd H H' → H' D = some (.lst (ps.map V.int)) := fun H' k => k _ _ hD (ne_of_none hD nF) (ne_of_none hD nW)
  have ha_ : ∀ H', Keep F Wd H H' → H' a = some (.tup [.int p.room, .int p.many, .ref b, .int p.pop]) := fun H' k => k _ _ ha (ne_of_none ha nF) (ne_of_none ha nW)
  clear sl hl0 sW sF s13 hFF hT3 hWd hF
  refine ⟨fun mu σ H5 => ∃ (now M : Int) (L : List (Tr × Int)) (wv : Wv) (kw : List (Key × V)) (o6 o7 o8 o9 : Option V), σ = [some (.ref a), some (.ref D), some (.ref T), some (.ref F), some (.int now), some (.ref Wd), o6, o7, o8, o9, none] ∧ Keep F Wd H H5 ∧ H5 F = some (.dT (fkv p.room p.many L)) ∧ H5 Wd = some (.dK kw) ∧ WRel H5 p.room p.many kw wv ∧ kw.length ≤ 1 + 5 * L.length ∧ Top p.room p.many f now M L wv ∧ mu = (N - L.length) * 101 + (M - now).toNat,
    ⟨_, 0, 1, [], (fun k => if k = 0 then some [tunt p.room] else none), _, none, none, none, none, rfl, k4, hF4, hWD0, ⟨fun k hk => ?_, fun k ts hk => ?_, fun x hx => ?_⟩, Nat.le_refl _, ⟨⟨List.nodup_nil, (fun x hx => by cases hx), (fun x hx => by cases hx)⟩, ⟨fun k ts hk => ?_, fun k ts hk t ht => ?_⟩, (fun x hx => by cases hx), .inr ⟨_, rfl, List.mem_singleton.mpr rfl⟩, by decide, by decide, by decide⟩, rfl⟩, ?_⟩
  · by_cases e : k = 0
    · rw [if_pos e] at hk
      cases hk
    · exact valV_neg (fun z => e (Sum.inl.inj z).symm)
  · by_cases e : k = 0
    · rw [if_pos e] at hk
      cases hk
      subst e
      exact ⟨l0, _, valV_pos rfl, hl4, T, [], rfl, hT4, rfl⟩
    · rw [if_neg e] at hk
      cases hk
  · have : x = (Sum.inl 0, .ref l0) := by simpa using hx
    subst this
    exact ⟨0, rfl⟩
  · by_cases e : k = 0
    · rw [if_pos e] at hk
      cases hk
      subst e
      exact ⟨by decide, by decide, by show 1 ≤ 1 + 5 * 0; decide⟩
    · rw [if_neg e] at hk
      cases hk
  · by_cases e : k = 0
    · rw [if_pos e] at hk
      cases hk
      subst e
      have e2 : t = tunt p.room := by simpa using ht
      rw [e2]
      exact Way.none _ _ _
    · rw [if_neg e] at hk
      cases hk
  rintro mu σ H5 ⟨now, M, L, wv, kw, o6, o7, o8, o9, rfl, k5, hF5, hW5, R5, hkl, Tp, rfl⟩
  have okL : ∀ x ∈ L, TrOk p.room p.many x.1 := fun x hx => (Tp.F.way x hx).ok r1
  refine ⟨_, rfl, fun E hE => ⟨Wd, E, kw, rfl, rfl, (Same.new hE _) _ _ hW5, upd_same, _, rfl, ?_⟩⟩
  have sE := Same.new hE (.dK [])
  cases kw with
  | nil =>
    refine iteF ⟨_, rfl, ?_⟩
    refine kk F _ _ (fun c o e => ?_) nF (sE _ _ hF5) fun t tok => ?_
    · exact sE _ _ (k5 _ _ e (ne_of_none e nF) (ne_of_none e nW))
    · exact fkv_in m1 L okL Tp.F.nd (Tp.least hP r1 hc0 hfc R5.nil tok)
  | cons x r =>
    obtain ⟨kx, tsx, hkx⟩ := R5.cons
    have hkx2 := Tp.W.k _ _ hkx
    refine iteT ⟨fun σ' H' => ∃ m', m' < (N - L.length) * 101 + (M - now).toNat ∧ _, fun σ' H' h => h, ?_⟩
    have hF6 := sE _ _ hF5
    have hW6 := sE _ _ hW5
    have k6 : Keep F Wd H (upd H5 E (.dK [])) := k5.trans (Keep.of sE)
    have R6 : WRel (upd H5 E (.dK [])) p.room p.many (x :: r) wv := R5.keep (fun b xs e => sE _ _ e) (Tups.of sE)
    generalize upd H5 E (.dK []) = H6 at hF6 hW6 k6 R6
    refine tseq_i (tfor_i (ilist_i ?_))
    refine dpop2_list rfl rfl hW6 R6 fun A us H7 kw7 h7 hW7 R7 hkl7 hA7 hT7 => ?_
    have hF7 := h7 _ _ hF6 hFW
    have k7 : Keep F Wd H H7 := fun c o e n1 n2 => h7 _ _ (k6 _ _ e n1 n2) n2
    generalize hts : (wv now).getD [] = ts at hT7
    have hAF : A ≠ F := ne_of hA7 hF7 (by intro z; cases z)
    have hAW : A ≠ Wd := ne_of hA7 hW7 (by intro z; cases z)
    have md := Tp.mid (tunt p.room)
    rw [hts] at md
    have tm := Tp.m
    have tn := Tp.n
    have tz := Tp.z
    refine ⟨A, rfl, ⟨us, SqL.of hA7⟩, for_list (K := K) (a := A) (xs := us)
      (fun i σ H8 => ∃ (M' : Int) (L' : List (Tr × Int)) (wv' : Wv) (kw' : List (Key × V)) (o6 o7 o8 o9 : Option V), σ = [some (.ref a), some (.ref D), some (.ref T), some (.ref F), some (.int now), some (.ref Wd), o6, o7, o8, o9, none] ∧ Keep F Wd H H8 ∧ Keep F Wd H7 H8 ∧ H8 F = some (.dT (fkv p.room p.many L')) ∧ H8 Wd = some (.dK kw') ∧ WRel H8 p.room p.many kw' wv' ∧ kw'.length ≤ 1 + 5 * L'.length ∧
        Mid p.room p.many f now M' (1 + 5 * L'.length) L' wv' (ts.drop i) (fun _ => False) (tunt p.room) ∧ M' ≤ now + 101 ∧ now + 1 ≤ M' ∧ (N - L'.length) * 101 + (M' - (now + 1)).toNat < (N - L.length) * 101 + (M - now).toNat)
      ⟨M, L, _, kw7, o6, o7, o8, o9, rfl, k7, Keep.refl _ _ _, hF7, hW7, R7, by omega, md, by omega, by omega, by omega⟩ (fun i σ H8 _ ⟨_, _, _, _, _, _, _, _, _, _, k8, _⟩ => SqL.of (k8 _ _ hA7 hAF hAW)) ?_ ?_⟩
    · rintro i x σ H8 hx ⟨M', L', wv', kw', o6, o7, o8, o9, rfl, k8, k78, hF8, hW8, R8, hkl8, md8, hM1, hM2, hmu⟩
      obtain ⟨t, B, ht, rfl, hB7⟩ := hT7.get hx
      have hB8 : H8 B = some (.tup ((ims p.room p.many t).map fz)) := k78 _ _ hB7 (ne_of hB7 hF7 (by intro z; cases z)) (ne_of hB7 hW7 (by intro z; cases z))
      have hdr : ts.drop i = t :: ts.drop (i + 1) := by
        have hlt := (List.getElem?_eq_some_iff.mp ht).1
        rw [List.drop_eq_getElem_cons hlt]
        rw [List.getElem?_eq_getElem hlt] at ht
        rw [Option.some.inj ht]
      rw [hdr] at md8
      have tok : TrOk p.room p.many t := (md8.r t (List.mem_cons_self ..)).ok r1
      have okL' : ∀ x ∈ L', TrOk p.room p.many x.1 := fun x hx => (md8.F.way x hx).ok r1
      have hL'N := md8.F.len r1
      rw [hNN] at hL'N
      refine ⟨_, rfl, _, rfl, F, _, rfl, DGet.t (k := tkey p.room p.many t) hF8 (by rw [tkey_kV]; exact hB8), _, rfl, ?_⟩
      rw [fkv_some m1 okL' tok md8.F.nd]
      by_cases hin : t ∈ L'.map (·.1)
      · rw [decide_eq_true hin]
        refine iteF ?_
        exact ⟨M', L', wv', kw', _, _, _, _, rfl, k8, k78, hF8, hW8, R8, hkl8, md8.skip hin, hM1, hM2, hmu⟩
      · rw [decide_eq_false hin]
        refine iteT ?_
        have md9 := (md8.take hin).wider (M' := now + 101) (P' := 1 + 5 * L'.length) hM1 (Nat.le_refl _)
        have hL2 : (L' ++ [(t, now)]).length = L'.length + 1 := by simp
        have hL2N := md9.F.len r1
        rw [hNN, hL2] at hL2N
        have hBF : B ≠ F := ne_of hB8 hF8 (by intro z; cases z)
        have hBW : B ≠ Wd := ne_of hB8 hW8 (by intro z; cases z)
        refine ⟨_, rfl, _, rfl, _, rfl, F, _, rfl, DPut.t (k := tkey p.room p.many t) (v := .int now) hF8 (by rw [tkey_kV]; exact hB8) (by unfold fkv; rw [List.length_map]; exact szl (by omega)), ?_⟩
        rw [fkv_put m1 okL' tok hin]
        have hF9 : upd H8 F (.dT (fkv p.room p.many (L' ++ [(t, now)]))) F = some (.dT (fkv p.room p.many (L' ++ [(t, now)]))) := upd_same
        have hW9 : upd H8 F (.dT (fkv p.room p.many (L' ++ [(t, now)]))) Wd = some (.dK kw') := by
          rw [upd_ne hFW.symm]
          exact hW8
        have k9 := k8.upl (.dT (fkv p.room p.many (L' ++ [(t, now)])))
        have k79 := k78.upl (.dT (fkv p.room p.many (L' ++ [(t, now)])))
        have hB9 : upd H8 F (.dT (fkv p.room p.many (L' ++ [(t, now)]))) B = some (.tup ((ims p.room p.many t).map fz)) := by
          rw [upd_ne hBF]
          exact hB8
        have R9 : WRel (upd H8 F (.dT (fkv p.room p.many (L' ++ [(t, now)])))) p.room p.many kw' wv' := R8.keep (fun c xs e => by rw [upd_ne (ne_of e hF8 (by intro z; cases z))]; exact e) ⟨fun c xs e => by rw [upd_ne (ne_of e hF8 (by intro z; cases z))]; exact e, fun c o xs e => by rw [upd_ne (ne_of e hF8 (by intro z; cases z))]; exact e⟩
        generalize upd H8 F (.dT (fkv p.room p.many (L' ++ [(t, now)]))) = H9 at hF9 hW9 k9 k79 hB9 R9
        refine ⟨_, rfl, a, _, 1, _, rfl, rfl, SqT.of (ha_ _ k9), rfl, _, _, rfl, rfl, _, rfl, by omega, by omega, ?_⟩
        have eN : ((p.many : Int) + 1).toNat = p.many + 1 := by omega
        rw [eN]
        refine for_range (lo := 0) (n := p.many + 1) (fun j σ H10 => ∃ (wv2 : Wv) (kw2 : List (Key × V)) (o7 o8 o9 : Option V), σ = [some (.ref a), some (.ref D), some (.ref T), some (.ref F), some (.int now), some (.ref Wd), some (.ref B), o7, o8, o9, none] ∧ Keep F Wd H H10 ∧ Keep F Wd H7 H10 ∧ H10 F = some (.dT (fkv p.room p.many (L' ++ [(t, now)]))) ∧ H10 Wd = some (.dK kw2) ∧ H10 B = some (.tup ((ims p.room p.many t).map fz)) ∧ WRel H10 p.room p.many kw2 wv2 ∧ kw2.length ≤ 1 + 5 * L'.length + j ∧
          Mid p.room p.many f now (now + 101) (1 + 5 * L'.length + j) (L' ++ [(t, now)]) wv2 (ts.drop (i + 1)) (todo p.many j) t)
          ⟨wv', kw', o7, o8, o9, rfl, k9, k79, hF9, hW9, hB9, R9, hkl8, ⟨md9.F, md9.W, fun x hx c hc hn => md9.s x hx c hc fun e => absurd ?_ (hn e), md9.b, md9.r⟩⟩ ?_ ?_
        · rcases hc with e2 | e2
          · exact .inl ⟨e2, Nat.zero_le _⟩
          · have := (signs_mem m4).mp e2
            exact .inr ⟨by omega, by omega⟩
        · rintro j σ H10 hj ⟨wv2, kw2, o7, o8, o9, rfl, k10, k710, hF10, hW10, hB10, R10, hkl10, md10⟩
          have hj' : j ≤ p.many := by omega
          have hcs := csn_stp m4 hj'
          have hfc := hf _ hcs
          have hsgl := signs_len p.many
          -- the sign
          refine ⟨_, rfl, a, _, 1, _, rfl, rfl, SqT.of (ha_ _ k10), rfl, _, rfl, _, rfl, by rw [s_abcd, tx_len]; exact sz (by decide), ?_⟩
          rw [s_abcd, cut_to (l := [97, 98, 99, 100]) (n := p.many) m4]
          refine ⟨_, _, rfl, rfl, by rw [s_minus, tx_len, tx_len]; exact sz (by show (signs p.many).length + 1 ≤ _; omega), ?_⟩
          refine ⟨_, rfl, _, _, csn p.many j, rfl, rfl, ?_, by rw [Int.zero_add]; exact sgn_at m4 hj', ?_⟩
          · rw [s_minus, tx_app, tx_len, List.length_append]
            exact sz (by show (signs p.many).length + 1 ≤ _; omega)
          -- the state behind it
          refine ⟨_, rfl, B, rfl, ⟨_, SqT.of hB10⟩, fun E2 hE2 => ?_⟩
          refine lc_it (walk_tup (a := B) (xs := (ims p.room p.many t).map fz)) (fun i2 H11 => Same H10 H11 ∧ H11 E2 = some (.lst ((((ims p.room p.many t).take i2).map fun x => step p.room x (csn p.many j)).map fz))) ⟨Same.new hE2 _, upd_same⟩ (fun i2 H11 _ h11 => SqT.of (h11.1 _ _ hB10)) ?_ ?_
          · rintro i2 x2 H11 H12 hi2 ⟨s11, h11⟩ ⟨rfl, hx2⟩
            rw [List.getElem?_map] at hx2
            obtain ⟨y, hy, rfl⟩ := Option.map_eq_some_iff.mp hx2
            have hyl : y.length ≤ p.room := by
              have := List.mem_of_getElem? hy
              obtain ⟨z, _, rfl⟩ := List.mem_map.mp this
              exact tby_len tok z
            refine ⟨rfl, ?_⟩
            refine ⟨_, rfl, _, rfl, _, rfl, .ref a, p, y, csn p.many j, rfl, (hp_ _ k10).mono s11, ok, by omega, fun H13 s13 => ?_⟩
            refine ⟨_, s13 _ _ h11, ?_, fun c o e => ?_, ?_⟩
            · rw [List.length_map, List.length_map, List.length_take]
              have := iml t
              exact szl (by omega)
            · rw [upd_ne (ne_of_none e hE2)]
              exact s13 _ _ (s11 _ _ e)
            · rw [upd_same, List.take_add_one, hy, List.map_append, List.map_append]
              rfl
          rintro H11 ⟨s11, h11⟩
          rw [List.length_map, List.take_of_length_le (Nat.le_refl _), ← ims_step r1 tok] at h11
          refine ⟨E2, _, rfl, .inl ⟨SqL.of h11, fun T2 hT2 => ?_⟩⟩
          have sT2 := Same.new hT2 (.tup ((ims p.room p.many (tjoin t (tstep p.room (csn p.many j)))).map fz))
          have s12 := s11.trans sT2
          have hT12 : upd H11 T2 (.tup ((ims p.room p.many (tjoin t (tstep p.room (csn p.many j)))).map fz)) T2 = some (.tup ((ims p.room p.many (tjoin t (tstep p.room (csn p.many j)))).map fz)) := upd_same
          generalize upd H11 T2 (.tup ((ims p.room p.many (tjoin t (tstep p.room (csn p.many j)))).map fz)) = H12 at s12 hT12
          have R12 : WRel H12 p.room p.many kw2 wv2 := R10.keep (fun c xs e => s12 _ _ e) (Tups.of s12)
          have k12 := k10.trans (Keep.of s12)
          have price : ∀ {H' : Hp} {σ : L2.St} (Q : VK), H' D = some (.lst (ps.map V.int)) → σ[4]? = some (some (.int now)) → σ[1]? = some (some (.ref D)) → σ[7]? = some (some (.int (0 + (j : Int)))) → Q (.int (now + f (csn p.many j))) H' → tOp rAdd (tVar 4) (tOp (rIxL K) (tVar 1) (tVar 7)) σ H' Q := fun {H' σ} Q hD' e1 e2 e3 hq => by
            refine ⟨_, e1, _, e2, _, e3, D, _, 0 + (j : Int), .int (f (csn p.many j)), rfl, rfl, SqL.of hD', ?_, _, _, rfl, rfl, hq⟩
            rw [Int.zero_add]
            refine atI_nat ?_
            rw [List.getElem?_map]
            unfold csn
            by_cases e : j < p.many
            · rw [if_pos e, hps j e]
              rfl
            · rw [if_neg e, show j = p.many by omega, hpm]
              rfl
          refine sdput_i (top_i (dget2_list rfl (fun Q hq => price Q (hD_ _ k12) rfl rfl rfl hq) (s12 _ _ hW10) R12 fun A2 us2 H13 s13 hA2 hT13 => ?_))
          refine ⟨_, rfl, by show 1 ≤ sizeLine; decide, fun E4 hE4 => ?_⟩
          have sE4 := Same.new hE4 (.lst [.ref T2])
          have hlen2 := hT13.len
          have hgl : ((wv2 (now + f (csn p.many j))).getD []).length ≤ 1 + 5 * L'.length + j := by
            cases e : wv2 (now + f (csn p.many j)) with
            | none => exact Nat.zero_le _
            | some ts2 => exact (md10.W.k _ _ e).2.2
          refine ⟨A2, E4, us2, _, rfl, rfl, sE4 _ _ hA2, upd_same, sz (by rw [hlen2]; show _ + 1 ≤ _; omega), fun A3 hA3 => ?_⟩
          have sA3 := Same.new hA3 (.lst (us2 ++ [.ref T2]))
          have s15 := s12.trans (s13.trans (sE4.trans sA3))
          have hT15 : TsAt (upd (upd H13 E4 (.lst [.ref T2])) A3 (.lst (us2 ++ [.ref T2]))) p.room p.many ((wv2 (now + f (csn p.many j))).getD [] ++ [tjoin t (tstep p.room (csn p.many j))]) (us2 ++ [.ref T2]) :=
            (hT13.tups (Tups.of (sE4.trans sA3))).snoc ((s13.trans (sE4.trans sA3)) _ _ hT12)
          have hA15 : upd (upd H13 E4 (.lst [.ref T2])) A3 (.lst (us2 ++ [.ref T2])) A3 = some (.lst (us2 ++ [.ref T2])) := upd_same
          generalize upd (upd H13 E4 (.lst [.ref T2])) A3 (.lst (us2 ++ [.ref T2])) = H15 at s15 hT15 hA15
          have k15 := k10.trans (Keep.of s15)
          have hW15 := s15 _ _ hW10
          have R15 : WRel H15 p.room p.many kw2 wv2 := R10.keep (fun c xs e => s15 _ _ e) (Tups.of s15)
          refine ⟨_, rfl, ?_⟩
          dsimp only
          refine price _ (hD_ _ k15) rfl rfl rfl ⟨Wd, _, rfl, DPut.k (k := Sum.inl (now + f (csn p.many j))) (v := .ref A3) hW15 (szl (by omega)), ?_⟩
          have nLW : ∀ c xs, H15 c = some (.lst xs) → c ≠ Wd := fun c xs e => ne_of e hW15 (by intro z; cases z)
          have nTW : ∀ c xs, H15 c = some (.tup xs) → c ≠ Wd := fun c xs e => ne_of e hW15 (by intro z; cases z)
          have tW : Tups H15 (upd H15 Wd (.dK (putK kw2 (Sum.inl (now + f (csn p.many j))) (.ref A3)))) := ⟨fun c xs e => by rw [upd_ne (nTW c xs e)]; exact e, fun c o xs e => by rw [upd_ne (ne_of e hW15 (by intro z; cases z))]; exact e⟩
          refine ⟨wput wv2 (now + f (csn p.many j)) ((wv2 (now + f (csn p.many j))).getD [] ++ [tjoin t (tstep p.room (csn p.many j))]), _, _, _, _, rfl, k15.upr _, (k710.trans (Keep.of s15)).upr _, ?_, upd_same, ?_, ?_, ?_, md10.put (List.mem_append_right _ (List.mem_singleton.mpr rfl)) hcs hfc.1 (by omega) (by omega) fun d hd td => todo_next hj' m4 hd td⟩
          · rw [upd_ne hFW]
            exact s15 _ _ hF10
          · rw [upd_ne hBW]
            exact s15 _ _ hB10
          · exact (R15.put hA15 hT15).keep (fun c xs e => by rw [upd_ne (nLW c xs e)]; exact e) tW
          · have := length_putK kw2 (Sum.inl (now + f (csn p.many j))) (.ref A3)
            omega
        · rintro σ H10 ⟨wv2, kw2, o7, o8, o9, rfl, k10, k710, hF10, hW10, hB10, R10, hkl10, md10⟩
          refine ⟨now + 101, L' ++ [(t, now)], wv2, kw2, _, _, _, _, rfl, k10, k710, hF10, hW10, R10, by rw [hL2]; omega, (md10.done fun c hc => todo_end m4 hc).wider (Int.le_refl _) (by rw [hL2]; omega), Int.le_refl _, by omega, ?_⟩
          rw [hL2]
          omega
    · rintro σ H8 ⟨M', L', wv', kw', o6, o7, o8, o9, rfl, k8, k78, hF8, hW8, R8, hkl8, md8, hM1, hM2, hmu⟩
      rw [hT7.len, List.drop_length] at md8
      refine ⟨_, rfl, _, _, rfl, rfl, ?_⟩
      exact ⟨_, hmu, now + 1, M', L', wv', kw', _, _, _, _, rfl, k8, hF8, hW8, R8, hkl8, md8.top hM1 hM2 tz, rfl⟩
theorem inV_sign {c : Nat} {l : List Nat} (h : c ∈ l) : inV (.str (tx [c])) (l.map fun c => V.str (tx [c])) = true := by
  unfold inV
  rw [List.any_eq_true]
  refine ⟨.str (tx [c]), List.mem_map.mpr ⟨c, h, rfl⟩, ?_⟩
  show (tx [c] == tx [c]) = true
  simp
theorem flat_signs (l : List Nat) : (l.map fun c => V.str (tx [c])).all flatV = true := by
  rw [List.all_eq_true]
  intro x hx
  obtain ⟨c, _, rfl⟩ := List.mem_map.mp hx
  rfl
theorem ok_price_of_step (D : Dn K mg "price_of_step" s_price_of_step P_price_of_step) (g : Gx mg) : C8.Cal P w K mg base 1 "price_of_step" spPStep [] := by
  refine D.cal sc_price_of_step (fun vs H Q E h => ?_) (fun f cdv A outer s H vs Q E hr h => ?_)
  · obtain ⟨v, p, c, rfl, ⟨a, b, rfl, ha, hb⟩, ok, hc, q⟩ := h
    rfl
  obtain ⟨v, p, c, rfl, ⟨a, b, rfl, ha, hb⟩, ok, hc, q⟩ := h
  have nd := sc_price_of_step.nd
  refine ⟨_, (pss_cons (ps_if (pt_cmpR op_eq (pv 1) (C8.pe_gc rfl g.POP_STEP) (nomark _)) (pss_one (ps_ret (pe_ix ix_tup (pv 0) pe_int (fun _ _ => rfl)))) pss_nil)
    (pss_one (ps_ret (pe_ix ix_tup (pe_ix ix_tup (pv 0) pe_int (fun _ _ => rfl)) (pe_bm PySem.F.plainAttrs_str PySem.F.slot_str_index PySem.F.type_str_index mt_sindex (C8.pe_gc rfl g.SIGNS) (pa_cons (pv 1) pa_nil)) (fun _ _ => rfl))))), ?_⟩
  refine ⟨_, rfl, rfl, _, rfl, ite2 (fun z => ?_) (fun z => ?_)⟩
  · have z' : c = 45 := by
      have z1 := of_decide_eq_true z
      injection z1 with z2
      exact List.head_eq_of_cons_eq (str_inj.mp z2)
    refine ⟨_, rfl, a, _, 3, _, rfl, rfl, SqT.of ha, rfl, ?_⟩
    have e : cst p c = p.pop := by
      unfold cst
      rw [if_pos z']
    rw [← e]
    exact q H (Same.refl H)
  · have z' : ¬ c = 45 := fun y => by
      subst y
      exact z (decide_eq_true rfl)
    have hs := hc.resolve_left z'
    have hin : ∀ M, c ∈ signs M → c - 97 < M ∧ ∃ r, Builtin.Str.occurrences (tx [97, 98, 99, 100]) (tx [c]) 0 (tx [97, 98, 99, 100]).length 1 = (c - 97) :: r := fun M hM => by
      have h4 : c = 97 ∨ c = 98 ∨ c = 99 ∨ c = 100 := by
        have := List.mem_of_mem_take (show c ∈ List.take M [97, 98, 99, 100] from hM)
        simpa using this
      have hj : c - 97 < M := by
        match M, hM with
        | 0, hM => simp [signs] at hM
        | 1, hM => simp [signs] at hM; omega
        | 2, hM => simp [signs] at hM; omega
        | 3, hM => simp [signs] at hM; omega
        | M + 4, _ => omega
      refine ⟨hj, ?_⟩
      rcases h4 with rfl | rfl | rfl | rfl
      · exact ⟨[], by decide +kernel⟩
      · exact ⟨[], by decide +kernel⟩
      · exact ⟨[], by decide +kernel⟩
      · exact ⟨[], by decide +kernel⟩
    obtain ⟨hj, r, hocc⟩ := hin p.many hs
    have hl : c - 97 < p.pr.length := by
      rw [ok.pl]
      exact hj
    refine ⟨_, rfl, a, _, 2, _, rfl, rfl, SqT.of ha, rfl, rfl, _, rfl, _, _, _, r, rfl, rfl, hocc, ?_⟩
    refine ⟨b, _, ((c - 97 : Nat) : Int), .int p.pr[c - 97], rfl, rfl, TupF.sq hb, atI_nat (by rw [List.getElem?_map, List.getElem?_eq_getElem hl]; rfl), ?_⟩
    have e : cst p c = p.pr[c - 97] := by
      unfold cst
      rw [if_neg z', List.getD_eq_getElem?_getD, List.getElem?_eq_getElem hl]
      rfl
    rw [← e]
    exact q H (Same.refl H)
theorem ok_law_signs (D : Dn K mg "_law_signs" s_law_signs P_law_signs) (g : Gx mg) (c_law_take : C8.Cal P w K mg base 1 "_law_take" spTake []) : C8.Cal P w K mg base 2 "_law_signs" spLSigns [] := by
  refine D.cal sc_law_signs (fun vs H Q E h => ?_) (fun f cdv A outer s H vs Q E hr h => ?_)
  · obtain ⟨p, q, ns, z, v, pl, n, rfl, B, ⟨a, b, rfl, ha, hb⟩, ok, hn, kk⟩ := h
    rfl
  obtain ⟨p, q, ns, z, v, pl, n, rfl, B, ⟨a, b, rfl, ha, hb⟩, ok, hn, kk⟩ := h
  have nd := sc_law_signs.nd
  refine ⟨_, (pss_one (ps_ret (pe_join pe_str (pe_lc (own := [("_law_k", 3)]) rfl nd (pi_range1 (by rfl) g.range (pa_cons (C8.pe_c c_law_take hr (by decide) rfl (pa_cons (pv 0) (pa_cons (pe_op op_add (pv 2) pe_int) pa_nil))) pa_nil)) (blkOk_by (own := [("_law_k", 3)]) (N := N_law_signs) (sc := defScope s_law_signs) (by decide +kernel)) (fun _ _ _ _ _ => (pg_name (i := 3) nd rfl (.inl rfl))) (fun _ _ _ _ _ => pts_nil) (fun _ _ _ _ _ => (pe_ix ix_str pe_str (C8.pe_c c_law_take (by exact hr) (by decide) rfl (pa_cons (pv 0) (pa_cons (pe_ix (r := rIxT K) ix_tup (pv 1) pe_int (fun _ _ => rfl)) pa_nil))) (fun _ _ => rfl))))))), ?_⟩
  have hm1 := ok.m1
  have hm4 := ok.m4
  refine ⟨⟨_, rfl⟩, _, rfl, _, rfl, _, _, rfl, rfl, p, q, ns, z, (n : Int) + 1, rfl, B, by omega, p9 (by omega), fun m ns1 z1 H1 m0 m1 B1 k1 => ?_⟩
  refine ⟨m, rfl, by omega, by omega, fun D hD => ?_⟩
  have hf := B1.fresh hD
  have sD := Same.new hD (.lst [])
  refine lc_range (lo := 0) (fun i H2 => ∃ (l : List Nat) (ns2 : List Int) (z2 : Int), BoxAt H2 p q ns2 z2 ∧ Keep p q H1 H2 ∧ H2 D = some (.lst (l.map fun c => V.str (tx [c]))) ∧ l.length = i ∧ ∀ c ∈ l, c ∈ signs pl.many)
    ⟨[], ns1, z1, B1.mono sD, Keep.of sD, upd_same, rfl, fun x hx => by simp at hx⟩ ?_ ?_
  · rintro i H2 hi ⟨l, ns2, z2, B2, k2, hD2, hl, hs⟩
    refine ⟨rfl, ?_⟩
    refine ⟨_, rfl, _, rfl, a, _, 1, _, rfl, rfl, SqT.of ((k1.trans k2).tup B ha), rfl, p, q, ns2, z2, pl.many, rfl, B2, by omega, p9 (by omega), fun r ns3 z3 H3 r0 r1 B3 k3 => ?_⟩
    obtain ⟨c, hc, hat⟩ := sign_at hm4 r0 r1
    refine ⟨("abcd" : Str), r, c, rfl, rfl, by rw [s_abcd, tx_len]; exact sz (by decide), hat, ?_⟩
    have hD3 := k3 _ _ hD2 hf.1 hf.2
    refine ⟨_, hD3, by rw [List.length_map, hl]; exact szl (by omega), l ++ [c], ns3, z3, ⟨by rw [upd_ne hf.1.symm]; exact B3.b, by rw [upd_ne hf.2.symm]; exact B3.l, B3.ne⟩, fun b o e e1 e2 => ?_, ?_, by simp [hl], fun x hx => ?_⟩
    · rw [upd_ne (ne_of_none e hD)]
      exact k3 _ _ (k2 _ _ e e1 e2) e1 e2
    · rw [upd_same, List.map_append]
      rfl
    · rcases List.mem_append.mp hx with h | h
      · exact hs x h
      · have : x = c := by simpa using h
        subst this
        exact hc
  · rintro H2 ⟨l, ns2, z2, B2, k2, hD2, hl, hs⟩
    have e1 : (l.map fun c => V.str (tx [c])) = (l.map fun c => tx [c]).map V.str := by rw [List.map_map]; rfl
    rw [e1] at hD2
    have e2 := tx1_len l
    refine ⟨("" : Str), D, (l.map fun c => tx [c]), rfl, rfl, .inl (SqL.of hD2), ?_, ?_⟩
    · rw [e2, s_empty, List.length_map]
      show l.length + l.length * 0 ≤ 16777216
      omega
    · have e3 : Txt.join ("" : Str) (l.map fun c => tx [c]) = tx l := by
        have h := join_tx (l.map fun c => [c])
        rw [List.map_map] at h
        rw [flat1] at h
        rw [s_empty]
        exact h
      rw [e3]
      exact kk l ns2 z2 H2 (by omega) hs B2 (k1.trans k2)
theorem no_spLWork : ∀ vs H Q E, ¬ spLWork 0 vs H Q E := fun vs H Q E h => by
  obtain ⟨p, q, ns, z, v, pl, m, tm, _, _, _, _, h1, h2, _⟩ := h
  omega
theorem no_spLTuples : ∀ vs H Q E, ¬ spLTuples 0 vs H Q E := fun vs H Q E h => by
  obtain ⟨u, w, many, _, _, _, h, _⟩ := h
  have := W.dep_pos w
  omega
theorem no_spLCount : ∀ vs H Q E, ¬ spLCount 0 vs H Q E := fun vs H Q E h => by
  obtain ⟨u, w, many, _, _, _, h, _⟩ := h
  have := W.dep_pos w
  omega
theorem no_spLLong : ∀ vs H Q E, ¬ spLLong 0 vs H Q E := fun vs H Q E h => by
  obtain ⟨u, w, many, _, _, _, h, _⟩ := h
  have := W.dep_pos w
  omega
theorem ok_law_triple (D : Dn K mg "_law_triple" s_law_triple P_law_triple) (g : Gx mg) (c_law_take : C8.Cal P w K mg base 1 "_law_take" spTake []) (c_law_signs : C8.Cal P w K mg base 2 "_law_signs" spLSigns []) : C8.Cal P w K mg base 3 "_law_triple" spLTriple [] := by
  refine D.cal sc_law_triple (fun vs H Q E h => ?_) (fun f cdv A outer s H vs Q E hr h => ?_)
  · obtain ⟨p, q, ns, z, v, pl, rfl, B, hp, ok, kk⟩ := h
    rfl
  obtain ⟨p, q, ns, z, v, pl, rfl, B, hp, ok, kk⟩ := h
  have nd := sc_law_triple.nd
  refine ⟨_, (pss_cons (ps_set (i := 2) nd rfl (.inl rfl) (C8.pe_c c_law_take hr (by decide) rfl (pa_cons (pv 0) (pa_cons (pe_op op_add (pe_ix ix_tup (pv 1) pe_int (fun _ _ => rfl)) pe_int) pa_nil))))
    (pss_cons (ps_set (i := 3) nd rfl (.inl rfl) (C8.pe_c c_law_signs hr (by decide) rfl (pa_cons (pv 0) (pa_cons (pv 1) (pa_cons (pe_op op_sub (pe_ix ix_tup (pv 1) pe_int (fun _ _ => rfl)) (pv 2)) pa_nil)))))
    (pss_one (ps_ret (pe_tup (pa_cons (pe_ifExp (pt_cmpR op_gt (pv 2) pe_int (nomark _)) (C8.pe_c c_law_take hr (by decide) rfl (pa_cons (pv 0) (pa_cons (pe_op op_add (pe_op op_sub (pe_ix ix_tup (pv 1) pe_int (fun _ _ => rfl)) (pv 2)) pe_int) pa_nil))) pe_int) (pa_cons (pv 2) (pa_cons (pv 3) pa_nil)))))))), ?_⟩
  have h9 := ok.r9
  obtain ⟨a, b, rfl, ha, hb⟩ := id hp
  refine ⟨_, rfl, _, rfl, a, _, 0, _, rfl, rfl, SqT.of ha, rfl, _, _, rfl, rfl, p, q, ns, z, (pl.room : Int) + 1, rfl, B, by omega, p9 (by omega), fun k ns1 z1 H1 k0 k1 B1 g1 => ?_⟩
  obtain ⟨K1, rfl⟩ : ∃ K1 : Nat, k = (K1 : Int) := ⟨k.toNat, by omega⟩
  have ha1 := g1.tup B ha
  have em : (pl.room : Int) - (K1 : Int) = ((pl.room - K1 : Nat) : Int) := by omega
  refine ⟨_, rfl, _, rfl, _, rfl, a, _, 0, _, rfl, rfl, SqT.of ha1, rfl, _, rfl, _, _, rfl, rfl, p, q, ns1, z1, .ref a, pl, pl.room - K1, (by show [V.ref p, V.ref a, V.int ((pl.room : Int) - (K1 : Int))] = _; rw [em]), B1, hp.keep B g1, ok, by omega, fun l ns2 z2 H2 hl hs B2 g2 => ?_⟩
  have ha2 := g2.tup B1 ha1
  refine ⟨_, rfl, _, _, rfl, rfl, _, rfl, ite2 (fun c => ?_) (fun c => ?_)⟩
  · have c' : (0 : Int) < (K1 : Int) := of_decide_eq_true c
    refine ⟨_, rfl, _, rfl, a, _, 0, _, rfl, rfl, SqT.of ha2, rfl, _, rfl, _, _, rfl, rfl, _, _, rfl, rfl, p, q, ns2, z2, (pl.room : Int) - (K1 : Int) + 1, rfl, B2, by omega, p9 (by omega), fun gg ns3 z3 H3 q0 q1 B3 g3 => ?_⟩
    obtain ⟨G, rfl⟩ : ∃ G : Nat, gg = (G : Int) := ⟨gg.toNat, by omega⟩
    refine ⟨_, rfl, _, rfl, by show 3 ≤ sizeLine; decide, fun T hT => ?_⟩
    have sT := Same.new hT (.tup [.int (G : Int), .int (K1 : Int), .str (tx l)])
    exact kk ⟨G, K1, l⟩ _ ns3 z3 _ ⟨by show G + K1 ≤ pl.room; omega, by show K1 + l.length ≤ pl.room; omega, fun e => by have e' : K1 = 0 := e; omega, hs⟩ ⟨T, rfl, upd_same⟩ (B3.mono sT) (g1.trans (g2.trans (g3.trans (Keep.of sT))))
  · have c' : ¬ (0 : Int) < (K1 : Int) := fun z => c (decide_eq_true z)
    have e0 : K1 = 0 := by omega
    subst e0
    refine ⟨_, rfl, _, rfl, by show 3 ≤ sizeLine; decide, fun T hT => ?_⟩
    have sT := Same.new hT (.tup [.int 0, .int ((0 : Nat) : Int), .str (tx l)])
    exact kk ⟨0, 0, l⟩ _ ns2 z2 _ ⟨Nat.zero_le _, by show 0 + l.length ≤ pl.room; omega, fun _ => rfl, hs⟩ ⟨T, rfl, upd_same⟩ (B2.mono sT) (g1.trans (g2.trans (Keep.of sT)))
open LamX NdefX
variable {T : List (Addr × Str)}
theorem none_of {H H' : Hp} {D : Addr} (s : Same H H') (h : H' D = none) : H D = none := by
  cases e : H D with
  | none => rfl
  | some o =>
    rw [s _ _ e] at h
    cases h
theorem rep_flat (c : Nat) : ∀ n : Nat, (List.replicate n [c]).flatten = List.replicate n c
  | 0 => rfl
  | n + 1 => by
    rw [List.replicate_succ, List.flatten_cons, rep_flat c n, List.replicate_succ]
    rfl
theorem few_of {p : Pl} {t : Tr} {m : Int} (h1 : m ∈ (ways p.room t).map fun w => (w.1 : Int) + 2 * (w.2 : Int)) (h2 : ∀ y ∈ (ways p.room t).map fun w => (w.1 : Int) + 2 * (w.2 : Int), m ≤ y) : (t.l.length : Int) + m = few p t := by
  have wp : ∀ w : Nat × Nat, wprice 1 1 (fun _ => 1) t.l w = (t.l.length : Int) + ((w.1 : Int) + 2 * (w.2 : Int)) := fun w => by
    unfold wprice
    rw [sprc_1]
    omega
  unfold few LB
  unfold ways at h1 h2
  by_cases h : t.k = 0
  · rw [if_pos h] at h1 h2 ⊢
    simp only [wp]
    simp only [List.map_cons, List.map_nil, List.mem_cons, List.not_mem_nil, or_false] at h1 h2
    have a1 := h2 _ (.inl rfl)
    have a2 := h2 _ (.inr rfl)
    rcases h1 with h1 | h1 <;> omega
  · rw [if_neg h] at h1 h2 ⊢
    simp only [wp]
    simp only [List.map_cons, List.map_nil, List.mem_cons, List.not_mem_nil, or_false] at h1
    rw [h1]
theorem pairs1 {H : Hp} {a : Addr} {g f : Nat} (h : H a = some (.tup [.int (g : Int), .int (f : Int)])) : PairsAt H [(g, f)] [.ref a] := ⟨a, [], rfl, h, rfl⟩
theorem ok_cheapest_sign (D : Dn K mg "cheapest_sign" s_cheapest_sign P_cheapest_sign) (g : Gx mg) : C8.Cal P w K mg base 1 "cheapest_sign" spCSign [] := by
  refine D.cal sc_cheapest_sign (fun vs H Q E h => ?_) (fun f cdv A outer s H vs Q E hr h => ?_)
  · obtain ⟨v, p, rfl, ⟨a, b, rfl, ha, hb⟩, ok, q⟩ := h
    rfl
  obtain ⟨v, p, rfl, ⟨a, b, rfl, ha, hb⟩, ok, q⟩ := h
  have nd := sc_cheapest_sign.nd
  refine ⟨_, (pss_cons (ps_set (i := 1) nd rfl (.inl rfl) (pe_ix ix_tup (pv 0) pe_int (fun _ _ => rfl)))
    (pss_one (ps_ret (pe_ix ix_str (C8.pe_gc rfl g.SIGNS) (pe_bmT PySem.F.plainAttrs_tuple PySem.F.slot_tuple_index PySem.F.type_tuple_index mt_tup_indexI (pv 1) (pa_cons (pe_callB (r := rMinT K) (cr_minT rfl) rfl g.min b_min (pa_cons (pv 1) pa_nil)) pa_nil)) (fun _ _ => rfl))))), ?_⟩
  have hlt := csg_lt ok
  have h4 := ok.m4
  have hm1 := ok.m1
  have hpl : p.pr.idxOf (mnI p.pr) < p.pr.length := by rw [ok.pl]; exact hlt
  refine ⟨_, rfl, a, _, 2, _, rfl, rfl, SqT.of ha, rfl, ?_⟩
  refine ⟨_, rfl, ⟨b, _, rfl, hb⟩, _, rfl, b, p.pr, rfl, hb.sq, by rw [ok.pl]; omega, fun m h1 h2 => ?_⟩
  have e := mnI_of h1 h2
  subst e
  refine ⟨b, p.pr, mnI p.pr, p.pr.idxOf (mnI p.pr), rfl, rfl, hb.sq, ?_, ?_, ?_⟩
  · rw [List.getElem?_eq_getElem hpl, List.getElem_idxOf hpl]
  · intro m hm hq
    obtain ⟨h3, h5⟩ := List.getElem?_eq_some_iff.mp hq
    have := List.not_of_lt_findIdx (p := fun x => x == mnI p.pr) (xs := p.pr) (i := m) hm
    rw [h5] at this
    simp at this
  · have h3 : p.pr.idxOf (mnI p.pr) < ([97, 98, 99, 100] : List Nat).length := by show _ < 4; omega
    refine ⟨_, _, csg p, rfl, rfl, by rw [tx_len]; exact sz (by decide), atI_nat ?_, ?_⟩
    · show ([97, 98, 99, 100] : List Nat)[p.pr.idxOf (mnI p.pr)]? = some (csg p)
      have h6 : p.pr.idxOf (mnI p.pr) = 0 ∨ p.pr.idxOf (mnI p.pr) = 1 ∨ p.pr.idxOf (mnI p.pr) = 2 ∨ p.pr.idxOf (mnI p.pr) = 3 := by omega
      unfold csg
      rcases h6 with h | h | h | h <;> rw [h] <;> rfl
    · exact q H (Same.refl H)
theorem ok_ways (D : Dn K mg "ways" s_ways P_ways) (g : Gx mg) : C8.Cal P w K mg base 1 "ways" spWays [] := by
  refine D.cal sc_ways (fun vs H Q E h => ?_) (fun f cdv A outer s H vs Q E hr h => ?_)
  · obtain ⟨v, p, u, t, rfl, ⟨a, b, rfl, ha, hb⟩, ok, ⟨c, rfl, hc⟩, tok, q⟩ := h
    rfl
  obtain ⟨v, p, u, t, rfl, ⟨a, b, rfl, ha, hb⟩, ok, ⟨c, rfl, hc⟩, tok, q⟩ := h
  have nd := sc_ways.nd
  refine ⟨_, (pss_cons (ps_asg (pv 1) (pg_tup (by rfl) (pgs_cons (pg_name (i := 2) nd rfl (.inl rfl)) (pgs_cons (pg_name (i := 3) nd rfl (.inl rfl)) (pgs_cons (pg_name (i := 4) nd rfl (.inl rfl)) pgs_nil)))))
    (pss_cons (ps_set (i := 5) nd rfl (.inl rfl) (pe_ix ix_tup (pv 0) pe_int (fun _ _ => rfl)))
    (pss_cons (ps_if (pt_cmpR op_gt (pv 3) pe_int (nomark _)) (pss_one (ps_ret (pe_lst (pa_cons (pe_tup (pa_cons (pv 2) (pa_cons (pe_op op_sub (pe_op op_sub (pv 5) (pv 3)) (pe_callB (call_max2 rfl) rfl g.max b_max (pa_cons (pv 2) (pa_cons (pe_callB call_len_str rfl g.len PySem.boot_len (pa_cons (pv 4) pa_nil)) pa_nil)))) pa_nil))) pa_nil)))) pss_nil)
    (pss_one (ps_ret (pe_lst (pa_cons (pe_tup (pa_cons pe_int (pa_cons (pe_op op_sub (pv 5) (pe_callB call_len_str rfl g.len PySem.boot_len (pa_cons (pv 4) pa_nil))) pa_nil))) (pa_cons (pe_tup (pa_cons (pv 5) (pa_cons pe_int pa_nil))) pa_nil)))))))), ?_⟩
  have gk := tok.gk
  have kl := tok.kl
  refine ⟨_, rfl, c, _, rfl, SqT.of hc, rfl, _, _, rfl, _, _, rfl, _, _, rfl, rfl, ?_⟩
  refine ⟨_, rfl, a, _, 0, _, rfl, rfl, SqT.of ha, rfl, ?_⟩
  refine ⟨_, rfl, _, _, rfl, rfl, _, rfl, ite2 (fun k => ?_) (fun k => ?_)⟩
  · have k' : (0 : Int) < (t.k : Int) := of_decide_eq_true k
    have e : (p.room : Int) - (t.k : Int) - (if (((tx t.l).length : Nat) : Int) > (t.g : Int) then (((tx t.l).length : Nat) : Int) else (t.g : Int)) = ((phi p.room t : Nat) : Int) := by
      rw [tx_len]
      unfold phi
      split <;> omega
    refine ⟨_, rfl, _, rfl, _, rfl, _, _, rfl, rfl, _, rfl, _, rfl, _, rfl, by rw [tx_len]; exact sz (by have := ok.r9; omega), _, _, rfl, _, _, rfl, rfl, ?_⟩
    dsimp only
    rw [e]
    refine ⟨by show 2 ≤ sizeLine; decide, fun T1 hT1 => ?_⟩
    refine ⟨by show 1 ≤ sizeLine; decide, fun D hD => ?_⟩
    have s1 := Same.new hT1 (.tup [.int (t.g : Int), .int ((phi p.room t : Nat) : Int)])
    have s2 := Same.new hD (.lst [.ref T1])
    refine q D _ _ (s1.trans s2) (none_of s1 hD) upd_same ?_
    unfold ways
    rw [if_neg (by omega)]
    exact pairs1 (s2 _ _ upd_same)
  · have k' : ¬ (0 : Int) < (t.k : Int) := fun z => k (decide_eq_true z)
    have e : (p.room : Int) - (((tx t.l).length : Nat) : Int) = ((p.room - t.l.length : Nat) : Int) := by
      rw [tx_len]
      omega
    refine ⟨_, rfl, _, rfl, _, rfl, by rw [tx_len]; exact sz (by have := ok.r9; omega), _, _, rfl, rfl, ?_⟩
    dsimp only
    rw [e]
    refine ⟨by show 2 ≤ sizeLine; decide, fun T1 hT1 => ?_⟩
    refine ⟨_, rfl, by show 2 ≤ sizeLine; decide, fun T2 hT2 => ?_⟩
    refine ⟨by show 2 ≤ sizeLine; decide, fun D hD => ?_⟩
    have s1 := Same.new hT1 (.tup [.int 0, .int ((p.room - t.l.length : Nat) : Int)])
    have s2 := Same.new hT2 (.tup [.int (p.room : Int), .int 0])
    have s3 := Same.new hD (.lst [.ref T1, .ref T2])
    refine q D _ _ (s1.trans (s2.trans s3)) (none_of (s1.trans s2) hD) upd_same ?_
    unfold ways
    rw [if_pos (by omega)]
    exact ⟨T1, _, rfl, s3 _ _ (s2 _ _ upd_same), T2, _, rfl, s3 _ _ upd_same, rfl⟩
theorem ok_steps_of_way (D : Dn K mg "steps_of_way" s_steps_of_way P_steps_of_way) (g : Gx mg) (c_cheapest_sign : C8.Cal P w K mg base 1 "cheapest_sign" spCSign []) : C8.Cal P w K mg base 2 "steps_of_way" spStepsW [] := by
  refine D.cal sc_steps_of_way (fun vs H Q E h => ?_) (fun f cdv A outer s H vs Q E hr h => ?_)
  · obtain ⟨v, p, a, w, l, rfl, hp, ok, ha, w1, w2, hl, q⟩ := h
    rfl
  obtain ⟨v, p, a, w, l, rfl, hp, ok, ha, w1, w2, hl, q⟩ := h
  have nd := sc_steps_of_way.nd
  refine ⟨_, (pss_cons (ps_asg (pv 1) (pg_tup (by rfl) (pgs_cons (pg_name (i := 3) nd rfl (.inl rfl)) (pgs_cons (pg_name (i := 4) nd rfl (.inl rfl)) pgs_nil))))
    (pss_cons (ps_set (i := 5) nd rfl (.inl rfl) (pe_op op_add_str (pe_op op_mulS (C8.pe_c c_cheapest_sign hr (by decide) rfl (pa_cons (pv 0) pa_nil)) (pv 4)) (pe_op op_mulS (C8.pe_gc rfl g.POP_STEP) (pv 4))))
    (pss_cons (ps_if (pt_cmpR op_ge (pv 3) (pe_callB call_len_str rfl g.len PySem.boot_len (pa_cons (pv 2) pa_nil)) (nomark _)) (pss_one (ps_ret (pe_op op_add_str (pe_op op_add_str (pv 5) (pe_op op_mulS (C8.pe_gc rfl g.POP_STEP) (pv 3))) (pv 2)))) pss_nil)
    (pss_one (ps_ret (pe_op op_add_str (pe_op op_add_str (pe_op op_mulS (C8.pe_gc rfl g.POP_STEP) (pv 3)) (pv 2)) (pv 5))))))), ?_⟩
  refine ⟨_, rfl, a, _, rfl, SqT.of ha, rfl, _, _, rfl, _, _, rfl, rfl, ?_⟩
  refine ⟨_, rfl, v, p, rfl, hp, ok, fun H1 s1 => ⟨_, rfl, [csg p], w.2, rfl, rfl, by show 1 * w.2 ≤ _; omega, by omega, ?_⟩⟩
  rw [rep_flat]
  refine ⟨_, rfl, [45], w.2, rfl, rfl, by show 1 * w.2 ≤ _; omega, by omega, ?_⟩
  rw [rep_flat]
  refine ⟨_, _, rfl, rfl, by rw [tx_len, tx_len, List.length_replicate, List.length_replicate]; exact sz (by omega), ?_⟩
  rw [tx_app]
  refine ⟨_, rfl, _, rfl, _, rfl, by rw [tx_len]; exact sz (by omega), _, _, rfl, rfl, _, rfl, ite2 (fun k => ?_) (fun k => ?_)⟩
  · have k' : (((tx l).length : Nat) : Int) ≤ (w.1 : Int) := of_decide_eq_true k
    rw [tx_len] at k'
    refine ⟨_, rfl, _, rfl, [45], w.1, rfl, rfl, by show 1 * w.1 ≤ _; omega, by omega, ?_⟩
    rw [rep_flat]
    refine ⟨_, _, rfl, rfl, by rw [tx_len, tx_len, List.length_append, List.length_replicate, List.length_replicate, List.length_replicate]; exact sz (by omega), ?_⟩
    rw [tx_app]
    refine ⟨_, rfl, _, _, rfl, rfl, by rw [tx_len, tx_len, List.length_append, List.length_append, List.length_replicate, List.length_replicate, List.length_replicate]; exact sz (by omega), ?_⟩
    rw [tx_app]
    have q1 := q H1 s1
    unfold wayS at q1
    rw [if_pos (by omega)] at q1
    exact q1
  · have k' : ¬ (((tx l).length : Nat) : Int) ≤ (w.1 : Int) := fun z => k (decide_eq_true z)
    rw [tx_len] at k'
    refine ⟨_, rfl, [45], w.1, rfl, rfl, by show 1 * w.1 ≤ _; omega, by omega, ?_⟩
    rw [rep_flat]
    refine ⟨_, rfl, _, _, rfl, rfl, by rw [tx_len, tx_len, List.length_replicate]; exact sz (by omega), ?_⟩
    rw [tx_app]
    refine ⟨_, rfl, _, _, rfl, rfl, by rw [tx_len, tx_len, List.length_append, List.length_append, List.length_replicate, List.length_replicate, List.length_replicate]; exact sz (by omega), ?_⟩
    rw [tx_app]
    have q1 := q H1 s1
    unfold wayS at q1
    rw [if_neg (by omega)] at q1
    exact q1
theorem ok_price_of_steps (D : Dn K mg "price_of_steps" s_price_of_steps P_price_of_steps) (g : Gx mg) (c_price_of_step : C8.Cal P w K mg base 1 "price_of_step" spPStep []) : C8.Cal P w K mg base 2 "price_of_steps" spPSteps [] := by
  refine D.cal sc_price_of_steps (fun vs H Q E h => ?_) (fun f cdv A outer s H vs Q E hr h => ?_)
  · obtain ⟨v, p, l, rfl, hp, ok, hl, hs, q⟩ := h
    rfl
  obtain ⟨v, p, l, rfl, hp, ok, hl, hs, q⟩ := h
  have nd := sc_price_of_steps.nd
  refine ⟨_, (pss_one (ps_ret (pe_callB (cr_sum rfl) rfl g.sum b_sum (pa_cons (pe_lc (own := [("step", 2)]) rfl nd (pi_str (pv 1)) (blkOk_by (own := [("step", 2)]) (N := N_price_of_steps) (sc := defScope s_price_of_steps) (by decide +kernel)) (fun _ _ _ _ _ => (pg_name (i := 2) nd rfl (.inl rfl))) (fun _ _ _ _ _ => pts_nil) (fun _ _ _ _ _ => (C8.pe_c c_price_of_step (by exact hr) (by decide) rfl (pa_cons (pv 0) (pa_cons (pv 2) pa_nil))))) pa_nil)))), ?_⟩
  refine ⟨_, rfl, _, rfl, fun D hD => ?_⟩
  have hn : (tx l).cps.size = l.length := tx_len l
  refine lc_it (walk_str (z := tx l)) (fun i H2 => Same H H2 ∧ H2 D = some (.lst ((l.take i).map fun c => V.int (cst p c)))) ⟨Same.new hD _, upd_same⟩ (fun _ _ _ _ => trivial) ?_ ?_
  · rintro i x H2 H3 hi ⟨s2, h2⟩ ⟨rfl, c, hc, rfl⟩
    have hc' : l[i]? = some c := by
      rw [← hc]
      simp [tx]
    refine ⟨rfl, ?_⟩
    refine ⟨_, rfl, _, rfl, v, p, c, rfl, hp.mono s2, ok, hs c (List.mem_of_getElem? hc'), fun H4 s4 => ?_⟩
    refine ⟨_, s4 _ _ h2, by rw [List.length_map, List.length_take]; exact szl (by omega), fun b o e => ?_, ?_⟩
    · rw [upd_ne (ne_of_none e hD)]
      exact s4 _ _ (s2 b o e)
    · rw [upd_same, List.take_add_one, hc']
      simp
  · rintro H2 ⟨s2, h2⟩
    rw [hn, List.take_of_length_le (Nat.le_refl _)] at h2
    refine ⟨D, l.map (cst p), rfl, SqL.of (by rw [h2, List.map_map]; rfl), ?_⟩
    exact q H2 s2
theorem ok_fewest (D : Dn K mg "fewest" s_fewest P_fewest) (g : Gx mg) (c_check_plan : C8.Cal P w K mg base 3 "check_plan" spChPlan []) (c_check_triple : C8.Cal P w K mg base 3 "check_triple" spChTriple []) (c_ways : C8.Cal P w K mg base 1 "ways" spWays []) : C8.Cal P w K mg base 4 "fewest" spFew [] := by
  refine D.cal sc_fewest (fun vs H Q E h => ?_) (fun f cdv A outer s H vs Q E hr h => ?_)
  · obtain ⟨v, p, u, t, rfl, hp, ok, ht, tok, q⟩ := h
    rfl
  obtain ⟨v, p, u, t, rfl, hp, ok, ht, tok, q⟩ := h
  have nd := sc_fewest.nd
  refine ⟨_, (pss_cons (ps_expr (C8.pe_c c_check_plan hr (by decide) rfl (pa_cons (pv 0) pa_nil)))
    (pss_cons (ps_expr (C8.pe_c c_check_triple hr (by decide) rfl (pa_cons (pv 0) (pa_cons (pv 1) pa_nil))))
    (pss_one (ps_ret (pe_op op_add (pe_callB call_len_str rfl g.len PySem.boot_len (pa_cons (pe_ix ix_tup (pv 1) pe_int (fun _ _ => rfl)) pa_nil)) (pe_callB (cr_min rfl) rfl g.min b_min (pa_cons (pe_lc (own := [("popped", 2), ("filled", 3)]) rfl nd (pi_list (C8.pe_c c_ways hr (by decide) rfl (pa_cons (pv 0) (pa_cons (pv 1) pa_nil)))) (blkOk_by (own := [("popped", 2), ("filled", 3)]) (N := N_fewest) (sc := defScope s_fewest) (by decide +kernel)) (fun _ _ _ _ _ => (show PG _ _ (gTup K 2 _) from pg_tup (n := 2) (by rfl) (pgs_cons (pg_name (i := 2) nd rfl (.inl rfl)) (pgs_cons (pg_name (i := 3) nd rfl (.inl rfl)) pgs_nil)))) (fun _ _ _ _ _ => pts_nil) (fun _ _ _ _ _ => (pe_op op_add (pv 2) (pe_op op_mul pe_int (pv 3))))) pa_nil))))))), ?_⟩
  refine ⟨_, rfl, v, p, rfl, hp, ok, fun H1 s1 => ?_⟩
  refine ⟨_, rfl, _, rfl, v, p, u, t, rfl, hp.mono s1, ok, ht.mono s1, tok, fun H2 s2 => ?_⟩
  have s12 := s1.trans s2
  obtain ⟨c, rfl, hc⟩ := id ht
  refine ⟨_, rfl, c, _, 2, _, rfl, rfl, SqT.of (s12 _ _ hc), rfl, _, rfl, by rw [tx_len]; exact sz (by have := tok.kl; have := ok.r9; omega), ?_⟩
  refine ⟨_, rfl, _, rfl, v, p, .ref c, t, rfl, hp.mono s12, ok, ht.mono s12, tok, fun D0 H3 xs s3 hD0 hx hP => ?_⟩
  have s13 := s12.trans s3
  refine ⟨D0, rfl, ⟨xs, SqL.of hx⟩, fun D hD => ?_⟩
  have hlen := hP.len
  have hwl : (ways p.room t).length ≤ 2 := by unfold ways; split <;> simp
  have hne : D0 ≠ D := fun z => by rw [z, hD] at hx; cases hx
  refine lc_it (walk_list (a := D0) (xs := xs)) (fun i H4 => Same H3 H4 ∧ H4 D = some (.lst (((ways p.room t).take i).map fun w => V.int ((w.1 : Int) + 2 * (w.2 : Int))))) ⟨Same.new hD _, upd_same⟩ (fun i H4 _ h4 => SqL.of (h4.1 _ _ hx)) ?_ ?_
  · rintro i x H4 H5 hi ⟨s4, h4⟩ ⟨rfl, hxi⟩
    obtain ⟨w, aw, hw, rfl, haw⟩ := hP.get hxi
    refine ⟨aw, _, rfl, SqT.of (s4 _ _ haw), rfl, _, _, rfl, _, _, rfl, rfl, rfl, ?_⟩
    refine ⟨_, rfl, _, rfl, _, _, rfl, rfl, .inl ⟨by decide, by decide⟩, _, _, rfl, rfl, ?_⟩
    refine ⟨_, h4, by rw [List.length_map, List.length_take]; exact szl (by omega), fun b o e => ?_, ?_⟩
    · rw [upd_ne (ne_of_none e hD)]
      exact s4 b o e
    · rw [upd_same, List.take_add_one, hw, List.map_append]
      rfl
  · rintro H4 ⟨s4, h4⟩
    rw [hlen, List.take_of_length_le (Nat.le_refl _)] at h4
    refine ⟨D, (ways p.room t).map fun w => (w.1 : Int) + 2 * (w.2 : Int), rfl, SqL.of (by rw [h4, List.map_map]; rfl), by rw [List.length_map]; exact List.length_pos_iff.mpr (by unfold ways; split <;> simp), fun m h1 h2 => ?_⟩
    have e := few_of (p := p) (t := t) h1 h2
    rw [tx_len]
    refine ⟨_, _, rfl, rfl, ?_⟩
    dsimp only
    rw [e]
    exact q H4 (s13.trans s4)
theorem ok_judged (D : Dn K mg "judged" s_judged P_judged) (g : Gx mg) (c_check_plan : C8.Cal P w K mg base 3 "check_plan" spChPlan []) (c_check_triple : C8.Cal P w K mg base 3 "check_triple" spChTriple []) (c_check_steps : C8.Cal P w K mg base 2 "check_steps" spChSteps []) (c_triple_of_steps : C8.Cal P w K mg base 3 "triple_of_steps" spTSteps []) (c_price_of_steps : C8.Cal P w K mg base 2 "price_of_steps" spPSteps []) : C8.Cal P w K mg base 4 "judged" spJudgedA [] := by
  refine D.cal sc_judged (fun vs H Q E h => ?_) (fun f cdv A outer s H vs Q E hr h => ?_)
  · obtain ⟨v, p, u, t, l, rfl, hp, ok, ht, tok, hl, hs, q⟩ := h
    rfl
  obtain ⟨v, p, u, t, l, rfl, hp, ok, ht, tok, hl, hs, q⟩ := h
  have nd := sc_judged.nd
  refine ⟨_, (pss_cons (ps_expr (C8.pe_c c_check_plan hr (by decide) rfl (pa_cons (pv 0) pa_nil)))
    (pss_cons (ps_expr (C8.pe_c c_check_triple hr (by decide) rfl (pa_cons (pv 0) (pa_cons (pv 1) pa_nil))))
    (pss_cons (ps_expr (C8.pe_c c_check_steps hr (by decide) rfl (pa_cons (pv 0) (pa_cons (pv 2) pa_nil))))
    (pss_cons (ps_if (pt_cmpR (op_neD hr.units) (C8.pe_c c_triple_of_steps hr (by decide) rfl (pa_cons (pv 0) (pa_cons (pv 2) pa_nil))) (pv 1) (nomark _)) (pss_one (ps_ret pe_non)) pss_nil)
    (pss_one (ps_ret (C8.pe_c c_price_of_steps hr (by decide) rfl (pa_cons (pv 0) (pa_cons (pv 2) pa_nil))))))))), ?_⟩
  refine ⟨_, rfl, v, p, rfl, hp, ok, fun H1 s1 => ?_⟩
  refine ⟨_, rfl, _, rfl, v, p, u, t, rfl, hp.mono s1, ok, ht.mono s1, tok, fun H2 s2 => ?_⟩
  have s12 := s1.trans s2
  refine ⟨_, rfl, _, rfl, v, p, l, rfl, hp.mono s12, ok, hl, hs, fun H3 s3 => ?_⟩
  have s13 := s12.trans s3
  refine ⟨_, rfl, _, rfl, v, p, l, rfl, hp.mono s13, ok, hs, fun H4 v4 s4 h4 => ?_⟩
  have s14 := s13.trans s4
  refine ⟨_, rfl, trD (ttold p.room l), trD t, dp_trip h4, dp_trip (ht.mono s14), trD_shaped (ttold_ok' ok.r1 hs), trD_shaped tok, _, rfl, ?_⟩
  by_cases e : ttold p.room l = t
  · rw [if_pos e] at q
    have e2 : PyData.eqv (trD (ttold p.room l)) (trD t) = true := eqv_trD.mpr e
    rw [e2]
    refine iteF ?_
    exact ⟨_, rfl, _, rfl, v, p, l, rfl, hp.mono s14, ok, hl, hs, fun H5 s5 => q H5 (s14.trans s5)⟩
  · rw [if_neg e] at q
    have e2 : PyData.eqv (trD (ttold p.room l)) (trD t) = false := by
      cases h : PyData.eqv (trD (ttold p.room l)) (trD t) with
      | false => rfl
      | true => exact absurd (eqv_trD.mp h) e
    rw [e2]
    refine iteT ?_
    exact q H4 s14
theorem ok_cheapest_way {cL PT : Addr} (D : DnL K mg "cheapest_way" s_cheapest_way P_cheapest_way cL) (TB : LamX.TabB base mg cL PT) (g : Gx mg) (c_ways : C8.Cal P w K mg base 1 "ways" spWays []) : C8.Cal P w K mg base 3 "cheapest_way" (spChWay [(PT, lamQ)]) [] := by
  refine D.cal sc_cheapest_way (fun vs H Q E h => ?_) (fun f A outer s H vs Q E hr h => ?_)
  · obtain ⟨v, p, u, t, rfl, _⟩ := h
    rfl
  obtain ⟨v, p, u, t, rfl, ⟨a, b, rfl, ha, hb⟩, ok, ht, tok, hT, q⟩ := h
  have nd := sc_cheapest_way.nd
  refine ⟨_, (pss_cons (ps_set (i := 3) nd rfl (.inr rfl) (pe_ix ix_tup (pv 0) pe_int (fun _ _ => rfl)))
    (pss_cons (ps_set (i := 2) nd rfl (.inr rfl) (pe_op op_add (pe_callB (r := rMinT K) (cr_minT rfl) rfl g.min b_min (pa_cons (pe_ix ix_tup (pv 0) pe_int (fun _ _ => rfl)) pa_nil)) (pv 3)))
    (pss_one (ps_ret (pe_minkey (c := cL) (P := PT) (T := [(PT, lamQ)]) (k := 0) (N := ["way", "pop_price", "filler_price"]) (ps := ["way"]) (fr := ["pop_price", "filler_price"]) (js := [3, 2]) rfl rfl g.min (pa_cons (C8.pe_c c_ways hr (by decide) rfl (pa_cons (pv 0) (pa_cons (pv 1) pa_nil))) pa_nil) TB rfl (List.mem_singleton.mpr rfl) (fun p hp _ => by rw [List.mem_singleton.mp hp]; rfl) hr (nscope_by (by decide +kernel)) rfl (ndef_free (fr := ["pop_price", "filler_price"]) (sc := defScope s_cheapest_way) (by decide +kernel)) (ndef_fr (sc := defScope s_cheapest_way) (by decide +kernel)) rfl rfl (fun _ _ _ _ _ _ => rfl) (fun c' f A outer s H => (pe_op op_add (pe_op op_mul (pe_ix (r := rIxT K) ix_tup (pv 0) pe_int (fun _ _ => rfl)) (pv 1)) (pe_op op_mul (pe_ix (r := rIxT K) ix_tup (pv 0) pe_int (fun _ _ => rfl)) (pv 2))))))))), ?_⟩
  have hp : PlanAt H (.ref a) p := ⟨a, b, rfl, ha, hb⟩
  refine ⟨_, rfl, a, _, 3, _, rfl, rfl, SqT.of ha, rfl, ?_⟩
  refine ⟨_, rfl, a, _, 2, _, rfl, rfl, SqT.of ha, rfl, b, p.pr, rfl, hb.sq, List.length_pos_iff.mpr ok.ne, fun m h1 h2 => ?_⟩
  have e := mnI_of h1 h2
  subst e
  refine ⟨_, rfl, _, _, rfl, rfl, ?_⟩
  refine ⟨_, rfl, _, rfl, .ref a, p, u, t, rfl, hp, ok, ht, tok, fun D0 H1 xs s1 hD0 hx hP => ?_⟩
  have hlen := hP.len
  have hw0 : 0 < xs.length := by rw [hlen]; exact List.length_pos_iff.mpr (by unfold SK.ways; split <;> simp)
  refine ⟨Tabs.same hT s1, D0, xs, fun i => wkey p ((SK.ways p.room t).getD i (0, 0)), rfl, hx, hw0, fun H2 i x Q' tu hxi hq => ?_, fun H2 od x e1 t2 hxb => ?_⟩
  · obtain ⟨w0, aw, hw, rfl, haw⟩ := hP.get hxi
    have e : (SK.ways p.room t).getD i (0, 0) = w0 := by simp [List.getD, hw]
    simp only [e] at hq
    have hw9 := ways_le ok tok (List.mem_of_getElem? hw)
    have hq1 := ok.q1
    have hq9 := ok.q9
    have e64 : (2 : Int) ^ 64 = 18446744073709551616 := by decide
    refine ⟨_, rfl, aw, _, 0, _, rfl, rfl, SqT.of (tu _ _ haw), rfl, _, rfl, _, _, rfl, rfl, .inl (by rw [e64]; omega), ?_⟩
    exact ⟨_, rfl, aw, _, 1, _, rfl, rfl, SqT.of (tu _ _ haw), rfl, _, rfl, _, _, rfl, rfl, .inl (by rw [e64]; omega), _, _, rfl, rfl, hq⟩
  · obtain ⟨w0, aw, hw, rfl, haw⟩ := hP.get hxb
    have e : chW p t = w0 := by
      rw [hlen] at hw
      show (SK.ways p.room t)[bestN (fun i => wkey p ((SK.ways p.room t).getD i (0, 0))) (SK.ways p.room t).length]?.getD (0, 0) = w0
      rw [hw]
      rfl
    have hne : H2 D0 = some (.lst xs) := e1 _ _ hx (by intro ps z; cases z)
    refine q aw _ (fun b' o hb' n => ?_) (Tabs.upd t2 hne) ?_
    · have hb1 := e1 b' o (s1 _ _ hb') n
      rw [upd_ne (fun z => by rw [z, hD0] at hb'; cases hb')]
      exact hb1
    · rw [e, upd_ne (fun z => by
        have h3 := e1 _ _ haw (by intro ps z; cases z)
        rw [z, hne] at h3
        cases h3)]
      exact e1 _ _ haw (by intro ps z; cases z)
theorem ok_cheapest (D : Dn K mg "cheapest" s_cheapest P_cheapest) (g : Gx mg) (c_check_plan : C8.Cal P w K mg base 3 "check_plan" spChPlan []) (c_check_triple : C8.Cal P w K mg base 3 "check_triple" spChTriple []) (c_cheapest_way : C8.Cal P w K mg base 3 "cheapest_way" (spChWay T) []) (c_steps_of_way : C8.Cal P w K mg base 2 "steps_of_way" spStepsW []) (c_price_of_steps : C8.Cal P w K mg base 2 "price_of_steps" spPSteps []) : C8.Cal P w K mg base 4 "cheapest" (spCheap T) [] := by
  refine D.cal sc_cheapest (fun vs H Q E h => ?_) (fun f cdv A outer s H vs Q E hr h => ?_)
  · obtain ⟨v, p, u, t, rfl, hp, ok, ht, tok, hT, q⟩ := h
    rfl
  obtain ⟨v, p, u, t, rfl, hp, ok, ht, tok, hT, q⟩ := h
  have nd := sc_cheapest.nd
  refine ⟨_, (pss_cons (ps_expr (C8.pe_c c_check_plan hr (by decide) rfl (pa_cons (pv 0) pa_nil)))
    (pss_cons (ps_expr (C8.pe_c c_check_triple hr (by decide) rfl (pa_cons (pv 0) (pa_cons (pv 1) pa_nil))))
    (pss_cons (ps_set (i := 2) nd rfl (.inl rfl) (C8.pe_c c_cheapest_way hr (by decide) rfl (pa_cons (pv 0) (pa_cons (pv 1) pa_nil))))
    (pss_cons (ps_set (i := 3) nd rfl (.inl rfl) (C8.pe_c c_steps_of_way hr (by decide) rfl (pa_cons (pv 0) (pa_cons (pv 2) (pa_cons (pe_ix ix_tup (pv 1) pe_int (fun _ _ => rfl)) pa_nil)))))
    (pss_one (ps_ret (pe_tup (pa_cons (C8.pe_c c_price_of_steps hr (by decide) rfl (pa_cons (pv 0) (pa_cons (pv 3) pa_nil))) (pa_cons (pv 3) pa_nil))))))))), ?_⟩
  have h9 := ok.r9
  have kl := tok.kl
  refine ⟨_, rfl, v, p, rfl, hp, ok, fun H1 s1 => ?_⟩
  refine ⟨_, rfl, _, rfl, v, p, u, t, rfl, hp.mono s1, ok, ht.mono s1, tok, fun H2 s2 => ?_⟩
  have s12 := s1.trans s2
  refine ⟨_, rfl, _, rfl, v, p, u, t, rfl, hp.mono s12, ok, ht.mono s12, tok, Tabs.same hT s12, fun a H3 e3 t3 ha => ?_⟩
  have e13 : ExtN H H3 := (ExtN.ofS s12).trans e3
  obtain ⟨c, rfl, hc⟩ := id ht
  have hw := ways_le ok tok (chW_mem p t)
  refine ⟨_, rfl, _, rfl, _, rfl, c, _, 2, _, rfl, rfl, SqT.of (Tups.ofN e13 _ _ hc), rfl, v, p, a, chW p t, t.l, rfl, hp.ext e13, ok, ha, hw.1, hw.2, by omega, fun H4 s4 => ?_⟩
  have e14 := e13.trans (ExtN.ofS s4)
  refine ⟨_, rfl, _, rfl, v, p, chS p t, rfl, hp.ext e14, ok, by have := chS_len ok tok; omega, chS_in ok tok, fun H5 s5 => ?_⟩
  have e15 := e14.trans (ExtN.ofS s5)
  refine ⟨_, rfl, by show 2 ≤ sizeLine; decide, fun B hB => ?_⟩
  have sB := Same.new hB (.tup [.int (sprc (cst p) (chS p t)), .str (tx (chS p t))])
  refine q B _ (e15.trans (ExtN.ofS sB)) (Tabs.same (Tabs.same (Tabs.same t3 s4) s5) sB) ?_
  rw [← chS_price ok]
  exact upd_same
theorem sprc_take (f : Nat → Int) {l : List Nat} {i c : Nat} (h : l[i]? = some c) : ((l.take (i + 1)).map f) = ((l.take i).map f) ++ [f c] := by
  rw [List.take_add_one, h, List.map_append]
  rfl
theorem sign_ix {M c : Nat} (hM : c ∈ signs M) : c - 97 < M ∧ ∃ r, Builtin.Str.occurrences ("abcd" : Str) (tx [c]) 0 ("abcd" : Str).length 1 = (c - 97) :: r := by
  have h4 : c = 97 ∨ c = 98 ∨ c = 99 ∨ c = 100 := by
    have := List.mem_of_mem_take (show c ∈ List.take M [97, 98, 99, 100] from hM)
    simpa using this
  have hj : c - 97 < M := by
    match M, hM with
    | 0, hM => simp [signs] at hM
    | 1, hM => simp [signs] at hM; omega
    | 2, hM => simp [signs] at hM; omega
    | 3, hM => simp [signs] at hM; omega
    | M + 4, _ => omega
  refine ⟨hj, ?_⟩
  rw [s_abcd]
  rcases h4 with rfl | rfl | rfl | rfl
  · exact ⟨[], by decide +kernel⟩
  · exact ⟨[], by decide +kernel⟩
  · exact ⟨[], by decide +kernel⟩
  · exact ⟨[], by decide +kernel⟩
theorem sprc_sum (f : Nat → Int) (l : List Nat) : (l.map f).sum = sprc f l := rfl
/-- tuples of texts compared -/
theorem shTxT (ls : List (List Nat)) (h : ∀ l ∈ ls, ∀ c ∈ l, c < 1114112) : SeqAt.shaped (.tuple (ls.map fun l => PyData.str (tx l))) = true := shTx ls h
theorem eqvTx : ∀ ls ms : List (List Nat), PyData.eqvAll (ls.map fun l => PyData.str (tx l)) (ms.map fun l => PyData.str (tx l)) = decide (ls = ms)
  | [], [] => rfl
  | [], _ :: _ => by simp [PyData.eqvAll]
  | _ :: _, [] => by simp [PyData.eqvAll]
  | l :: r, m :: s => by
    have ih := eqvTx r s
    have e : PyData.eqvAll ((l :: r).map fun l => PyData.str (tx l)) ((m :: s).map fun l => PyData.str (tx l)) = ((tx l == tx m) && PyData.eqvAll (r.map fun l => PyData.str (tx l)) (s.map fun l => PyData.str (tx l))) := by
      simp [PyData.eqvAll, PyData.eqv]
    rw [e, ih]
    by_cases h : l = m
    · subst h
      simp
    · have h2 : (tx l == tx m) = false := beq_eq_false_iff_ne.mpr fun z => h (str_inj.mp z)
      rw [h2]
      simp [h]
theorem ne_tups {K : PySem.W.Frag} {H : Hp} {Q : VK} {a b : Addr} {ls ms : List (List Nat)} (ha : H a = some (.tup (ls.map fz))) (hb : H b = some (.tup (ms.map fz))) (h1 : ∀ l ∈ ls, ∀ c ∈ l, c < 1114112) (h2 : ∀ l ∈ ms, ∀ c ∈ l, c < 1114112) (q : Q (.bl (!decide (ls = ms))) H) : rNeD K (.ref a) (.ref b) H Q := by
  refine ⟨_, _, .tup (SqT.of ha) (dpTx ls), .tup (SqT.of hb) (dpTx ms), shTxT ls h1, shTxT ms h2, ?_⟩
  have e : PyData.eqv (.tuple (ls.map fun l => PyData.str (tx l))) (.tuple (ms.map fun l => PyData.str (tx l))) = decide (ls = ms) := eqvTx ls ms
  rw [e]
  exact q
theorem eq_tups {K : PySem.W.Frag} {H : Hp} {Q : VK} {a b : Addr} {ls ms : List (List Nat)} (ha : H a = some (.tup (ls.map fz))) (hb : H b = some (.tup (ms.map fz))) (h1 : ∀ l ∈ ls, ∀ c ∈ l, c < 1114112) (h2 : ∀ l ∈ ms, ∀ c ∈ l, c < 1114112) (q : Q (.bl (decide (ls = ms))) H) : rEqD K (.ref a) (.ref b) H Q := by
  refine ⟨_, _, .tup (SqT.of ha) (dpTx ls), .tup (SqT.of hb) (dpTx ms), shTxT ls h1, shTxT ms h2, ?_⟩
  have e : PyData.eqv (.tuple (ls.map fun l => PyData.str (tx l))) (.tuple (ms.map fun l => PyData.str (tx l))) = decide (ls = ms) := eqvTx ls ms
  rw [e]
  exact q
theorem ims_in {room many : Nat} {t : Tr} (ok : TrOk room many t) : ∀ l ∈ ims room many t, ∀ c ∈ l, c < 1114112 := fun l hl c hc => by
  obtain ⟨x, hx, rfl⟩ := List.mem_map.mp hl
  exact signs_lt (tby_in ok (stk_mem hx).2 c hc)
/-- [plan(box, ..), plan(box, ..), plan(box, ..)][take(box, 3)] -/
theorem pickPlan3 {K : PySem.W.Frag} {i : Nat} {σ : L2.St} {H : Hp} {Q : VK} {p q : Addr} {ns : List Int} {z : Int} (hσ : σ[i]? = some (some (.ref p))) (B : BoxAt H p q ns z)
    (h : ∀ (pl : Pl) (v : V) (ns' : List Int) (z' : Int) (H' : Hp), pl.Ok → pl.room ≤ 4 → pl.many ≤ 3 → PlanAt H' v pl → BoxAt H' p q ns' z' → Keep p q H H' → Q v H') :
    tOp (rIxL K) (tLst (tCons (tCall spLPlan [] C8.E0 (tCons (tVar i) (tCons (tC (.int 3)) (tCons (tC (.int 2)) tNil)))) (tCons (tCall spLPlan [] C8.E0 (tCons (tVar i) (tCons (tC (.int 2)) (tCons (tC (.int 3)) tNil)))) (tCons (tCall spLPlan [] C8.E0 (tCons (tVar i) (tCons (tC (.int 4)) (tCons (tC (.int 1)) tNil)))) tNil)))) (tCall spTake [] C8.E0 (tCons (tVar i) (tCons (tC (.int 3)) tNil))) σ H Q := by
  refine ⟨_, hσ, p, q, ns, z, 3, 2, rfl, B, by decide, by decide, by decide, by decide, fun pa va n1 z1 H1 oka ra ma hpa B1 k1 => ?_⟩
  refine ⟨_, hσ, p, q, n1, z1, 2, 3, rfl, B1, by decide, by decide, by decide, by decide, fun pb vb n2 z2 H2 okb rb mb hpb B2 k2 => ?_⟩
  refine ⟨_, hσ, p, q, n2, z2, 4, 1, rfl, B2, by decide, by decide, by decide, by decide, fun pc vc n3 z3 H3 okc rc mc hpc B3 k3 => ?_⟩
  refine ⟨by show 3 ≤ sizeLine; decide, fun D hD => ?_⟩
  have sD := Same.new hD (.lst [va, vb, vc])
  refine ⟨_, hσ, p, q, n3, z3, 3, rfl, B3.mono sD, by decide, p9 (by decide), fun r n4 z4 H4 r0 r1' B4 k4 => ?_⟩
  have hf := B3.fresh hD
  have hL : H4 D = some (.lst [va, vb, vc]) := k4 _ _ upd_same hf.1 hf.2
  have kk := k1.trans (k2.trans (k3.trans ((Keep.of sD).trans k4)))
  have hr : r = 0 ∨ r = 1 ∨ r = 2 := by omega
  rcases hr with rfl | rfl | rfl
  · exact ⟨D, _, 0, va, rfl, rfl, SqL.of hL, rfl, h pa va n4 z4 H4 oka (by omega) (by omega) ((((hpa.keep B1 k2).keep B2 k3).mono sD).keep (B3.mono sD) k4) B4 kk⟩
  · exact ⟨D, _, 1, vb, rfl, rfl, SqL.of hL, rfl, h pb vb n4 z4 H4 okb (by omega) (by omega) (((hpb.keep B2 k3).mono sD).keep (B3.mono sD) k4) B4 kk⟩
  · exact ⟨D, _, 2, vc, rfl, rfl, SqL.of hL, rfl, h pc vc n4 z4 H4 okc (by omega) (by omega) ((hpc.mono sD).keep (B3.mono sD) k4) B4 kk⟩
theorem alk_v {H : Hp} {n : Nat} {v : V} (h : Sc v) : Alk H (n + 1) v v := .inl ⟨rfl, h⟩
theorem alk_two {H : Hp} {n : Nat} {a b : Addr} {x y : V} (hx : Sc x) (hy : Sc y) (ha : H a = some (.lst [x, y])) (hb : H b = some (.lst [x, y])) : Alk H (n + 2) (.ref a) (.ref b) :=
  .inr ⟨a, b, _, _, rfl, rfl, .inr ⟨ha, hb⟩, rfl, by show 2 ≤ 10000; decide, fun i u w e1 e2 => by
    have e : u = w := Option.some.inj (e1.symm.trans e2)
    subst e
    match i, e1 with
    | 0, e1 => cases e1; exact .inl ⟨rfl, hx⟩
    | 1, e1 => cases e1; exact .inl ⟨rfl, hy⟩⟩
theorem ok_law {f : Addr} {fd : FuncData} (F : L2.Fun K "law" "law" s_law f fd) (g : Gx mg) (c_law_begun : C8.Cal P w K mg base 1 "_law_begun" (spLBegun K) []) (c_law_plan : C8.Cal P w K mg base 2 "_law_plan" spLPlan []) (c_law_take : C8.Cal P w K mg base 1 "_law_take" spTake []) (c_law_stacks : C8.Cal P w K mg base 1 "_law_stacks" spLStacks []) (c_law_least : C8.Cal P w K mg base 2 "_law_least" spLLeast []) (c_law_triple : C8.Cal P w K mg base 3 "_law_triple" spLTriple []) (c_law_by : C8.Cal P w K mg base 1 "_law_by" spLBy []) (c_cheapest : C8.Cal P w K mg base 4 "cheapest" (spCheap T) []) (c_fewest : C8.Cal P w K mg base 4 "fewest" spFew []) (c_law_gone : C8.Cal P w K mg base 2 "_law_gone" spLGone []) (c_judged : C8.Cal P w K mg base 4 "judged" spJudgedA []) (c_law_alike : C8.Cal P w K mg base 2 "_law_alike" (spAlike 2) []) (c_law_steps : C8.Cal P w K mg base 2 "_law_steps" spLSteps []) (c_told_of_steps : C8.Cal P w K mg base 4 "told_of_steps" spToldSteps []) : FnOk P w K mg base CX0 5 f fd P_law (spLawT K T) := by
  refine F.ok sc_law (fun vs H Q E h => ?_) (fun cdv A outer s H vs Q E hr h => ?_)
  · obtain ⟨a, ns, rfl, hS, h63, hT0, kk⟩ := h
    rfl
  obtain ⟨a, ns, rfl, hS, h63, hT0, kk⟩ := h
  have nd := sc_law.nd
  refine ⟨_, (pss_cons (ps_set (i := 1) nd rfl (.inl rfl) (C8.pe_c c_law_begun hr (by decide) rfl (pa_cons (pv 0) pa_nil)))
    (pss_cons (ps_set (i := 2) nd rfl (.inr rfl) (pe_ix ix_list (pe_lst (pa_cons (C8.pe_c c_law_plan hr (by decide) rfl (pa_cons (pv 1) (pa_cons pe_int (pa_cons pe_int pa_nil)))) (pa_cons (C8.pe_c c_law_plan hr (by decide) rfl (pa_cons (pv 1) (pa_cons pe_int (pa_cons pe_int pa_nil)))) (pa_cons (C8.pe_c c_law_plan hr (by decide) rfl (pa_cons (pv 1) (pa_cons pe_int (pa_cons pe_int pa_nil)))) pa_nil)))) (C8.pe_c c_law_take hr (by decide) rfl (pa_cons (pv 1) (pa_cons pe_int pa_nil))) (fun _ _ => rfl)))
    (pss_cons (ps_set (i := 3) nd rfl (.inl rfl) (C8.pe_c c_law_stacks hr (by decide) rfl (pa_cons (pv 2) pa_nil)))
    (pss_cons (ps_par (i := 4) (j := 5) (by rfl) nd rfl rfl (by decide) rfl rfl (pa_cons (C8.pe_c c_law_least hr (by decide) rfl (pa_cons (pv 2) (pa_cons (pe_op op_cat (pe_callTy call_list_of rfl g.list b_list (pa_cons (pe_ix ix_tup (pv 2) pe_int (fun _ _ => rfl)) pa_nil)) (pe_lst (pa_cons (pe_ix ix_tup (pv 2) pe_int (fun _ _ => rfl)) pa_nil))) pa_nil))) (pa_cons (C8.pe_c c_law_least hr (by decide) rfl (pa_cons (pv 2) (pa_cons (pe_op op_rep (pe_lst (pa_cons pe_int pa_nil)) (pe_op op_add (pe_ix ix_tup (pv 2) pe_int (fun _ _ => rfl)) pe_int)) pa_nil))) pa_nil)) (by rfl))
    (pss_cons (ps_for PassesOwn.never rfl (pi_range1 (by rfl) g.range (pa_cons pe_int pa_nil)) (pg_name (i := 6) nd rfl (.inl rfl)) (pss_cons (ps_set (i := 7) nd rfl (.inr rfl) (C8.pe_c c_law_triple hr (by decide) rfl (pa_cons (pv 1) (pa_cons (pv 2) pa_nil))))
    (pss_cons (ps_set (i := 8) nd rfl (.inl rfl) (pe_callTy call_tuple_of rfl g.tuple b_tuple (pa_cons (pe_lc (own := [("_law_stack", 15)]) rfl nd (pi_list (pv 3)) (blkOk_by (own := [("_law_stack", 15)]) (N := N_law) (sc := defScope s_law) (by decide +kernel)) (fun _ _ _ _ _ => (pg_name (i := 15) nd rfl (.inl rfl))) (fun _ _ _ _ _ => pts_nil) (fun _ _ _ _ _ => (C8.pe_c c_law_by (by exact hr) (by decide) rfl (pa_cons (pv 7) (pa_cons (pv 15) pa_nil))))) pa_nil)))
    (pss_cons (ps_asg (C8.pe_c c_cheapest hr (by decide) rfl (pa_cons (pv 2) (pa_cons (pv 7) pa_nil))) (pg_tup (by rfl) (pgs_cons (pg_name (i := 9) nd rfl (.inl rfl)) (pgs_cons (pg_name (i := 10) nd rfl (.inr rfl)) pgs_nil))))
    (pss_cons (ps_if (PW.pt (pw_or (pt_cmpR op_ne (pv 9) (pe_dget (hu1 hr) (pv 4) (pv 8) (fun _ _ => rfl)) (nomark _)) (pw_or1 (pt_cmpR op_ne (C8.pe_c c_fewest hr (by decide) rfl (pa_cons (pv 2) (pa_cons (pv 7) pa_nil))) (pe_dget (hu1 hr) (pv 5) (pv 8) (fun _ _ => rfl)) (nomark _))))) (pss_one (ps_ret pe_bl)) pss_nil)
    (pss_cons (ps_if (pt_cmpR (op_neD hr.units) (pe_callTy call_tuple_of rfl g.tuple b_tuple (pa_cons (pe_lc (own := [("_law_stack", 15)]) rfl nd (pi_list (pv 3)) (blkOk_by (own := [("_law_stack", 15)]) (N := N_law) (sc := defScope s_law) (by decide +kernel)) (fun _ _ _ _ _ => (pg_name (i := 15) nd rfl (.inl rfl))) (fun _ _ _ _ _ => pts_nil) (fun _ _ _ _ _ => (C8.pe_c c_law_gone (by exact hr) (by decide) rfl (pa_cons (pv 2) (pa_cons (pv 15) (pa_cons (pv 10) pa_nil)))))) pa_nil)) (pv 8) (nomark _)) (pss_one (ps_ret pe_bl)) pss_nil)
    (pss_cons (ps_set (i := 11) nd rfl (.inl rfl) (pe_callB (cr_sum rfl) rfl g.sum b_sum (pa_cons (pe_lc (own := [("_law_sign", 16)]) rfl nd (pi_str (pv 10)) (blkOk_by (own := [("_law_sign", 16)]) (N := N_law) (sc := defScope s_law) (by decide +kernel)) (fun _ _ _ _ _ => (pg_name (i := 16) nd rfl (.inl rfl))) (fun _ _ _ _ _ => pts_nil) (fun _ _ _ _ _ => (pe_ifExp (pt_cmpR op_eq (pv 16) pe_str (nomark _)) (pe_ix (r := rIxT K) ix_tup (pv 2) pe_int (fun _ _ => rfl)) (pe_ix (r := rIxT K) ix_tup (pe_ix (r := rIxT K) ix_tup (pv 2) pe_int (fun _ _ => rfl)) (pe_m1 PySem.F.slot_str_index PySem.F.type_str_index mt_sindex pe_str (pv 16)) (fun _ _ => rfl))))) pa_nil)))
    (pss_cons (ps_if (pt_not (pt_val (C8.pe_c c_law_alike hr (by decide) rfl (pa_cons (pe_lst (pa_cons (pv 11) (pa_cons (C8.pe_c c_judged hr (by decide) rfl (pa_cons (pv 2) (pa_cons (pv 7) (pa_cons (pv 10) pa_nil)))) pa_nil))) (pa_cons (pe_lst (pa_cons (pv 9) (pa_cons (pv 9) pa_nil))) pa_nil))))) (pss_one (ps_ret pe_bl)) pss_nil)
    (pss_cons (ps_set (i := 12) nd rfl (.inr rfl) (C8.pe_c c_law_steps hr (by decide) rfl (pa_cons (pv 1) (pa_cons (pv 2) (pa_cons pe_int pa_nil)))))
    (pss_cons (ps_set (i := 11) nd rfl (.inl rfl) (pe_callB (cr_sum rfl) rfl g.sum b_sum (pa_cons (pe_lc (own := [("_law_sign", 16)]) rfl nd (pi_str (pv 12)) (blkOk_by (own := [("_law_sign", 16)]) (N := N_law) (sc := defScope s_law) (by decide +kernel)) (fun _ _ _ _ _ => (pg_name (i := 16) nd rfl (.inl rfl))) (fun _ _ _ _ _ => pts_nil) (fun _ _ _ _ _ => (pe_ifExp (pt_cmpR op_eq (pv 16) pe_str (nomark _)) (pe_ix (r := rIxT K) ix_tup (pv 2) pe_int (fun _ _ => rfl)) (pe_ix (r := rIxT K) ix_tup (pe_ix (r := rIxT K) ix_tup (pv 2) pe_int (fun _ _ => rfl)) (pe_m1 PySem.F.slot_str_index PySem.F.type_str_index mt_sindex pe_str (pv 16)) (fun _ _ => rfl))))) pa_nil)))
    (pss_cons (ps_set (i := 13) nd rfl (.inl rfl) (pe_cmpR (op_eqD hr.units) (pe_callTy call_tuple_of rfl g.tuple b_tuple (pa_cons (pe_lc (own := [("_law_stack", 15)]) rfl nd (pi_list (pv 3)) (blkOk_by (own := [("_law_stack", 15)]) (N := N_law) (sc := defScope s_law) (by decide +kernel)) (fun _ _ _ _ _ => (pg_name (i := 15) nd rfl (.inl rfl))) (fun _ _ _ _ _ => pts_nil) (fun _ _ _ _ _ => (C8.pe_c c_law_gone (by exact hr) (by decide) rfl (pa_cons (pv 2) (pa_cons (pv 15) (pa_cons (pv 12) pa_nil)))))) pa_nil)) (pv 8) (nomark _)))
    (pss_cons (ps_for PassesOwn.never rfl (pi_range1 (by rfl) g.range (pa_cons pe_int pa_nil)) (pg_name (i := 14) nd rfl (.inl rfl)) (pss_one (ps_if (pt_not (pt_val (C8.pe_c c_law_alike hr (by decide) rfl (pa_cons (C8.pe_c c_judged hr (by decide) rfl (pa_cons (pv 2) (pa_cons (pv 7) (pa_cons (pv 12) pa_nil)))) (pa_cons (pe_ifExp (pt_val (pv 13)) (pv 11) pe_non) pa_nil))))) (pss_one (ps_ret pe_bl)) pss_nil)))
    (pss_one (ps_if (pt_not (pt_val (C8.pe_c c_law_alike hr (by decide) rfl (pa_cons (C8.pe_c c_judged hr (by decide) rfl (pa_cons (pv 2) (pa_cons (C8.pe_c c_told_of_steps hr (by decide) rfl (pa_cons (pv 2) (pa_cons (pv 12) pa_nil))) (pa_cons (pv 12) pa_nil)))) (pa_cons (pv 11) pa_nil))))) (pss_one (ps_ret pe_bl)) pss_nil))))))))))))))
    (pss_one (ps_ret pe_bl))))))), ?_⟩
  refine ⟨_, rfl, a, ns, rfl, hS, h63, fun p q z H1 s1 B1 np nq => ?_⟩
  -- the plan
  refine pickPlan3 rfl B1 fun pl v ns2 z2 H2 ok hr4 hm3 hp2 B2 k2 => ?_
  have r1 := ok.r1
  have r9 := ok.r9
  have m1 := ok.m1
  have m4 := ok.m4
  have T2 := Tabs.keep (Tabs.same hT0 s1) B1 k2
  have hcg := csg_in ok
  have hpay := pay_p ok
  obtain ⟨pa, pb, rfl, hpa, hpb⟩ := id hp2
  -- all stacks
  refine ⟨_, rfl, .ref pa, pl, rfl, hp2, ok, fun D H3 s3 nD hD3 => ?_⟩
  have hf := B2.fresh nD
  have hsl : (stk pl.many pl.room).length ≤ 3000000 := by
    have h1 := stk_le pl.many (n := pl.room) r9
    have : (pl.room + 1) * 262144 ≤ 10 * 262144 := Nat.mul_le_mul_right _ (by omega)
    omega
  -- the least prices
  refine ⟨_, rfl, _, rfl, pa, _, 2, _, rfl, rfl, SqT.of (s3 _ _ hpa), rfl, pb, _, rfl, .inr (PrAt.mono hpb s3).sq, fun L1 nL1 => ?_⟩
  have sL1 := Same.new nL1 (.lst (pl.pr.map V.int))
  refine ⟨_, rfl, pa, _, 3, _, rfl, rfl, SqT.of ((s3.trans sL1) _ _ hpa), rfl, by show 1 ≤ sizeLine; decide, fun L2 nL2 => ?_⟩
  have sL2 := Same.new nL2 (.lst [.int pl.pop])
  refine ⟨L1, L2, _, _, rfl, rfl, sL2 _ _ upd_same, upd_same, by rw [List.length_map, ok.pl]; exact sz (by show pl.many + 1 ≤ _; omega), fun L3 nL3 => ?_⟩
  have sL3 := Same.new nL3 (.lst (pl.pr.map V.int ++ [.int pl.pop]))
  have s4 := s3.trans (sL1.trans (sL2.trans sL3))
  have hL4 : upd (upd (upd H3 L1 (.lst (pl.pr.map V.int))) L2 (.lst [.int pl.pop])) L3 (.lst (pl.pr.map V.int ++ [.int pl.pop])) L3 = some (.lst ((pl.pr ++ [pl.pop]).map V.int)) := by
    rw [upd_same, List.map_append]
    rfl
  have hD4 := (sL1.trans (sL2.trans sL3)) _ _ hD3
  generalize upd (upd (upd H3 L1 (.lst (pl.pr.map V.int))) L2 (.lst [.int pl.pop])) L3 (.lst (pl.pr.map V.int ++ [.int pl.pop])) = H4 at s4 hL4 hD4
  refine ⟨.ref pa, pl, L3, pl.pr ++ [pl.pop], cst pl, mnI pl.pr, pl.pop, csg pl, rfl, hp2.mono s4, ok, hr4, hm3, hL4, fun k hk => ?_, ?_, fun c hc => cst_in ok hc, hpay, hcg, cst_csg ok, fun F1 H5 kv1 s5 nF1 hF1 tab1 => ?_⟩
  · rw [List.getElem?_append_left (by rw [ok.pl]; exact hk)]
    unfold cst
    rw [if_neg (by omega), Nat.add_sub_cancel_left, List.getD_eq_getElem?_getD, List.getElem?_eq_getElem (by rw [ok.pl]; exact hk)]
    rfl
  · rw [List.getElem?_append_right (by rw [ok.pl]; exact Nat.le_refl _), ok.pl, Nat.sub_self]
    unfold cst
    rw [if_pos rfl]
    rfl
  have s25 := s4.trans s5
  -- .. and the fewest steps
  refine ⟨_, rfl, by show 1 ≤ sizeLine; decide, fun L4 nL4 => ?_⟩
  have sL4 := Same.new nL4 (.lst [.int 1])
  refine ⟨_, rfl, pa, _, 1, _, rfl, rfl, SqT.of ((s25.trans sL4) _ _ hpa), rfl, _, _, rfl, rfl, L4, _, _, rfl, rfl, upd_same, by omega, by omega, ?_, fun L5 nL5 => ?_⟩
  · have e : ((pl.many : Int) + 1).toNat = pl.many + 1 := by omega
    rw [e]
    exact sz (by show 1 * (pl.many + 1) ≤ _; omega)
  have e1 : ((pl.many : Int) + 1).toNat = pl.many + 1 := by omega
  rw [e1]
  have sL5 := Same.new nL5 (.lst (List.replicate (pl.many + 1) [V.int 1]).flatten)
  have erep : (List.replicate (pl.many + 1) [V.int 1]).flatten = (List.replicate (pl.many + 1) (1 : Int)).map V.int := by
    generalize pl.many + 1 = n
    induction n with
    | zero => rfl
    | succ n ih => rw [List.replicate_succ, List.flatten_cons, ih, List.replicate_succ]; rfl
  have s6 := s25.trans (sL4.trans sL5)
  have hL6 : upd (upd H5 L4 (.lst [.int 1])) L5 (.lst (List.replicate (pl.many + 1) [V.int 1]).flatten) L5 = some (.lst ((List.replicate (pl.many + 1) (1 : Int)).map V.int)) := by
    rw [upd_same, erep]
  have hD6 := (s5.trans (sL4.trans sL5)) _ _ hD4
  have hF16 := (sL4.trans sL5) _ _ hF1
  generalize upd (upd H5 L4 (.lst [.int 1])) L5 (.lst (List.replicate (pl.many + 1) [V.int 1]).flatten) = H6 at s6 hL6 hD6 hF16
  refine ⟨.ref pa, pl, L5, List.replicate (pl.many + 1) 1, fun _ => 1, 1, 1, csg pl, rfl, hp2.mono s6, ok, hr4, hm3, hL6, fun k hk => ?_, ?_, fun c hc => (show (1 : Int) ≤ 1 ∧ (1 : Int) ≤ 99 from ⟨by decide, by decide⟩), pay_1 pl.many, hcg, rfl, fun F2 H7 kv2 s7 nF2 hF2 tab2 => ⟨_, _, rfl, ?_⟩⟩
  · rw [List.getElem?_replicate, if_pos (by omega)]
  · rw [List.getElem?_replicate, if_pos (by omega)]
  have s27 := s6.trans s7
  have hD7 := s7 _ _ hD6
  have hF17 := s7 _ _ hF16
  have nF1' : H2 F1 = none := s4.free nF1
  have nF2' : H2 F2 = none := s6.free nF2
  have fF1 := B2.fresh nF1'
  have fF2 := B2.fresh nF2'
  refine ⟨6, rfl, by decide, by decide, for_range (lo := 0) (n := 6) (fun i σ H8 => ∃ (o6 o7 o8 o9 o10 o11 o12 o13 o14 : Option V) (ns8 : List Int) (z8 : Int), σ = [some (.ref a), some (.ref p), some (.ref pa), some (.ref D), some (.ref F1), some (.ref F2), o6, o7, o8, o9, o10, o11, o12, o13, o14, none, none] ∧ BoxAt H8 p q ns8 z8 ∧ Tabs T H8 ∧ PlanAt H8 (.ref pa) pl ∧ H8 D = some (.lst ((stk pl.many pl.room).map fz)) ∧ H8 F1 = some (.dT kv1) ∧ H8 F2 = some (.dT kv2))
    ⟨_, _, _, _, _, _, _, _, _, ns2, z2, rfl, B2.mono s27, Tabs.same T2 s27, hp2.mono s27, hD7, hF17, hF2⟩ ?_ (fun σ H8 _ => kk H8)⟩
  rintro i σ H8 hi ⟨o6, o7, o8, o9, o10, o11, o12, o13, o14, ns8, z8, rfl, B8, T8, hp8, hD8, hF8, hG8⟩
  -- the triple
  refine ⟨_, rfl, _, rfl, p, q, ns8, z8, .ref pa, pl, rfl, B8, hp8, ok, fun t u ns9 z9 H9 tok ht9 B9 k9 => ?_⟩
  have kl := tok.kl
  have hp9 := hp8.keep B8 k9
  have T9 := Tabs.keep T8 B8 k9
  have hD9 := k9 _ _ hD8 hf.1 hf.2
  have hF9 := k9 _ _ hF8 fF1.1 fF1.2
  have hG9 := k9 _ _ hG8 fF2.1 fF2.2
  refine ⟨_, rfl, D, rfl, ⟨_, SqL.of hD9⟩, fun E1 nE1 => ?_⟩
  have sE1 := Same.new nE1 (.lst [])
  refine lc_list (K := K) (a := D) (xs := (stk pl.many pl.room).map fz) (fun i H7 => Same H9 H7 ∧ H7 E1 = some (.lst (((stk pl.many pl.room).take i).map fun x => fz ((tby t) x)))) ⟨sE1, upd_same⟩ (fun i H7 _ h7 => SqL.of (h7.1 _ _ hD9)) ?_ ?_
  · rintro i x H7 hx ⟨s7, h7⟩
    rw [List.getElem?_map] at hx
    obtain ⟨y, hy, rfl⟩ := Option.map_eq_some_iff.mp hx
    have hym := stk_mem (List.mem_of_getElem? hy)
    refine ⟨rfl, ?_⟩
    refine ⟨_, rfl, _, rfl, u, t, y, rfl, ht9.mono s7, by omega, by omega, fun H8 s8 => ⟨_, s8 _ _ h7, ?_, fun b o e => ?_, ?_⟩⟩
    · rw [List.length_map, List.length_take]
      exact szl2 (by omega)
    · rw [upd_ne (ne_of_none e nE1)]
      exact s8 _ _ (s7 b o e)
    · rw [upd_same, List.take_add_one, hy, List.map_append]
      rfl
  rintro H100 ⟨s100, hE10⟩
  rw [List.length_map, List.take_of_length_le (Nat.le_refl _)] at hE10
  refine ⟨E1, _, rfl, .inl ⟨SqL.of hE10, fun TE1 nTE1 => ?_⟩⟩
  have s10 := s100.trans (Same.new nTE1 (.tup ((stk pl.many pl.room).map fun x => fz ((tby t) x))))
  have hE1 : upd H100 TE1 (.tup ((stk pl.many pl.room).map fun x => fz ((tby t) x))) TE1 = some (.tup (((stk pl.many pl.room).map (tby t)).map fz)) := by
    rw [upd_same, List.map_map]
    rfl
  generalize upd H100 TE1 (.tup ((stk pl.many pl.room).map fun x => fz ((tby t) x))) = H10 at s10 hE1
  have hE1 : H10 TE1 = some (.tup ((ims pl.room pl.many t).map fz)) := hE1
  -- cheapest
  refine ⟨_, rfl, _, rfl, .ref pa, pl, u, t, rfl, hp9.mono s10, ok, ht9.mono s10, tok, Tabs.same T9 s10, fun cA H11 e11 T11 hcA => ?_⟩
  have e911 := (ExtN.ofS s10).trans e11
  have hp11 := hp9.ext e911
  have ht11 := ht9.ext e911
  have B11 := B9.ext e911
  have hD11 := e911 _ _ hD9 (by intro ps z; cases z)
  have hF11 := e911 _ _ hF9 (by intro ps z; cases z)
  have hG11 := e911 _ _ hG9 (by intro ps z; cases z)
  have hE11 := e11 _ _ hE1 (by intro ps z; cases z)
  have hkey : H11 TE1 = some (.tup ((tkey pl.room pl.many t).map kV)) := by
    rw [tkey_kV]
    exact hE11
  refine ⟨cA, _, rfl, SqT.of hcA, rfl, _, _, rfl, _, _, rfl, rfl, ?_⟩
  refine ⟨_, rfl, _, rfl, _, rfl, F1, .int (LB pl.room (mnI pl.pr) pl.pop (cst pl) t), rfl, by rw [← tab1 t tok]; exact DGet.t hF11 hkey, rfl, _, rfl, iteNS rfl ?_⟩
  refine ⟨_, rfl, _, rfl, .ref pa, pl, u, t, rfl, hp11, ok, ht11, tok, fun H12 s12 => ?_⟩
  refine ⟨_, rfl, _, rfl, F2, .int (few pl t), rfl, by rw [show V.int (few pl t) = V.int (LB pl.room 1 1 (fun _ => 1) t) from rfl, ← tab2 t tok]; exact DGet.t (s12 _ _ hG11) (s12 _ _ hkey), rfl, _, rfl, iteNS rfl ?_⟩
  have hp12 := hp11.mono s12
  have ht12 := ht11.mono s12
  have hD12 := s12 _ _ hD11
  have hE12 := s12 _ _ hE11
  have hchl := chS_len ok tok
  have hchi := chS_in ok tok
  refine ⟨_, rfl, D, rfl, ⟨_, SqL.of hD12⟩, fun E2 nE2 => ?_⟩
  have sE2 := Same.new nE2 (.lst [])
  refine lc_list (K := K) (a := D) (xs := (stk pl.many pl.room).map fz) (fun i H7 => Same H12 H7 ∧ H7 E2 = some (.lst (((stk pl.many pl.room).take i).map fun x => fz ((fun x => gone pl.room x (chS pl t)) x)))) ⟨sE2, upd_same⟩ (fun i H7 _ h7 => SqL.of (h7.1 _ _ hD12)) ?_ ?_
  · rintro i x H7 hx ⟨s7, h7⟩
    rw [List.getElem?_map] at hx
    obtain ⟨y, hy, rfl⟩ := Option.map_eq_some_iff.mp hx
    have hym := stk_mem (List.mem_of_getElem? hy)
    refine ⟨rfl, ?_⟩
    refine ⟨_, rfl, _, rfl, _, rfl, .ref pa, pl, y, chS pl t, rfl, hp12.mono s7, ok, hym.1, fun H8 s8 => ⟨_, s8 _ _ h7, ?_, fun b o e => ?_, ?_⟩⟩
    · rw [List.length_map, List.length_take]
      exact szl2 (by omega)
    · rw [upd_ne (ne_of_none e nE2)]
      exact s8 _ _ (s7 b o e)
    · rw [upd_same, List.take_add_one, hy, List.map_append]
      rfl
  rintro H130 ⟨s130, hE20⟩
  rw [List.length_map, List.take_of_length_le (Nat.le_refl _)] at hE20
  refine ⟨E2, _, rfl, .inl ⟨SqL.of hE20, fun TE2 nTE2 => ?_⟩⟩
  have s13 := s130.trans (Same.new nTE2 (.tup ((stk pl.many pl.room).map fun x => fz ((fun x => gone pl.room x (chS pl t)) x))))
  have hE2 : upd H130 TE2 (.tup ((stk pl.many pl.room).map fun x => fz ((fun x => gone pl.room x (chS pl t)) x))) TE2 = some (.tup (((stk pl.many pl.room).map (fun x => gone pl.room x (chS pl t))).map fz)) := by
    rw [upd_same, List.map_map]
    rfl
  generalize upd H130 TE2 (.tup ((stk pl.many pl.room).map fun x => fz ((fun x => gone pl.room x (chS pl t)) x))) = H13 at s13 hE2
  have hE2 : H13 TE2 = some (.tup ((ims pl.room pl.many t).map fz)) := by
    have e := ims_told (many := pl.many) r1 (chS pl t)
    rw [chS_told ok tok] at e
    rw [e]
    exact hE2
  refine ⟨_, rfl, ne_tups hE2 (s13 _ _ hE12) (ims_in tok) (ims_in tok) ⟨_, rfl, ?_⟩⟩
  rw [decide_eq_true rfl]
  refine iteF ?_
  have hp13 := hp12.mono s13
  have ht13 := ht12.mono s13
  obtain ⟨pa', pb', e', hpa13, hpb13⟩ := id hp13
  cases e'
  clear hpb hpa
  have hpb13' := hpb13
  refine ⟨_, rfl, _, rfl, fun D3 nD3 => ?_⟩
  have sD3 := Same.new nD3 (.lst [])
  have hnD3 : (tx (chS pl t)).cps.size = (chS pl t).length := tx_len _
  refine lc_it (walk_str (z := tx (chS pl t))) (fun i H10 => Same H13 H10 ∧ H10 D3 = some (.lst ((((chS pl t).take i).map (cst pl)).map V.int))) ⟨sD3, upd_same⟩ (fun _ _ _ _ => trivial) ?_ ?_
  · rintro j x H10 H11 hj ⟨s10, h10⟩ ⟨rfl, c, hc, rfl⟩
    have hc' : (chS pl t)[j]? = some c := by
      rw [← hc]
      simp [tx]
    have hin := hchi c (List.mem_of_getElem? hc')
    have fin : ∃ acc, H11 D3 = some (.lst acc) ∧ acc.length < sizeLine ∧ Same H13 (upd H11 D3 (.lst (acc ++ [V.int (cst pl c)]))) ∧ upd H11 D3 (.lst (acc ++ [V.int (cst pl c)])) D3 = some (.lst ((((chS pl t).take (j + 1)).map (cst pl)).map V.int)) := by
      refine ⟨_, h10, ?_, fun b o e => ?_, ?_⟩
      · rw [List.length_map, List.length_map, List.length_take]
        have := hchl
        exact szl (by omega)
      · rw [upd_ne (ne_of_none e nD3)]
        exact s10 _ _ e
      · rw [upd_same, sprc_take _ hc', List.map_append]
        rfl
    refine ⟨rfl, ?_⟩
    refine ⟨_, rfl, rfl, _, rfl, ite2 (fun zc => ?_) (fun zc => ?_)⟩
    · have z' : c = 45 := by
        have z1 := of_decide_eq_true zc
        injection z1 with z2
        exact List.head_eq_of_cons_eq (str_inj.mp (z2.trans s_minus))
      have e : cst pl c = pl.pop := by
        unfold cst
        rw [if_pos z']
      rw [e] at fin
      exact ⟨_, rfl, pa, _, 3, _, rfl, rfl, SqT.of (s10 _ _ hpa13), rfl, fin⟩
    · have z' : ¬ c = 45 := fun y => by
        subst y
        exact zc (decide_eq_true (congrArg V.str s_minus.symm))
      have hs := hin.resolve_left z'
      obtain ⟨hj, r, hocc⟩ := sign_ix hs
      have hl : c - 97 < pl.pr.length := by
        rw [ok.pl]
        exact hj
      have e : cst pl c = pl.pr[c - 97] := by
        unfold cst
        rw [if_neg z', List.getD_eq_getElem?_getD, List.getElem?_eq_getElem hl]
        rfl
      rw [e] at fin
      refine ⟨_, rfl, pa, _, 2, _, rfl, rfl, SqT.of (s10 _ _ hpa13), rfl, ⟨_, rfl⟩, _, rfl, _, _, _, r, rfl, rfl, hocc, ?_⟩
      exact ⟨pb', _, ((c - 97 : Nat) : Int), .int pl.pr[c - 97], rfl, rfl, (PrAt.mono hpb13 s10).sq, atI_nat (by rw [List.getElem?_map, List.getElem?_eq_getElem hl]; rfl), fin⟩
  rintro H14 ⟨s14, h14⟩
  rw [hnD3, List.take_of_length_le (Nat.le_refl _)] at h14
  refine ⟨D3, _, rfl, SqL.of h14, ?_⟩
  rw [sprc_sum]
  have hp14 := hp13.mono s14
  have ht14 := ht13.mono s14
  refine ⟨_, rfl, _, rfl, _, rfl, _, rfl, .ref pa, pl, u, t, chS pl t, rfl, hp14, ok, ht14, tok, by omega, hchi, fun H15 s15 => ?_⟩
  rw [if_pos (chS_told ok tok)]
  refine ⟨by show 2 ≤ sizeLine; decide, fun X1 nX1 => ?_⟩
  refine ⟨_, rfl, _, rfl, by show 2 ≤ sizeLine; decide, fun X2 nX2 => ?_⟩
  have sX1 := Same.new nX1 (.lst [.int (sprc (cst pl) (chS pl t)), .int (sprc (cst pl) (chS pl t))])
  have sX2 := Same.new nX2 (.lst [.int (LB pl.room (mnI pl.pr) pl.pop (cst pl) t), .int (LB pl.room (mnI pl.pr) pl.pop (cst pl) t)])
  refine ⟨.ref X1, .ref X2, rfl, alk_two (n := 0) (x := .int (sprc (cst pl) (chS pl t))) (y := .int (sprc (cst pl) (chS pl t))) trivial trivial (sX2 _ _ upd_same) (by rw [upd_same, chS_price ok t]), fun H16 s16 => ⟨_, rfl, iteF ?_⟩⟩
  have s1116 := s12.trans (s13.trans (s14.trans (s15.trans (sX1.trans (sX2.trans s16)))))
  have hp16 := hp11.mono s1116
  have ht16 := ht11.mono s1116
  have B16 := B11.mono s1116
  have T16 := Tabs.same T11 s1116
  have hD16 := s1116 _ _ hD11
  have hF16 := s1116 _ _ hF11
  have hG16 := s1116 _ _ hG11
  have hE16 := s1116 _ _ hE11
  -- other steps
  refine ⟨_, rfl, _, rfl, p, q, ns9, z9, .ref pa, pl, 9, rfl, B16, hp16, ok, by decide, fun l ns17 z17 H17 hl hs B17 k17 => ?_⟩
  have hp17 := hp16.keep B16 k17
  have ht17 := ht16.keep B16 k17
  have T17 := Tabs.keep T16 B16 k17
  have hD17 := k17 _ _ hD16 hf.1 hf.2
  have hF17' := k17 _ _ hF16 fF1.1 fF1.2
  have hG17 := k17 _ _ hG16 fF2.1 fF2.2
  have hE17 := k17.tup B16 hE16
  have lok := ttold_ok' (many := pl.many) r1 hs
  obtain ⟨pa'', pb'', e'', hpa17, hpb17⟩ := id hp17
  cases e''
  refine ⟨_, rfl, _, rfl, fun D4 nD4 => ?_⟩
  have sD4 := Same.new nD4 (.lst [])
  have hnD4 : (tx l).cps.size = l.length := tx_len _
  refine lc_it (walk_str (z := tx l)) (fun i H10 => Same H17 H10 ∧ H10 D4 = some (.lst (((l.take i).map (cst pl)).map V.int))) ⟨sD4, upd_same⟩ (fun _ _ _ _ => trivial) ?_ ?_
  · rintro j x H10 H11 hj ⟨s10, h10⟩ ⟨rfl, c, hc, rfl⟩
    have hc' : l[j]? = some c := by
      rw [← hc]
      simp [tx]
    have hin := hs c (List.mem_of_getElem? hc')
    have fin : ∃ acc, H11 D4 = some (.lst acc) ∧ acc.length < sizeLine ∧ Same H17 (upd H11 D4 (.lst (acc ++ [V.int (cst pl c)]))) ∧ upd H11 D4 (.lst (acc ++ [V.int (cst pl c)])) D4 = some (.lst (((l.take (j + 1)).map (cst pl)).map V.int)) := by
      refine ⟨_, h10, ?_, fun b o e => ?_, ?_⟩
      · rw [List.length_map, List.length_map, List.length_take]
        have := hl
        exact szl (by omega)
      · rw [upd_ne (ne_of_none e nD4)]
        exact s10 _ _ e
      · rw [upd_same, sprc_take _ hc', List.map_append]
        rfl
    refine ⟨rfl, ?_⟩
    refine ⟨_, rfl, rfl, _, rfl, ite2 (fun zc => ?_) (fun zc => ?_)⟩
    · have z' : c = 45 := by
        have z1 := of_decide_eq_true zc
        injection z1 with z2
        exact List.head_eq_of_cons_eq (str_inj.mp (z2.trans s_minus))
      have e : cst pl c = pl.pop := by
        unfold cst
        rw [if_pos z']
      rw [e] at fin
      exact ⟨_, rfl, pa, _, 3, _, rfl, rfl, SqT.of (s10 _ _ hpa17), rfl, fin⟩
    · have z' : ¬ c = 45 := fun y => by
        subst y
        exact zc (decide_eq_true (congrArg V.str s_minus.symm))
      have hs := hin.resolve_left z'
      obtain ⟨hj, r, hocc⟩ := sign_ix hs
      have hl : c - 97 < pl.pr.length := by
        rw [ok.pl]
        exact hj
      have e : cst pl c = pl.pr[c - 97] := by
        unfold cst
        rw [if_neg z', List.getD_eq_getElem?_getD, List.getElem?_eq_getElem hl]
        rfl
      rw [e] at fin
      refine ⟨_, rfl, pa, _, 2, _, rfl, rfl, SqT.of (s10 _ _ hpa17), rfl, ⟨_, rfl⟩, _, rfl, _, _, _, r, rfl, rfl, hocc, ?_⟩
      exact ⟨pb'', _, ((c - 97 : Nat) : Int), .int pl.pr[c - 97], rfl, rfl, (PrAt.mono hpb17 s10).sq, atI_nat (by rw [List.getElem?_map, List.getElem?_eq_getElem hl]; rfl), fin⟩
  rintro H18 ⟨s18, h18⟩
  rw [hnD4, List.take_of_length_le (Nat.le_refl _)] at h18
  refine ⟨D4, _, rfl, SqL.of h18, ?_⟩
  rw [sprc_sum]
  have hp18 := hp17.mono s18
  have ht18 := ht17.mono s18
  have hD18 := s18 _ _ hD17
  refine ⟨_, rfl, D, rfl, ⟨_, SqL.of hD18⟩, fun E3 nE3 => ?_⟩
  have sE3 := Same.new nE3 (.lst [])
  refine lc_list (K := K) (a := D) (xs := (stk pl.many pl.room).map fz) (fun i H7 => Same H18 H7 ∧ H7 E3 = some (.lst (((stk pl.many pl.room).take i).map fun x => fz ((fun x => gone pl.room x l) x)))) ⟨sE3, upd_same⟩ (fun i H7 _ h7 => SqL.of (h7.1 _ _ hD18)) ?_ ?_
  · rintro i x H7 hx ⟨s7, h7⟩
    rw [List.getElem?_map] at hx
    obtain ⟨y, hy, rfl⟩ := Option.map_eq_some_iff.mp hx
    have hym := stk_mem (List.mem_of_getElem? hy)
    refine ⟨rfl, ?_⟩
    refine ⟨_, rfl, _, rfl, _, rfl, .ref pa, pl, y, l, rfl, hp18.mono s7, ok, hym.1, fun H8 s8 => ⟨_, s8 _ _ h7, ?_, fun b o e => ?_, ?_⟩⟩
    · rw [List.length_map, List.length_take]
      exact szl2 (by omega)
    · rw [upd_ne (ne_of_none e nE3)]
      exact s8 _ _ (s7 b o e)
    · rw [upd_same, List.take_add_one, hy, List.map_append]
      rfl
  rintro H190 ⟨s190, hE30⟩
  rw [List.length_map, List.take_of_length_le (Nat.le_refl _)] at hE30
  refine ⟨E3, _, rfl, .inl ⟨SqL.of hE30, fun TE3 nTE3 => ?_⟩⟩
  have s19 := s190.trans (Same.new nTE3 (.tup ((stk pl.many pl.room).map fun x => fz ((fun x => gone pl.room x l) x))))
  have hE3 : upd H190 TE3 (.tup ((stk pl.many pl.room).map fun x => fz ((fun x => gone pl.room x l) x))) TE3 = some (.tup (((stk pl.many pl.room).map (fun x => gone pl.room x l)).map fz)) := by
    rw [upd_same, List.map_map]
    rfl
  generalize upd H190 TE3 (.tup ((stk pl.many pl.room).map fun x => fz ((fun x => gone pl.room x l) x))) = H19 at s19 hE3
  have hE3 : H19 TE3 = some (.tup ((ims pl.room pl.many (ttold pl.room l)).map fz)) := by
    rw [ims_told (many := pl.many) r1 l]
    exact hE3
  refine ⟨_, rfl, eq_tups hE3 ((s18.trans s19) _ _ hE17) (ims_in lok) (ims_in tok) ?_⟩
  have esame : decide (ims pl.room pl.many (ttold pl.room l) = ims pl.room pl.many t) = decide (ttold pl.room l = t) := decide_eq_decide.mpr ⟨fun e => ims_inj m1 lok tok e, fun e => by rw [e]⟩
  rw [esame]
  have s1719 := s18.trans s19
  refine ⟨2, rfl, by decide, by decide, for_range (lo := 0) (n := 2) (fun j σ H20 => ∃ (o14 : Option V), σ = [some (.ref a), some (.ref p), some (.ref pa), some (.ref D), some (.ref F1), some (.ref F2), some (.int (0 + (i : Int))), some u, some (.ref TE1), some (.int (LB pl.room (mnI pl.pr) pl.pop (cst pl) t)), some (.str (tx (chS pl t))), some (.int (sprc (cst pl) l)), some (.str (tx l)), some (.bl (decide (ttold pl.room l = t))), o14, none, none] ∧ Same H17 H20) ⟨o14, rfl, s1719⟩ ?_ ?_⟩
  · rintro j σ H20 hj ⟨o14, rfl, s20⟩
    refine ⟨_, rfl, _, rfl, _, rfl, .ref pa, pl, u, t, l, rfl, hp17.mono s20, ok, ht17.mono s20, tok, by omega, hs, fun H21 s21 => ?_⟩
    refine ⟨_, rfl, _, rfl, ?_⟩
    have fin : ∀ x : V, Sc x → (if ttold pl.room l = t then V.int (sprc (cst pl) l) else .non) = x → ∃ v w, [if ttold pl.room l = t then V.int (sprc (cst pl) l) else .non, x] ++ [] = [v, w] ∧ Alk H21 2 v w ∧ giv (.bl true) H21 (fun z H' => ∃ k, z = .bl k ∧ (if (!k) = true then Q (.bl false) H' else ∃ (o14 : Option V), [some (V.ref a), some (.ref p), some (.ref pa), some (.ref D), some (.ref F1), some (.ref F2), some (.int (0 + (i : Int))), some u, some (.ref TE1), some (.int (LB pl.room (mnI pl.pr) pl.pop (cst pl) t)), some (.str (tx (chS pl t))), some (.int (sprc (cst pl) l)), some (.str (tx l)), some (.bl (decide (ttold pl.room l = t))), some (.int (0 + (j : Int))), none, none] = [some (.ref a), some (.ref p), some (.ref pa), some (.ref D), some (.ref F1), some (.ref F2), some (.int (0 + (i : Int))), some u, some (.ref TE1), some (.int (LB pl.room (mnI pl.pr) pl.pop (cst pl) t)), some (.str (tx (chS pl t))), some (.int (sprc (cst pl) l)), some (.str (tx l)), some (.bl (decide (ttold pl.room l = t))), o14, none, none] ∧ Same H17 H')) := fun x hx e => by
      rw [e]
      exact ⟨x, x, rfl, alk_v hx, fun H22 s22 => ⟨true, rfl, iteF ⟨_, rfl, s20.trans (s21.trans s22)⟩⟩⟩
    by_cases e : ttold pl.room l = t
    · refine iteD e ⟨_, rfl, ?_⟩
      exact fin _ trivial (if_pos e)
    · refine iteDF e ?_
      exact fin _ trivial (if_neg e)
  · rintro σ H20 ⟨o14, rfl, s20⟩
    have hp20 := hp17.mono s20
    refine ⟨_, rfl, _, rfl, _, rfl, .ref pa, pl, l, rfl, hp20, ok, by omega, hs, fun H21 v21 s21 h21 => ?_⟩
    refine ⟨_, rfl, .ref pa, pl, v21, _, l, rfl, hp20.mono s21, ok, h21, lok, by omega, hs, fun H22 s22 => ?_⟩
    rw [if_pos rfl]
    refine ⟨_, rfl, _, _, rfl, alk_v trivial, fun H23 s23 => ⟨_, rfl, iteF ?_⟩⟩
    have s1723 := s20.trans (s21.trans (s22.trans s23))
    exact ⟨_, _, _, _, _, _, _, _, _, ns17, z17, rfl, B17.mono s1723, Tabs.same T17 s1723, hp17.mono s1723, s1723 _ _ hD17, s1723 _ _ hF17', s1723 _ _ hG17⟩
end
/-! ### the end -/
theorem gx_mk {K : PySem.W.Frag} {mg : Str → Option Value} {h : Heap} (X : K.In h) (G : h.Ns mainGlobals mg) {u0 : Value} (v0 : PySem.W.nsIn K mainGlobals "SIGNS" = some (some u0)) (r0 : RelV (.str (tx [97, 98, 99, 100])) u0) {u1 : Value} (v1 : PySem.W.nsIn K mainGlobals "POP_STEP" = some (some u1)) (r1 : RelV (.str (tx [45])) u1) {u2 : Value} (v2 : PySem.W.nsIn K mainGlobals "MOST_ROOM" = some (some u2)) (r2 : RelV (.int 9) u2) {u3 : Value} (v3 : PySem.W.nsIn K mainGlobals "MOST_PRICE" = some (some u3)) (r3 : RelV (.int 99) u3) (z0 : PySem.W.nsIn K mainGlobals "isinstance" = some none) (z1 : PySem.W.nsIn K mainGlobals "bool" = some none) (z2 : PySem.W.nsIn K mainGlobals "int" = some none) (z3 : PySem.W.nsIn K mainGlobals "str" = some none) (z4 : PySem.W.nsIn K mainGlobals "tuple" = some none) (z5 : PySem.W.nsIn K mainGlobals "len" = some none) (z6 : PySem.W.nsIn K mainGlobals "all" = some none) (z7 : PySem.W.nsIn K mainGlobals "max" = some none) (z8 : PySem.W.nsIn K mainGlobals "min" = some none) (z9 : PySem.W.nsIn K mainGlobals "range" = some none) (z10 : PySem.W.nsIn K mainGlobals "list" = some none) (z11 : PySem.W.nsIn K mainGlobals "reversed" = some none) (z12 : PySem.W.nsIn K mainGlobals "sum" = some none) (z13 : PySem.W.nsIn K mainGlobals "abs" = some none) : Gx mg :=
  ⟨⟨_, PySem.W.mg_of X G v0, r0⟩, ⟨_, PySem.W.mg_of X G v1, r1⟩, ⟨_, PySem.W.mg_of X G v2, r2⟩, ⟨_, PySem.W.mg_of X G v3, r3⟩, PySem.W.mg_none_of X G z0, PySem.W.mg_none_of X G z1, PySem.W.mg_none_of X G z2, PySem.W.mg_none_of X G z3, PySem.W.mg_none_of X G z4, PySem.W.mg_none_of X G z5, PySem.W.mg_none_of X G z6, PySem.W.mg_none_of X G z7, PySem.W.mg_none_of X G z8, PySem.W.mg_none_of X G z9, PySem.W.mg_none_of X G z10, PySem.W.mg_none_of X G z11, PySem.W.mg_none_of X G z12, PySem.W.mg_none_of X G z13⟩
theorem all_mk {l : PySem.W.OpenLaw} {w : World} {K : PySem.W.Frag} {h : Heap} {mg : Str → Option Value} {fa fL cW PT : Addr} (X : K.In h) (G : h.Ns mainGlobals mg) (hfa : mg "law" = some (.ref fa))
    {od an : Option Addr} {sl : Array (Option Value)} {oc kV dc pm cd ct : Value}
    (aL : PySem.W.nsIn K mainGlobals "law" = some (some (.ref fL))) (lL : K.lookup fL = some ⟨oc, od, .func (PySem.W.fnOf "law" "law" (defArgs s_law) (defBody s_law) (defScope s_law) .none kV dc pm an cd ct), sl⟩) (cL : PySem.W.codeIn K cd "law" = true) (kL : PySem.W.keepIn K (.ref fL) = true)
    (g : Gx mg)
    (D_signs_of : Dn K mg "signs_of" s_signs_of P_signs_of)
    (D_is_number : Dn K mg "is_number" s_is_number P_is_number)
    (D_is_text_of : Dn K mg "is_text_of" s_is_text_of P_is_text_of)
    (D_are_prices : Dn K mg "are_prices" s_are_prices P_are_prices)
    (D_check_plan : Dn K mg "check_plan" s_check_plan P_check_plan)
    (D_check_steps : Dn K mg "check_steps" s_check_steps P_check_steps)
    (D_is_triple : Dn K mg "is_triple" s_is_triple P_is_triple)
    (D_check_triple : Dn K mg "check_triple" s_check_triple P_check_triple)
    (D_without_top : Dn K mg "without_top" s_without_top P_without_top)
    (D_top_of : Dn K mg "top_of" s_top_of P_top_of)
    (D_tidied : Dn K mg "tidied" s_tidied P_tidied)
    (D_untouched : Dn K mg "untouched" s_untouched P_untouched)
    (D_join_triples : Dn K mg "join_triples" s_join_triples P_join_triples)
    (D_triple_of_step : Dn K mg "triple_of_step" s_triple_of_step P_triple_of_step)
    (D_triple_of_steps : Dn K mg "triple_of_steps" s_triple_of_steps P_triple_of_steps)
    (D_told_of_steps : Dn K mg "told_of_steps" s_told_of_steps P_told_of_steps)
    (D_law_take : Dn K mg "_law_take" s_law_take P_law_take)
    (D_law_begun : Dn K mg "_law_begun" s_law_begun P_law_begun)
    (D_law_step : Dn K mg "_law_step" s_law_step P_law_step)
    (D_law_gone : Dn K mg "_law_gone" s_law_gone P_law_gone)
    (D_law_by : Dn K mg "_law_by" s_law_by P_law_by)
    (D_law_plan : Dn K mg "_law_plan" s_law_plan P_law_plan)
    (D_law_steps : Dn K mg "_law_steps" s_law_steps P_law_steps)
    (D_law_alike : Dn K mg "_law_alike" s_law_alike P_law_alike)
    (D_law_stacks : Dn K mg "_law_stacks" s_law_stacks P_law_stacks)
    (D_law_least : Dn K mg "_law_least" s_law_least P_law_least)
    (D_price_of_step : Dn K mg "price_of_step" s_price_of_step P_price_of_step)
    (D_law_signs : Dn K mg "_law_signs" s_law_signs P_law_signs)
    (D_law_triple : Dn K mg "_law_triple" s_law_triple P_law_triple)
    (D_cheapest_sign : Dn K mg "cheapest_sign" s_cheapest_sign P_cheapest_sign)
    (D_ways : Dn K mg "ways" s_ways P_ways)
    (D_steps_of_way : Dn K mg "steps_of_way" s_steps_of_way P_steps_of_way)
    (D_price_of_steps : Dn K mg "price_of_steps" s_price_of_steps P_price_of_steps)
    (D_fewest : Dn K mg "fewest" s_fewest P_fewest)
    (D_judged : Dn K mg "judged" s_judged P_judged)
    (D_cheapest_way : DnL K mg "cheapest_way" s_cheapest_way P_cheapest_way cW)
    (D_cheapest : Dn K mg "cheapest" s_cheapest P_cheapest) :
    ∃ fd : FuncData, (∀ (s : Shared) (v : Value), BindsTo s fd ⟨[v], []⟩ [("_law_script", v)]) ∧ ∀ base : Heap, K.In base → base.Ns mainGlobals mg → LamX.TabB base mg cW PT → FnOk l.prog w K mg base CX0 5 fa fd ["_law_script"] (spLawT K [(PT, lamQ)]) := by
  have e := hfa.symm.trans (PySem.W.mg_of X G aL)
  cases e
  have F := fun_mk (st := s_law) lL cL kL
  refine ⟨PySem.W.fnOf "law" "law" (defArgs s_law) (defBody s_law) (defScope s_law) .none kV dc pm an cd ct, fun s v => .of_eq rfl, fun base _ _ TB => ?_⟩
  have c_signs_of := ok_signs_of (P := l.prog) (w := w) (base := base) D_signs_of g
  have c_is_number := ok_is_number (P := l.prog) (w := w) (base := base) D_is_number g
  have c_is_text_of := ok_is_text_of (P := l.prog) (w := w) (base := base) D_is_text_of g
  have c_are_prices := ok_are_prices (P := l.prog) (w := w) (base := base) D_are_prices g c_is_number
  have c_check_plan := ok_check_plan (P := l.prog) (w := w) (base := base) D_check_plan g c_is_number c_are_prices
  have c_check_steps := ok_check_steps (P := l.prog) (w := w) (base := base) D_check_steps g c_signs_of c_is_text_of
  have c_is_triple := ok_is_triple (P := l.prog) (w := w) (base := base) D_is_triple g c_is_number c_signs_of c_is_text_of
  have c_check_triple := ok_check_triple (P := l.prog) (w := w) (base := base) D_check_triple g c_is_triple
  have c_without_top := ok_without_top (P := l.prog) (w := w) (base := base) D_without_top g
  have c_top_of := ok_top_of (P := l.prog) (w := w) (base := base) D_top_of g
  have c_tidied := ok_tidied (P := l.prog) (w := w) (base := base) D_tidied g
  have c_untouched := ok_untouched (P := l.prog) (w := w) (base := base) D_untouched g
  have c_join_triples := ok_join_triples (P := l.prog) (w := w) (base := base) D_join_triples g c_without_top c_top_of c_tidied
  have c_triple_of_step := ok_triple_of_step (P := l.prog) (w := w) (base := base) D_triple_of_step g c_tidied
  have c_triple_of_steps := ok_triple_of_steps (P := l.prog) (w := w) (base := base) D_triple_of_steps g c_untouched c_triple_of_step c_join_triples
  have c_told_of_steps := ok_told_of_steps (P := l.prog) (w := w) (base := base) D_told_of_steps g c_check_plan c_check_steps c_triple_of_steps
  have c_law_take := ok_law_take (P := l.prog) (w := w) (base := base) D_law_take g
  have c_law_begun := ok_law_begun (P := l.prog) (w := w) (base := base) D_law_begun g
  have c_law_step := ok_law_step (P := l.prog) (w := w) (base := base) D_law_step g
  have c_law_gone := ok_law_gone (P := l.prog) (w := w) (base := base) D_law_gone g c_law_step
  have c_law_by := ok_law_by (P := l.prog) (w := w) (base := base) D_law_by g
  have c_law_plan := ok_law_plan (P := l.prog) (w := w) (base := base) D_law_plan g c_law_take
  have c_law_steps := ok_law_steps (P := l.prog) (w := w) (base := base) D_law_steps g c_law_take
  have c_law_alike := ok_law_alike (P := l.prog) (w := w) (base := base) D_law_alike g 2
  have c_law_stacks := ok_law_stacks (P := l.prog) (w := w) (base := base) D_law_stacks g
  have c_law_least := ok_law_least (P := l.prog) (w := w) (base := base) D_law_least g c_law_stacks c_law_step
  have c_price_of_step := ok_price_of_step (P := l.prog) (w := w) (base := base) D_price_of_step g
  have c_law_signs := ok_law_signs (P := l.prog) (w := w) (base := base) D_law_signs g c_law_take
  have c_law_triple := ok_law_triple (P := l.prog) (w := w) (base := base) D_law_triple g c_law_take c_law_signs
  have c_cheapest_sign := ok_cheapest_sign (P := l.prog) (w := w) (base := base) D_cheapest_sign g
  have c_ways := ok_ways (P := l.prog) (w := w) (base := base) D_ways g
  have c_steps_of_way := ok_steps_of_way (P := l.prog) (w := w) (base := base) D_steps_of_way g c_cheapest_sign
  have c_price_of_steps := ok_price_of_steps (P := l.prog) (w := w) (base := base) D_price_of_steps g c_price_of_step
  have c_fewest := ok_fewest (P := l.prog) (w := w) (base := base) D_fewest g c_check_plan c_check_triple c_ways
  have c_judged := ok_judged (P := l.prog) (w := w) (base := base) D_judged g c_check_plan c_check_triple c_check_steps c_triple_of_steps c_price_of_steps
  have c_cheapest_way := ok_cheapest_way (P := l.prog) (w := w) (base := base) D_cheapest_way TB g c_ways
  have c_cheapest := ok_cheapest (P := l.prog) (w := w) (base := base) D_cheapest g c_check_plan c_check_triple c_cheapest_way c_steps_of_way c_price_of_steps
  exact ok_law F g c_law_begun c_law_plan c_law_take c_law_stacks c_law_least c_law_triple c_law_by c_cheapest c_fewest c_law_gone c_judged c_law_alike c_law_steps c_told_of_steps
theorem law_at {l : PySem.W.OpenLaw} {w : World} {K : PySem.W.Frag} {h : Heap} {mg : Str → Option Value} {fa cL PT : Addr} {k : Nat} (hE : h.get? PT = some { cls := .none, data := .fields #[] }) (hN : K.lookup PT = none) (hC : PySem.W.codeHdIn K cL PT = true) (KX : K.In h)
    (A : ∃ fd : FuncData, (∀ (s : Shared) (v : Value), BindsTo s fd ⟨[v], []⟩ [("_law_script", v)]) ∧ ∀ base : Heap, K.In base → base.Ns mainGlobals mg → LamX.TabB base mg cL PT → FnOk l.prog w K mg base CX0 k fa fd ["_law_script"] (spLawT K [(PT, lamQ)])) : LamX.LawAtS l w K CX0 k 63 "_law_script" mg fa h := by
  obtain ⟨fd, hb, hF⟩ := A
  refine ⟨fd, [(cL, PT)], spLawT K [(PT, lamQ)], fun p hp => ?_, fun p hp => ?_, fun p hp => ?_, hb, fun H a ns hl _ hH hS => ⟨a, ns, rfl, hS, hl, fun p hp => ?_, fun _ => rfl⟩, fun base b1 b2 b3 => hF base b1 b2 (b3 _ (List.mem_singleton.mpr rfl))⟩
  · rw [List.mem_singleton.mp hp]
    exact hE
  · rw [List.mem_singleton.mp hp]
    exact hN
  · rw [List.mem_singleton.mp hp]
    exact PySem.W.codeHd_of_K KX hC
  · rw [List.mem_singleton.mp hp]
    exact LamX.TabS.nil (hH _ (List.mem_singleton.mpr rfl))
end SK
open PySem PySem.W PyProof.Rows
set_option maxRecDepth 100000 in
set_option maxHeartbeats 0 in
theorem PySem.Challenge.cw_sinkstack_k05_cheapest_by_all_steps_holds : PySem.Challenge.rw_sinkstack_k05_cheapest_by_all_steps.Holds := by
  w_on; o_law; k_head; (case hw => w_witness2)
  k_fill
  refine LamX.walk_ofTs (n := 63) (k := 5) (x := "_law_script") (CX := fun _ => L2.CX0) rfl (by decide) rfl ⟨rfl, by decide, by decide⟩ (fun w h Y => PySem.W.km_in_of Y) ?F (fun _ _ _ _ _ z => z)
  case F =>
    intro w mg fa h Y KX G hmg
    have hT8 := PySem.W.km_tabs_of Y
    refine' SK.law_at (hT8 _ (List.mem_cons_self ..)) ?hN ?hC KX ?A
    case A =>
     refine' SK.all_mk KX G hmg ?aL ?lL ?cL ?kL (SK.gx_mk KX G ?v0 ?r0 ?v1 ?r1 ?v2 ?r2 ?v3 ?r3 ?z0 ?z1 ?z2 ?z3 ?z4 ?z5 ?z6 ?z7 ?z8 ?z9 ?z10 ?z11 ?z12 ?z13)
      (SK.dn_mk KX G ?a0 ?l0 ?c0 ?k0 (fun _ _ _ _ _ _ us hl => match us, hl with | [_], _ => rfl))
      (SK.dn_mk KX G ?a1 ?l1 ?c1 ?k1 (fun _ _ _ _ _ _ us hl => match us, hl with | [_, _, _], _ => rfl))
      (SK.dn_mk KX G ?a2 ?l2 ?c2 ?k2 (fun _ _ _ _ _ _ us hl => match us, hl with | [_, _], _ => rfl))
      (SK.dn_mk KX G ?a3 ?l3 ?c3 ?k3 (fun _ _ _ _ _ _ us hl => match us, hl with | [_, _], _ => rfl))
      (SK.dn_mk KX G ?a4 ?l4 ?c4 ?k4 (fun _ _ _ _ _ _ us hl => match us, hl with | [_], _ => rfl))
      (SK.dn_mk KX G ?a5 ?l5 ?c5 ?k5 (fun _ _ _ _ _ _ us hl => match us, hl with | [_, _], _ => rfl))
      (SK.dn_mk KX G ?a6 ?l6 ?c6 ?k6 (fun _ _ _ _ _ _ us hl => match us, hl with | [_, _], _ => rfl))
      (SK.dn_mk KX G ?a7 ?l7 ?c7 ?k7 (fun _ _ _ _ _ _ us hl => match us, hl with | [_, _], _ => rfl))
      (SK.dn_mk KX G ?a8 ?l8 ?c8 ?k8 (fun _ _ _ _ _ _ us hl => match us, hl with | [_, _], _ => rfl))
      (SK.dn_mk KX G ?a9 ?l9 ?c9 ?k9 (fun _ _ _ _ _ _ us hl => match us, hl with | [_, _], _ => rfl))
      (SK.dn_mk KX G ?a10 ?l10 ?c10 ?k10 (fun _ _ _ _ _ _ us hl => match us, hl with | [_, _, _], _ => rfl))
      (SK.dn_mk KX G ?a11 ?l11 ?c11 ?k11 (fun _ _ _ _ _ _ us hl => match us, hl with | [_], _ => rfl))
      (SK.dn_mk KX G ?a12 ?l12 ?c12 ?k12 (fun _ _ _ _ _ _ us hl => match us, hl with | [_, _], _ => rfl))
      (SK.dn_mk KX G ?a13 ?l13 ?c13 ?k13 (fun _ _ _ _ _ _ us hl => match us, hl with | [_, _], _ => rfl))
      (SK.dn_mk KX G ?a14 ?l14 ?c14 ?k14 (fun _ _ _ _ _ _ us hl => match us, hl with | [_, _], _ => rfl))
      (SK.dn_mk KX G ?a15 ?l15 ?c15 ?k15 (fun _ _ _ _ _ _ us hl => match us, hl with | [_, _], _ => rfl))
      (SK.dn_mk KX G ?a16 ?l16 ?c16 ?k16 (fun _ _ _ _ _ _ us hl => match us, hl with | [_, _], _ => rfl))
      (SK.dn_mk KX G ?a17 ?l17 ?c17 ?k17 (fun _ _ _ _ _ _ us hl => match us, hl with | [_], _ => rfl))
      (SK.dn_mk KX G ?a18 ?l18 ?c18 ?k18 (fun _ _ _ _ _ _ us hl => match us, hl with | [_, _, _], _ => rfl))
      (SK.dn_mk KX G ?a19 ?l19 ?c19 ?k19 (fun _ _ _ _ _ _ us hl => match us, hl with | [_, _, _], _ => rfl))
      (SK.dn_mk KX G ?a20 ?l20 ?c20 ?k20 (fun _ _ _ _ _ _ us hl => match us, hl with | [_, _], _ => rfl))
      (SK.dn_mk KX G ?a21 ?l21 ?c21 ?k21 (fun _ _ _ _ _ _ us hl => match us, hl with | [_, _, _], _ => rfl))
      (SK.dn_mk KX G ?a22 ?l22 ?c22 ?k22 (fun _ _ _ _ _ _ us hl => match us, hl with | [_, _, _], _ => rfl))
      (SK.dn_mk KX G ?a23 ?l23 ?c23 ?k23 (fun _ _ _ _ _ _ us hl => match us, hl with | [_, _], _ => rfl))
      (SK.dn_mk KX G ?a24 ?l24 ?c24 ?k24 (fun _ _ _ _ _ _ us hl => match us, hl with | [_], _ => rfl))
      (SK.dn_mk KX G ?a25 ?l25 ?c25 ?k25 (fun _ _ _ _ _ _ us hl => match us, hl with | [_, _], _ => rfl))
      (SK.dn_mk KX G ?a26 ?l26 ?c26 ?k26 (fun _ _ _ _ _ _ us hl => match us, hl with | [_, _], _ => rfl))
      (SK.dn_mk KX G ?a27 ?l27 ?c27 ?k27 (fun _ _ _ _ _ _ us hl => match us, hl with | [_, _, _], _ => rfl))
      (SK.dn_mk KX G ?a28 ?l28 ?c28 ?k28 (fun _ _ _ _ _ _ us hl => match us, hl with | [_, _], _ => rfl))
      (SK.dn_mk KX G ?a29 ?l29 ?c29 ?k29 (fun _ _ _ _ _ _ us hl => match us, hl with | [_], _ => rfl))
      (SK.dn_mk KX G ?a30 ?l30 ?c30 ?k30 (fun _ _ _ _ _ _ us hl => match us, hl with | [_, _], _ => rfl))
      (SK.dn_mk KX G ?a31 ?l31 ?c31 ?k31 (fun _ _ _ _ _ _ us hl => match us, hl with | [_, _, _], _ => rfl))
      (SK.dn_mk KX G ?a32 ?l32 ?c32 ?k32 (fun _ _ _ _ _ _ us hl => match us, hl with | [_, _], _ => rfl))
      (SK.dn_mk KX G ?a33 ?l33 ?c33 ?k33 (fun _ _ _ _ _ _ us hl => match us, hl with | [_, _], _ => rfl))
      (SK.dn_mk KX G ?a34 ?l34 ?c34 ?k34 (fun _ _ _ _ _ _ us hl => match us, hl with | [_, _, _], _ => rfl))
      (SK.dnL_mk KX G ?a35 ?l35 ?c35 ?k35 (fun _ _ _ _ _ _ us hl => match us, hl with | [_, _], _ => rfl))
      (SK.dn_mk KX G ?a36 ?l36 ?c36 ?k36 (fun _ _ _ _ _ _ us hl => match us, hl with | [_, _], _ => rfl))
     (case aL => k_is); (case lL => k_is); (case cL => k_is); (case kL => k_is)
     (case v0 => k_is); (case r0 => exact ⟨_, rfl⟩)
     (case v1 => k_is); (case r1 => exact ⟨_, rfl⟩)
     (case v2 => k_is); (case r2 => exact ⟨_, rfl⟩)
     (case v3 => k_is); (case r3 => exact ⟨_, rfl⟩)
     (case z0 => k_is)
     (case z1 => k_is)
     (case z2 => k_is)
     (case z3 => k_is)
     (case z4 => k_is)
     (case z5 => k_is)
     (case z6 => k_is)
     (case z7 => k_is)
     (case z8 => k_is)
     (case z9 => k_is)
     (case z10 => k_is)
     (case z11 => k_is)
     (case z12 => k_is)
     (case z13 => k_is)
     (case a0 => k_is); (case l0 => k_is); (case c0 => k_is); (case k0 => k_is)
     (case a1 => k_is); (case l1 => k_is); (case c1 => k_is); (case k1 => k_is)
     (case a2 => k_is); (case l2 => k_is); (case c2 => k_is); (case k2 => k_is)
     (case a3 => k_is); (case l3 => k_is); (case c3 => k_is); (case k3 => k_is)
     (case a4 => k_is); (case l4 => k_is); (case c4 => k_is); (case k4 => k_is)
     (case a5 => k_is); (case l5 => k_is); (case c5 => k_is); (case k5 => k_is)
     (case a6 => k_is); (case l6 => k_is); (case c6 => k_is); (case k6 => k_is)
     (case a7 => k_is); (case l7 => k_is); (case c7 => k_is); (case k7 => k_is)
     (case a8 => k_is); (case l8 => k_is); (case c8 => k_is); (case k8 => k_is)
     (case a9 => k_is); (case l9 => k_is); (case c9 => k_is); (case k9 => k_is)
     (case a10 => k_is); (case l10 => k_is); (case c10 => k_is); (case k10 => k_is)
     (case a11 => k_is); (case l11 => k_is); (case c11 => k_is); (case k11 => k_is)
     (case a12 => k_is); (case l12 => k_is); (case c12 => k_is); (case k12 => k_is)
     (case a13 => k_is); (case l13 => k_is); (case c13 => k_is); (case k13 => k_is)
     (case a14 => k_is); (case l14 => k_is); (case c14 => k_is); (case k14 => k_is)
     (case a15 => k_is); (case l15 => k_is); (case c15 => k_is); (case k15 => k_is)
     (case a16 => k_is); (case l16 => k_is); (case c16 => k_is); (case k16 => k_is)
     (case a17 => k_is); (case l17 => k_is); (case c17 => k_is); (case k17 => k_is)
     (case a18 => k_is); (case l18 => k_is); (case c18 => k_is); (case k18 => k_is)
     (case a19 => k_is); (case l19 => k_is); (case c19 => k_is); (case k19 => k_is)
     (case a20 => k_is); (case l20 => k_is); (case c20 => k_is); (case k20 => k_is)
     (case a21 => k_is); (case l21 => k_is); (case c21 => k_is); (case k21 => k_is)
     (case a22 => k_is); (case l22 => k_is); (case c22 => k_is); (case k22 => k_is)
     (case a23 => k_is); (case l23 => k_is); (case c23 => k_is); (case k23 => k_is)
     (case a24 => k_is); (case l24 => k_is); (case c24 => k_is); (case k24 => k_is)
     (case a25 => k_is); (case l25 => k_is); (case c25 => k_is); (case k25 => k_is)
     (case a26 => k_is); (case l26 => k_is); (case c26 => k_is); (case k26 => k_is)
     (case a27 => k_is); (case l27 => k_is); (case c27 => k_is); (case k27 => k_is)
     (case a28 => k_is); (case l28 => k_is); (case c28 => k_is); (case k28 => k_is)
     (case a29 => k_is); (case l29 => k_is); (case c29 => k_is); (case k29 => k_is)
     (case a30 => k_is); (case l30 => k_is); (case c30 => k_is); (case k30 => k_is)
     (case a31 => k_is); (case l31 => k_is); (case c31 => k_is); (case k31 => k_is)
     (case a32 => k_is); (case l32 => k_is); (case c32 => k_is); (case k32 => k_is)
     (case a33 => k_is); (case l33 => k_is); (case c33 => k_is); (case k33 => k_is)
     (case a34 => k_is); (case l34 => k_is); (case c34 => k_is); (case k34 => k_is)
     (case a35 => k_is); (case l35 => k_is); (case c35 => k_is); (case k35 => k_is)
     (case a36 => k_is); (case l36 => k_is); (case c36 => k_is); (case k36 => k_is)
    (case hN => first | k_is | kernel_rfl)
    (case hC => first | kernel_rfl | k_is)
