import PyProof.Rows.All
import Wide.All
import OpenK.AllK
import Wide.FinOn
import HandS.ExcIs
import HandS.ExcField
import HandS.ExcInit
import HandS.IsInst
import HandS.ForMost
import HandS.Style
import HandS.Flow
import KE.GoesMore
import KE.GoesEnum
import KE.KTupSum
import PyProof.ReprRoads
import PyProof.ReprLen
import HandS.TupLe
import HandS.SetKeys
import HandS.SortRule
import HandS.More
import HandS.Exc
import KE.KExcInit
import PyProof.ExcBaseAll.LookupError
import PyProof.ExcBaseAll.ArithmeticError
import HandS.ExcValue
import HandS.Words
import HandS.TupAny
import PyProof.P3In
import HandS.Deep
import HandS.SortInts
import HandS.Zip
import KE.DataFind
import HandS.List
import KE.KRevSl
import HandS.TupMul
import HandS.ForExc
import PyProof.NeKinds
import HandS.Comp
import HandS.TryOnly
import HandS.Conv
import PySem.Challenge.RW_keepsort_k84_limits_and_errors
set_option Elab.async false
set_option linter.all false
set_option maxRecDepth 100000
set_option maxHeartbeats 4000000
namespace PySem.W
open PySem PySem.Spec PySem.Calls PyProof.Rows
section
variable {prog : Program} {w : World} {A : Around} {E : Value → Shared → Prop} {s : Shared} {K : Frag} {x D : Addr} {ox : Obj}
theorem kin_classD {Q : Option Value → Shared → Prop} (hga : findIn K (.ref D) "__getattribute__" = some (some (.builtin "BaseException.__getattribute__"))) (hgt : findIn K (.ref D) "__getattr__" = some none) (hsub : subIn K (.ref D) (.type "BaseException") = some true)
    (hdct : hasDictIn K D = true) (ha : findIn K (.ref D) "__class__" = some (some (.builtin "object.__class__")))
    (hn : specialIn K (.builtin "object.__class__") "__get__" = some (some (.builtin "getset_descriptor.__get__"))) (htk : takesIn K (.builtin "object.__class__") = some true) (hm : mroIn K D (.type "object") = some true)
    {od : Option Obj} (X : K.In s.heap) (I : InstAt s.heap x ox D od) (h : Q (some (.ref D)) { s with toks := s.toks + 1 }) : wpAny (model prog w) A (getAttr? (.ref x) "__class__") Q E s := by
  have hf : findObj K D od "__class__" = some (.bind (.builtin "getset_descriptor.__get__") (.builtin "object.__class__")) := by
    cases od with
    | none => exact findObj_dataN (by obtain ⟨cd, hc, _⟩ := any_some hdct; rw [hc]; rfl) ha hn htk
    | some od => exact findObj_data (by obtain ⟨cd, hc, _⟩ := any_some hdct; rw [hc]; rfl) ha hn htk
  obtain ⟨hp, g, d, t, os⟩ := s
  have L0 := I.type (M := model prog w)
  have L1 := looks_findIn (M := model prog w) X hga
  have L2 := looks_findIn (M := model prog w) X hgt
  have L3 := looks_find (M := model prog w) X I hf
  have sub : Looks (model prog w) hp (isInstance (.ref x) (.type "BaseException")) true := L0.andThen (looks_subIn X hsub)
  have hx0 : (false && onTheHeap (Value.builtin "BaseException.__getattribute__")) = false := rfl
  have hx2 : (Value.builtin "BaseException.__getattribute__" == Value.builtin "object.__getattribute__") = false := by decide +kernel
  have hx1 : (onTheHeap (Value.ref D) && Value.builtin "BaseException.__getattribute__" == Value.builtin "object.__getattribute__") = false := by rw [hx2]; rfl
  unfold getAttr? getAttrBy? getAttrBy
  refine wpAny_bind (wpAny_mkText (wpAny_bind (wpAny_attempt (wpAny_holding (wpAny_bind (L0.at (wpAny_bind (L1.at ?_))))))))
  show wpAny _ _ (if (onTheHeap (Value.ref D) && Value.builtin "BaseException.__getattribute__" == Value.builtin "object.__getattribute__") = true then _ else _) _ _ _
  rw [hx1, if_neg Bool.false_ne_true]
  unfold getAttrByItsOwn hookBefore
  refine wpAny_bind ?_
  rw [if_pos (show onTheHeap (Value.ref D) = true from rfl)]
  refine L2.at ?_
  refine wpAny_bind (wpAny_attempt (wpAny_holding ?_))
  unfold callGetattribute
  rw [hx0, if_neg Bool.false_ne_true]
  unfold boundAndCalled
  rw [PySem.F.excAttr_ValueError.ga.bind (.ref x)]
  refine wpAny_bind (wpAny_pure ?_)
  show wpAny _ _ (call (.builtin "BaseException.__getattribute__") [.ref x, .str "__class__" t]) _ _ _
  refine wpAny_call (codeAny_call_builtin PySem.F.excAttr_ValueError.ga.plain PySem.F.entry_bexc_ga ?_)
  refine @check_slot (model prog w) _ _ ⟨hp, g, d, t + 1, os⟩ "BaseException.__getattribute__" "BaseException" "__getattribute__" (.ref x) [.str "__class__" t] [] _ (by decide +kernel) (by decide +kernel) sub (PySem.F.args_bexc_ga (.ref x) (.str "__class__" t)) ?_
  unfold Builtin.«object.__getattribute__»
  refine wpAny_bind (wpAny_of_eq (a := ((Value.ref x : Value), [Value.str "__class__" t])) (by first | rfl | (simp only [slotArgs]; rfl)) ?_)
  refine wpAny_bind (wpAny_pure (wpAny_bind (L0.at (wpAny_bind (L3.at ?_)))))
  show wpAny _ _ (holding [Value.builtin "object.__class__"] (call (.builtin "getset_descriptor.__get__") [.builtin "object.__class__", .ref x, .ref D]) >>= ret) _ _ _
  refine wpAny_bind (wpAny_holding (wpAny_call (class_get (s := ⟨hp, g, d, t + 1, os⟩) (ox := ox) (od := od) X I hm ?_)))
  refine wpAny_pure ?_
  show wpAny _ _ (handedOut (.ref D)) _ _ _
  rw [handedOut_of (v := .ref D) rfl]
  first
    | exact wpAny_pure (wpAny_pure h)
    | exact wpAny_pure h
    | exact wpAny_pure (wpAny_bind (wpAny_pure (wpAny_pure h)))
theorem kitx_excD {od : Option Obj} (hga : findIn K (.ref D) "__getattribute__" = some (some (.builtin "BaseException.__getattribute__"))) (hgt : findIn K (.ref D) "__getattr__" = some none) (hsub : subIn K (.ref D) (.type "BaseException") = some true) (hdct : hasDictIn K D = true) (ha : findIn K (.ref D) "__class__" = some (some (.builtin "object.__class__")))
    (hn : specialIn K (.builtin "object.__class__") "__get__" = some (some (.builtin "getset_descriptor.__get__"))) (htk : takesIn K (.builtin "object.__class__") = some true) (hm : mroIn K D (.type "object") = some true) :
    KitX K (.ref x) (.ref D) (fun h => InstAt h x ox D od) where
  ty := fun _ _ _ I => I.type
  it := fun _ _ X _ => by
    obtain ⟨cdD, hcD, _⟩ := any_some hdct
    unfold clsIn at hcD
    split at hcD
    · rename_i c' d' cd' sl' ho
      intro A' Q' E' s' k q
      unfold isType loadHead
      exact wpAny_bind (wpAny_loadPart (k _ _ (X _ _ ho)) (wpAny_pure q))
    · cases hcD
  ne := fun h tp dd its n sl X htp => by
    obtain ⟨cdD, hcD, _⟩ := any_some hdct
    refine Bool.eq_false_iff.mpr fun q => ?_
    have e : D = tp := Value.ref.inj (beq_iff_eq.mp q)
    subst e
    unfold clsIn at hcD
    split at hcD
    · rename_i c' d' cd' sl' ho
      have z := (X _ _ ho).symm.trans htp
      cases z
    · cases hcD
  ca := fun X I k => kin_classD hga hgt hsub hdct ha hn htk hm X I k
end
end PySem.W
namespace KS
open PySem PySem.Spec PyProof.Rows L2
/-- an own exception as a thing: at a, of the class at C, with its dict and fields or without -/
inductive ExAt (H : Hp) (a C : Addr) : Option (List (Str × V)) → Prop where
  | bare (e : H a = some (exo a C none)) : ExAt H a C none
  | full {d : Addr} {fs : List (Str × V)} (e : H a = some (exo a C (some d))) (ed : H d = some (exd d fs)) : ExAt H a C (some fs)
section
variable {X : Cx} {pins : List (Addr × Obj)} {σ : L2.St} {H : Hp} {s : Shared}
theorem ExAt.inst {a C : Addr} {fs : Option (List (Str × V))} (I : Inv X pins σ H s) (h : ExAt H a C fs) : ∃ ox od, PySem.W.InstAt s.heap a ox C od := by
  cases h with
  | bare e =>
    obtain ⟨t1, ho⟩ := exo_at I.hok e
    exact ⟨_, none, ho, rfl, rfl, trivial⟩
  | full e ed =>
    obtain ⟨t1, ho⟩ := exo_at I.hok e
    obtain ⟨mA, hns, _⟩ := exd_at I.hok ed
    obtain ⟨od, hod, _⟩ := lookIn_ns hns
    exact ⟨_, some od, ho, rfl, rfl, hod⟩
/-- isinstance(e, c), e such an exception -/
def rIsX (K : PySem.W.Frag) : List V → Hp → VK → Prop := fun xs H Q => ∃ (a C : Addr) (fs : Option (List (Str × V))) (c : V) (cv : Value) (b : Bool), xs = [.ref a, c] ∧ ExAt H a C fs ∧ ExcC K C ∧ ClsV c cv ∧ PySem.W.kitOne K (.ref C) cv = some b ∧ Q (.bl b) H
theorem call_isX : CallR X (.builtin "isinstance") (rIsX X.K) := by
  intro pins s σ H xs us Q I r h
  obtain ⟨a, C, fs, c, cv, b, rfl, ex, T, hc, e, q⟩ := h
  obtain ⟨u1, u2, rfl, r1, r2⟩ := vals2 r
  cases (show u1 = Value.ref a from r1)
  have e2 := hc.eq r2
  subst e2
  obtain ⟨ox, od, J⟩ := ex.inst I
  exact PySem.W.kia_one (PySem.W.kitx_excD T.hg T.hk T.hs T.hd T.ha T.hn T.ht T.hm) I.kIn J e (fun z => nomatch z) fun tk => ⟨.bl b, H, I.kept (t' := tk) fun _ _ z => z, rfl, q⟩
/-- e.f -/
def tExf (K : PySem.W.Frag) (f : Str) (te : TE) : TE := fun σ H Q => te σ H fun x H1 => ∃ (a C d : Addr) (fs : List (Str × V)) (v : V), x = .ref a ∧ H1 a = some (exo a C (some d)) ∧ H1 d = some (exd d fs) ∧ XfC K C ∧ PySem.W.findIn K (.ref C) f = some none ∧ fs.lookup f = some v ∧ Q v H1
theorem pe_exf {e : Expr} {te : TE} {pos : Pos} {n : Str} (he : PE X e te) (hb : attributeBase e n X.env (eval e X.env) = eval e X.env := by rfl) : PE X (.Attribute e n pos) (tExf X.K n te) := by
  refine ⟨fun pins s σ H Q I h => ?_⟩
  refine attr_of hb (thn (he.run pins s σ H _ I h) fun u s1 hh => ?_)
  obtain ⟨x, H1, I1, rx, a, C, d, fs, v, ex, ea, ed, T, hno, l, q⟩ := hh
  subst ex
  obtain rfl : u = Value.ref a := rx
  obtain ⟨t1, ho⟩ := exo_at I1.hok ea
  obtain ⟨mA, hns, hr⟩ := exd_at I1.hok ed
  obtain ⟨od, hod, hl⟩ := lookIn_ns hns
  obtain ⟨u, hu, ru⟩ := RelO.some_of (v := v) (o := mA n) (by rw [← l]; exact hr n)
  have J : PySem.W.InstAt s1.heap a _ C (some od) := ⟨ho, rfl, rfl, hod⟩
  exact HandSPX.exc_get I1.kIn J T.ga T.gg T.exC (PySem.W.findObj_own T.hdC hno rfl (by rw [hl, hu])) (handed_of ru) ⟨v, H1, I1.tok _, ru, q⟩
end
end KS
namespace KS
open PySem PySem.Spec PyProof.Rows L2
/-- three whole numbers: the state, the digits left, how many draws -/
def PoolO (o : Option HO) : Prop := ∃ a b c : Int, o = some (.lst [.int a, .int b, .int c]) ∧ 0 ≤ a ∧ a < 2147483249 ∧ 0 ≤ b
/-- what stood, but at p, stands -/
def KeepX (p : Addr) (H H' : Hp) : Prop := ∀ b o, b ≠ p → H b = some o → H' b = some o
theorem KeepX.refl (p : Addr) (H : Hp) : KeepX p H H := fun _ _ _ e => e
theorem KeepX.trans {p : Addr} {H H1 H2 : Hp} (a : KeepX p H H1) (b : KeepX p H1 H2) : KeepX p H H2 := fun c o n e => b c o n (a c o n e)
theorem KeepX.of_same {p : Addr} {H H1 : Hp} (a : Same H H1) : KeepX p H H1 := fun c o _ e => a c o e
theorem same_new {H : Hp} {p : Addr} {o : HO} (h : H p = none) : Same H (upd H p o) := fun b x e => by
  rw [upd_ne (ne_of_none e h)]
  exact e
theorem keepX_upd {H : Hp} {p : Addr} {o : HO} : KeepX p H (upd H p o) := fun b x n e => by
  rw [upd_ne n]
  exact e
theorem PoolO.same {H H' : Hp} {p : Addr} (s : Same H H') (h : PoolO (H p)) : PoolO (H' p) := by
  obtain ⟨a, b, c, e, r⟩ := h
  exact ⟨a, b, c, s _ _ e, r⟩
theorem PoolO.ne {H : Hp} {p q : Addr} (h : PoolO (H p)) (n : H q = none) : p ≠ q := by
  obtain ⟨a, b, c, e, r⟩ := h
  exact ne_of_none e n
theorem same_seqT {K : PySem.W.Frag} {H H' : Hp} {a : Addr} {xs : List V} (e : Same H H') (h : SqT K H a xs) : SqT K H' a xs := by
  rcases h with (h | ⟨o, h⟩) | h
  · exact .inl (.inl (e _ _ h))
  · exact .inl (.inr ⟨o, e _ _ h⟩)
  · exact .inr h
theorem keepX_seqT {K : PySem.W.Frag} {H H' : Hp} {a p : Addr} {xs : List V} (hp : PoolO (H p)) (e : KeepX p H H') (h : SqT K H a xs) : SqT K H' a xs := by
  obtain ⟨x, y, z, ep, _⟩ := hp
  rcases h with (h | ⟨o, h⟩) | h
  · exact .inl (.inl (e _ _ (fun q => by rw [q, ep] at h; cases h) h))
  · exact .inl (.inr ⟨o, e _ _ (fun q => by rw [q, ep] at h; cases h) h⟩)
  · exact .inr h
theorem int_mod_bd (x : Int) {m : Int} (h : 0 < m) : 0 ≤ x % m ∧ x % m < m := ⟨Int.emod_nonneg x (by omega), Int.emod_lt_of_pos x h⟩
def spCell (K : PySem.W.Frag) : Sp := fun vs H Q _ => ∃ (a : Addr) (ns : List Int) (k : Nat), vs = [.ref a, .int k] ∧ SqL K H a (ns.map V.int) ∧ k ≤ 63 ∧ ∀ H' n, Same H H' → Q (.int n) H'
def spPool : Sp := fun vs H Q _ => ∃ (n : Int), vs = [.int n] ∧ ∀ H' p, Same H H' → H p = none → PoolO (H' p) → Q (.ref p) H'
def spDraw : Sp := fun vs H Q _ => ∃ (p : Addr) (m : Int), vs = [.ref p, .int m] ∧ PoolO (H p) ∧ 0 < m ∧ m < 1073741824 ∧ ∀ H' r, KeepX p H H' → PoolO (H' p) → 0 ≤ r → r < m → Q (.int r) H'
end KS
namespace KS
open PySem PySem.Spec PyProof.Rows L2
open Sem (wp)
open AutoSeq1 (wpAny_loadPart')
/-! ### sum(t), t a tuple of whole numbers -/
def rSumT (K : PySem.W.Frag) : List V → Hp → VK → Prop := fun vs H Q => ∃ (a : Addr) (ns : List Int), vs = [V.ref a] ∧ SqT K H a (ns.map V.int) ∧ Q (.int ns.sum) H
theorem cr_sumT {X : Cx} (hc : X.calm = true) : CallR X (.builtin "sum") (rSumT X.K) := by
  intro pins s σ H vs us Q I r h
  obtain ⟨a, ns, rfl, hs, q⟩ := h
  obtain ⟨its, rv, hl, _⟩ := I.tuple hs
  rw [Vals.ref1 r]
  have hi := rv.ints
  obtain ⟨xs, e⟩ := hi.allInts.items
  have hn : numsOf (intItems xs).toList = ns := by
    rw [← e]
    exact hi.numsOf
  rw [nums_intItems] at hn
  have hl2 : s.heap.IsTuple a (intItems xs) := by
    rw [← e]
    exact hl
  refine PySem.W.ktm_sumG (I.ok.hd hc) hl2 fun h' tk t' hk => ⟨.int ns.sum, H, I.kept hk, ⟨t', ?_⟩, q⟩
  rw [preSum_eq, List.take_of_length_le (by simp), hn]
/-- tuple(x), x a list or a tuple -/
def rTupOf (K : PySem.W.Frag) : List V → Hp → VK → Prop := fun xs H Q => ∃ p ys, xs = [.ref p] ∧ ((SqL K H p ys ∧ ∀ l, H l = none → Q (.ref l) (upd H l (.tup ys))) ∨ (SqT K H p ys ∧ Q (.ref p) H))
theorem cr_tupOf {X : Cx} : CallR X (.type "tuple") (rTupOf X.K) := call_tuple_of
/-! ### enumerate(t), t a tuple -/
abbrev tupItO (l : Addr) : Obj := { cls := .type "tuple_iterator", data := .fields #[.ref l, .int 0 0] }
abbrev enumO (it : Addr) : Obj := { cls := .type "enumerate", data := .fields #[.none, .bool false, .ref it, rawInt 0, .none, .none] }
theorem meets_enumT (l : Addr) (items : Array Value) (n : Nat) (dct : Option Addr) (sl : Array (Option Value)) :
    Meets (Builtin.«enumerate.__new__» ⟨[.type "enumerate", .ref l], []⟩) (fun _ R s =>
      s.heap.get? l = some { cls := .type "tuple", dict := dct, data := .seq items n, slots := sl } ∧
      R (.ok (.ret (.ref (s.heap.push (tupItO l)).objs.size))) { s with heap := (s.heap.push (tupItO l)).push (enumO s.heap.objs.size) }) :=
  .of_wp fun prog w A R s h => by
    obtain ⟨hp, g, d, tk, os⟩ := s
    obtain ⟨hl, h⟩ := h
    have hsub := sub_enumerate
    have hT : Heap.IsTuple (Shared.heap ⟨hp, g, d, tk, os⟩) l items := ⟨_, hl, rfl, n, rfl⟩
    wp_walk using wpAny_loadPart' hl
    refine wpAny_stack_any fun st => wpAny_pure ?_
    split
    · rename_i c _ _ _ _ _
      cases (c == Value.type "enumerate")
      · wp_walk using wpAny_loadPart' hl, wpAny_pyIter_tuple hT
        exact ⟨_, rfl, h⟩
      · wp_walk using wpAny_loadPart' hl, wpAny_pyIter_tuple hT
        exact ⟨_, rfl, h⟩
    · wp_walk using wpAny_loadPart' hl, wpAny_pyIter_tuple hT
      exact ⟨_, rfl, h⟩
theorem call_enumT {prog : Program} {w : World} {A : Around} {E : Value → Shared → Prop} {s : Shared} {l : Addr} {items : Array Value} {Q : Value → Shared → Prop} (hL : s.heap.IsTuple l items)
    (h : ∀ h', IsEnum h' (s.heap.objs.size + 1) s.heap.objs.size 0 .none → h'.IsTupleIter s.heap.objs.size l 0 →
      (∀ b o, s.heap.get? b = some o → h'.get? b = some o) → Q (.ref (s.heap.objs.size + 1)) { s with heap := h' }) :
    wpAny (model prog w) A (call (.type "enumerate") [.ref l]) Q E s := by
  obtain ⟨⟨c, dct, dt, sl⟩, hl, hc, n, hd⟩ := hL
  replace hc : c = .type "tuple" := hc
  replace hd : dt = .seq items n := hd
  subst hc
  subst hd
  refine callType_new F.called_enumerate (by decide) (F.typeCall_enumerate_1 _) (F.newCall_enumerate_1 _)
    (fun obj => F.args_object_init_2 obj _) F.entry_enumerate_new (meets_enumT l items n dct sl) ⟨hl, ?_⟩
  generalize hg1 : s.heap.push (tupItO l) = g1
  have hz : g1.objs.size = s.heap.objs.size + 1 := by
    rw [← hg1]
    exact Heap.size_push ..
  have hit : g1.get? s.heap.objs.size = some (tupItO l) := by
    rw [← hg1]
    exact Heap.get?_push_size _ rfl
  have hold : ∀ b o, s.heap.get? b = some o → g1.get? b = some o := fun b o e => by
    rw [← hg1]
    exact Heap.get?_push_of_some _ e
  show _ ∧ _
  rw [hz]
  have he : IsEnum (g1.push (enumO s.heap.objs.size))
      (s.heap.objs.size + 1) s.heap.objs.size 0 .none := by
    have z := Heap.get?_push_size g1 (o := enumO s.heap.objs.size) rfl
    rw [hz] at z
    exact z
  exact ⟨⟨_, he, rfl⟩, h _ he ⟨tupItO l, Heap.get?_push_of_some _ hit, rfl, rfl⟩ fun b o x => Heap.get?_push_of_some _ (hold b o x)⟩
/-- the pairs (i, item i) of the tuple at a, each a new tuple -/
def IteT (K : PySem.W.Frag) (a : Addr) : It :=
  ⟨fun i H => ∃ (xs : List V) (x : V), SqT K H a xs ∧ xs[i]? = some x,
   fun i H v H' => ∃ T x, v = .ref T ∧ H T = none ∧ H' = upd H T (.tup [.int (i : Nat), x]) ∧ ∀ xs, SqT K H a xs → xs[i]? = some x,
   fun i H => ∃ xs : List V, SqT K H a xs ∧ xs.length ≤ i⟩
theorem turn_enumT {P : Program} {w : World} {K : PySem.W.Frag} {elts : List Expr} {kk : Nat} {tpos : Pos} (a e it : Addr) :
    Turn P w K (.Tuple elts kk tpos) (IteT K a) [e, it] e
      (fun i h => (∃ old, IsEnum h e it ((i : Nat) : Int) old) ∧ h.IsTupleIter it a i ∧ e ≠ it) where
  mem := by simp
  obj := fun i h st b hb => by
    obtain ⟨⟨old, he⟩, ⟨o, ho, hc, hd⟩, _⟩ := st
    rcases (by simpa using hb : b = e ∨ b = it) with z | z
    · subst z
      exact ⟨_, he, fun v q => nomatch q⟩
    · subst z
      exact ⟨o, ho, fun v q => by rw [hd] at q; cases q⟩
  keep := fun i h h' st k => by
    obtain ⟨⟨old, he⟩, hi, hne⟩ := st
    exact ⟨⟨old, k e (by simp) _ he⟩, hi.at fun o q => k it (by simp) o q, hne⟩
  item := by
    intro X hP hw hK hc i pins s σ H E I hf st hg
    subst hP hw hK
    obtain ⟨⟨old, he⟩, hit, hne⟩ := st
    obtain ⟨xs, x, hq, hx⟩ := hg
    obtain ⟨its, rv, p, hz⟩ := I.tuple hq
    have p1 : s.heap.IsTuple a its.toArray := p
    obtain ⟨u0, hu0, ru0⟩ := rv.get hx
    have hel : e < s.heap.objs.size := Heap.lt_size he
    have hil : it < s.heap.objs.size := by
      obtain ⟨_, q, _⟩ := hit
      exact Heap.lt_size q
    have hai : a ≠ it := fun z => by
      obtain ⟨o1, g1, c1, _⟩ := p1
      obtain ⟨o2, g2, c2, _⟩ := hit
      rw [z, g2] at g1
      cases g1
      rw [c1] at c2
      injection c2 with c3
      exact absurd c3 (by decide)
    have hea : e ≠ a := fun z => by
      obtain ⟨o1, g1, c1, _⟩ := p1
      have g2 : s.heap.get? e = some _ := he
      rw [z, g1] at g2
      cases g2
      have c2 : Value.type "enumerate" = Value.type "tuple" := c1
      injection c2 with c3
      exact absurd c3 (by decide)
    have hlt : i < its.toArray.size := by
      have z : i < its.length := (List.getElem?_eq_some_iff.mp hu0).1
      simpa using z
    have DD : Draws X.prog X.w X.A.in1 it [it, a] its.toArray.size (fun i v => its.toArray[i]? = some v) (fun i h => h.IsTupleIter it a i ∧ h.IsTuple a its.toArray) :=
      Draws.tuple (show X.A.in1.handled = none from I.ok.hd hc) it a hai its.toArray
    refine wpAny_pyNext_enum_itemD DD he ⟨hit, p1⟩ hlt hne (by simp [hne, hea]) fun u h' tk hu ho hst hT hsz hk => ?_
    have eu : u = u0 := by
      have z : its[i]? = some u := by simpa using hu
      rw [hu0] at z
      exact (Option.some.inj z).symm
    subst eu
    refine ⟨_, rfl, wpAny_letOwnedTupleGo_enum (s := { s with heap := h', toks := tk + 1 }) ho fun h'' he' sb => ?_⟩
    have hT2 : h''.get? s.heap.objs.size = some { cls := .type "tuple", data := .seq #[.int i tk, u] } := (sb.2 _ (Nat.ne_of_gt hel)).trans hT
    have new : ObjOk X.prog X.w (upd H s.heap.objs.size (.tup [.int (i : Nat), x])) h'' s.heap.objs.size (.tup [.int (i : Nat), x]) :=
      ⟨by show 2 ≤ sizeLine; decide, [.int i tk, u], .cons ⟨_, rfl⟩ (.cons ru0 .nil), ⟨_, hT2, rfl, _, rfl⟩⟩
    have I1 : Inv X pins σ (upd H s.heap.objs.size (.tup [.int (i : Nat), x])) { s with heap := h'', toks := tk + 1 } :=
      I.turnedNew (ch := [e, it]) (fun b ob hb q => (sb.2 b (fun z => hb (by simp [z]))).trans
        (hk b ob (fun z => hb (by simp [z])) (fun z => hb (by simp [z])) q)) hf (Nat.le_refl _) new
    refine ⟨.ref s.heap.objs.size, _, I1, rfl, ⟨_, x, rfl, I.hok.fresh (Nat.le_refl _), rfl, fun ys hy => ?_⟩,
      ⟨⟨u, ?_⟩, hst.1.at fun o q => (sb.2 it (Ne.symm hne)).trans q, hne⟩, fun b hb => ?_⟩
    · rw [I.tuple_inj hy hq]
      exact hx
    · have e1 : ((i + 1 : Nat) : Int) = (i : Int) + 1 := by omega
      rw [e1]
      exact he'
    · have hb' : b < s.heap.objs.size := by
        rcases (by simpa using hb : b = e ∨ b = it) with z | z
        · rw [z]
          exact hel
        · rw [z]
          exact hil
      rw [upd_ne (Nat.ne_of_lt hb')]
      exact (hf b hb).1
  done := by
    intro X hP hw hK hc i pins s σ H E I hf st hg
    subst hP hw hK
    obtain ⟨⟨old, he⟩, hit, hne⟩ := st
    obtain ⟨xs, hq, hx⟩ := hg
    obtain ⟨its, rv, p, hz⟩ := I.tuple hq
    have p1 : s.heap.IsTuple a its.toArray := p
    obtain ⟨f0, f1, f2, f3, f4, f5⟩ := hf it (by simp)
    have hl := rv.length
    have DD : Draws X.prog X.w X.A.in1 it [it, a] i (fun _ _ => True) (fun j h => j = i ∧ h.IsTupleIter it a i ∧ h.IsTuple a its.toArray) :=
      { live := fun _ _ st => let ⟨o, ho, _⟩ := st.2.1; ⟨o, ho⟩
        frame := fun _ _ _ st hk => ⟨st.1, st.2.1.at fun o e => hk it (by simp) o e, st.2.2.at fun o e => hk a (by simp) o e⟩
        item := fun j s Q E hj st hQ => absurd st.1 (by omega)
        done := fun s Q E st hE => wpAny_nextOf_tuple_end (show X.A.in1.handled = none from I.ok.hd hc) st.2.1 st.2.2 (by simp; omega) hE }
    exact wpAny_pyNext_enum_endD DD he ⟨rfl, hit, p1⟩ fun h' eb => ⟨rfl, I.turned (t' := s.toks) (fun b o hb q => eb b o hb q) f0 f1 f3 f4 f5⟩
  self := fun A i s Q E st h => by
    obtain ⟨⟨_, he⟩, _⟩ := st
    exact wpAny_pyIter_enum he h
def iEnumT (K : PySem.W.Frag) (ta : TA) : TI := fun σ H R => ta σ H fun vs H1 => ∃ a xs, vs = [.ref a] ∧ SqT K H1 a xs ∧ R (IteT K a) H1
theorem pi_enumT {X : Cx} {e : Expr} {ta : TA} {p pos tpos : Pos} {elts : List Expr} {kk : Nat} (hg : Gl X "enumerate") (hm : X.mg "enumerate" = none) (ha : PA X [e] ta)
    (hs : starEach [e] X.env = [(false, eval e X.env)] := by rfl) : PI X (.Tuple elts kk tpos) (.Call (.Name "enumerate" p) [e] [] pos) (iEnumT X.K ta) := by
  refine ⟨fun pins s σ H R I h => ?_⟩
  refine Call_ (ld_blt I hg hm boot_enumerate (PyProof.Rows.callWith_type1 (thn (ha.run pos pins s σ H _ I h) fun us s1 hh => ?_) hs rfl))
  obtain ⟨vs, H1, I1, r1, a, xs, ex, hq, q⟩ := hh
  subst ex
  cases r1 with
  | cons r rr =>
    cases rr
    cases r
    obtain ⟨its, rv, p1, hz⟩ := I1.tuple hq
    refine call_enumT (items := its.toArray) p1 fun h' he hit hk => wpAny_pyIter_enum he ?_
    have I2 : Inv X pins σ H1 { s1 with heap := h' } := I1.kept (t' := s1.toks) hk
    refine ⟨s1.heap.objs.size + 1, [s1.heap.objs.size + 1, s1.heap.objs.size], _, _, H1, rfl, I2, turn_enumT a (s1.heap.objs.size + 1) s1.heap.objs.size,
      ⟨⟨.none, he⟩, hit, Nat.succ_ne_self _⟩, fun b hb => ?_, q⟩
    have hle : s1.heap.objs.size ≤ b := by
      rcases (by simpa using hb : b = s1.heap.objs.size + 1 ∨ b = s1.heap.objs.size) with z | z
      · rw [z]
        exact Nat.le_succ _
      · rw [z]
        exact Nat.le_refl _
    exact I1.fpOk hle (I1.hok.fresh hle)
/-- a for over enumerate(t): Pv at each turn; the pair stands in a new tuple at T -/
theorem for_enumT {K : PySem.W.Frag} {a : Addr} {xs : List V} {g : TG} {tb : TS} {D : Ends} {σ : L2.St} {H : Hp} (Pv : Nat → L2.St → Hp → Prop) (h0 : Pv 0 σ H)
    (hl : ∀ i σ H, i ≤ xs.length → Pv i σ H → SqT K H a xs)
    (hs : ∀ i x σ H T, xs[i]? = some x → Pv i σ H → H T = none → g (.ref T) σ (upd H T (.tup [.int (i : Nat), x])) fun σ2 H2 => tb { D with nx := Pv (i + 1), ct := Pv (i + 1), bk := D.nx } σ2 H2)
    (hd : ∀ σ H, Pv xs.length σ H → D.nx σ H) :
    ∃ W : Nat → Nat → L2.St → Hp → Prop, (∃ m, W 0 m σ H) ∧ ∀ i m σ H, W i m σ H →
      ((IteT K a).stop i H ∧ D.nx σ H) ∨ ((IteT K a).go i H ∧ ∃ N : L2.St → Hp → Prop, (∀ σ' H', N σ' H' → ∃ m', m' < m ∧ W (i + 1) m' σ' H') ∧
        ∀ x H', (IteT K a).yld i H x H' → g x σ H' fun σ2 H2 => tb { D with nx := N, ct := N, bk := D.nx } σ2 H2) := by
  refine ⟨fun i m σ H => m = xs.length - i ∧ i ≤ xs.length ∧ Pv i σ H, ⟨xs.length, by simp, Nat.zero_le _, h0⟩, ?_⟩
  rintro i m σ H ⟨rfl, hi, p⟩
  have q := hl i σ H hi p
  by_cases hlt : i < xs.length
  · refine .inr ⟨⟨xs, xs[i], q, by simp [hlt]⟩, Pv (i + 1), fun σ' H' p' => ⟨xs.length - (i + 1), by omega, rfl, hlt, p'⟩, fun x H' y => ?_⟩
    obtain ⟨T, x1, rfl, nT, rfl, hx⟩ := y
    exact hs i x1 σ H T (hx _ q) p nT
  · have e : i = xs.length := by omega
    subst e
    exact .inl ⟨⟨xs, q, Nat.le_refl _⟩, hd σ H p⟩
end KS
namespace KS
open PySem PySem.Spec PyProof.Rows L2
/-! ### promises of defs that are only called where no repr is under way -/
structure FnG (P : Program) (w : World) (K : PySem.W.Frag) (mg : Str → Option Value) (base : Heap) (k : Nat) (f : Addr) (fd : FuncData) (ps : List Str) (sp : Sp) : Prop where
  len : ∀ vs H Q E, sp vs H Q E → vs.length = ps.length
  run : ∀ (A : Around) (outer : List Env) (s : Shared) (H : Hp) (args : Args) (us : List Value) (vs : List V) (Q : VK) (E : XK),
    Room k A → A.guards = some [] → Env0 P w K mg base A outer s H → BindsTo s fd args (ps.zip us) → Vals vs us → sp vs H Q E →
    codeAny (model P w) A (.call (.ref f) args) (CR CX0 outer P w H s Q E) s
section
variable {P : Program} {w : World} {K : PySem.W.Frag} {mg : Str → Option Value} {base : Heap}
theorem okG {x qual : Str} {st : Stmt} {f : Addr} {fd : FuncData} {N ps : List Str} {k : Nat} {sp : Sp} (F : Fun K x qual st f fd) (S : FnScope N ps (defScope st))
    (len : ∀ vs H Q E, sp vs H Q E → vs.length = ps.length)
    (hbody : ∀ (cdv : Value) (A : Around) (outer : List Env) (s : Shared) (H : Hp) (vs : List V) (Q : VK) (E : XK),
      Room k (A.deeper (envOfC qual (defScope st) s.heap.objs.size f cdv)) → A.guards = some [] → sp vs H Q E →
      ∃ t, PSs (cxOf CX0 P w K mg base N qual (defScope st) f cdv A outer s H E).nox (defBody st) t ∧ t { nx := fun _ H' => Q .non H', rt := Q } (start N vs) H) :
    FnG P w K mg base (k + 1) f fd ps sp := by
  obtain ⟨oc, od, kV, doc, pm, an, cdv, ct, osl, rfl, lk, hcd⟩ := F.ex
  refine ⟨len, fun A outer s H args us vs Q E hr hgd e0 hb r hsp => ?_⟩
  have hl := len _ _ _ _ hsp
  have kept : ∀ b o, base.get? b = some o → s.heap.get? b = some o := fun b o e => (e0.bs b o e).1
  have KX : K.In s.heap := e0.mod.kin.keeps kept
  have lim : s.heap.NoLimit := e0.mod.nolimit.keeps kept
  have hkind : ∀ y ∈ ps.zip us, (defScope st).names.lookup y.1 = some .local ∨
      ((defScope st).names.lookup y.1 = some .cell ∧ ((cellsFrom (s.heap.objs.size + 1) (defScope st).names []).lookup y.1).isSome = true) := by
    rintro ⟨n, v⟩ hy
    rcases S.par n (List.of_mem_zip hy).1 with q | q
    · left
      exact q
    · right
      exact ⟨q, PySem.W.cellsFrom_some _ _ _ (.inl q)⟩
  refine codeAny_call_function hr.depth (KX _ _ lk) rfl S.co S.gen rfl
    (PySem.W.codeRec_of KX hcd) (hb _ _ _ _ ?_)
  refine wpAny_newFunctionEnv_cells S.kind hkind fun env he s1 x => ?_
  subst he
  refine ⟨lim.keeps x.toInCall.keep, codeAny_func ?_⟩
  obtain ⟨t, ht0, hq⟩ := hbody cdv A outer s H vs Q E (hr.deeper _) hgd hsp
  have ht := ht0.nox
  have I := inv_start (CX := CX0) (E := E) (cd := cdv) (qual := qual) (f := f) S hr.hd e0 hl r x
  refine wpAny_mono (ht.run [] s1 (start N vs) H _ I hq) (fun fl s' hs => ?_)
    fun e s' hs => hs
  cases fl with
  | ret u =>
    obtain ⟨v, σ', H', J, rv, q⟩ := hs
    exact ⟨v, H', J.os, J.bare, J.base, J.hok, rv, q⟩
  | next =>
    obtain ⟨σ', H', J, q⟩ := hs
    exact ⟨V.non, H', J.os, J.bare, J.base, J.hok, rfl, q⟩
  | brk =>
    obtain ⟨_, _, _, q⟩ := hs
    cases q
  | cont =>
    obtain ⟨_, _, _, q⟩ := hs
    cases q
end
section
variable {X : Cx} {k : Nat} {f : Addr} {fd : FuncData} {ps : List Str} {sp : Sp} {x : Str} {p pos : Pos} {e : Expr} {es : List Expr} {t : TA}
theorem pe_callG (F : FnG X.prog X.w X.K X.mg X.base k f fd ps sp) (hr : Room k X.A) (hgd : X.A.guards = some []) (hg : Gl X x) (hm : X.mg x = some (.ref f))
    (hk : PySem.W.keepIn X.K (.ref f) = true) (hb : Binds X.K fd ps []) (ha : PA X (e :: es) t) (hdb : (x == ("__debug__" : Str)) = false := by decide)
    (he : starEach (e :: es) X.env = (false, eval e X.env) :: starEach es X.env := by rfl)
    (hpl : (backTo pos (starEach es X.env)).any (·.1) = false := by rfl) :
    PE X (.Call (.Name x p) (e :: es) [] pos) (tCall sp [] E0 t) := by
  refine ⟨fun pins s σ H Q I h => wpAny_Call_Name_kw (ld_glob I hg hm ?_ hdb)⟩
  refine PySem.W.callWith_K (h₀ := X.base) I.ok.mod.kin hk (thn (ha.run pos pins s σ H _ I h) fun us s1 hh => ?_) he hpl
  obtain ⟨vs, H1, I1, r, q⟩ := hh
  refine ⟨I1.kIn, ?_⟩
  have q1 : sp (vs ++ []) H1 Q E0 := q
  rw [List.append_nil] at q1
  have hl : (us ++ []).length = ps.length := by
    rw [List.append_nil, ← r.length]
    exact F.len _ _ _ _ q1
  have bb := hb s1 us I1.kIn hl
  rw [List.append_nil] at bb
  refine wpAny_call (codeAny_mono (F.run X.A X.stack s1 H1 ⟨us, []⟩ us vs Q E0 hr hgd I1.env0 bb r q1) fun z s' hq => ?_)
  cases z with
  | error e => cases hq
  | ok fl =>
    cases fl with
    | ret u => exact I1.after hq
    | next => cases hq
    | brk => cases hq
    | cont => cases hq
/-- repr(x), x a list or tuple of plain data, where no repr is under way -/
theorem call_reprD (hgd : X.A.guards = some []) (hu : X.A.units + 100 < cLine) : CallR X (.builtin "repr") (fun xs H Q => ∃ (a : Addr) (d : PyData), xs = [.ref a] ∧ Dp X.K H (.ref a) d ∧
    d.showable = true ∧ d.hasDict = false ∧ d.shown.length ≤ sizeLine ∧ d.depth ≤ 64 ∧ Q (.str d.shown) H) := by
  intro pins s σ H xs us Q I r h
  obtain ⟨a, d, rfl, hd, h1, h2, h3, h4, q⟩ := h
  rw [Vals.ref1 r]
  obtain ⟨as, R⟩ := Dp.reads I d (.ref a) (.ref a) hd rfl
  exact repr_of_reads' R h1 (PyData.noDict_hsm h2) hgd (by omega) (fun _ _ e => e) (fun h' u tk hk => ⟨.str d.shown, H, I.kept hk, ⟨u, rfl⟩, q⟩) h3
end
/-! ### the end of a row whose law has such a promise -/
theorem law_callG {P : Program} {w : World} {K : PySem.W.Frag} {mg mb : Str → Option Value} {k : Nat} {fa a : Addr} {fd : FuncData} {x : Str} {sp : Sp} {s₁ : Shared} {vs : List Value} {ns : List Int}
    (KX : K.In s₁.heap) (hns : s₁.heap.Ns mainGlobals mg) (hb : s₁.heap.Ns builtinsNs mb) (hbb : ∀ x : Str, x ≠ "__name__" → mb x = bootBuiltins x) (hlim : s₁.heap.NoLimit) (hg : s₁.gens = #[])
    (ha : s₁.heap.get? a = some { cls := .type "list", data := .seq vs.toArray }) (hi : IntsAre vs ns) (hl : ns.length ≤ sizeLine) (hr : Room k callerA)
    (F : ∀ base : Heap, K.In base → base.Ns mainGlobals mg → FnG P w K mg base k fa fd [x] sp)
    (hbind : ∀ (s : Shared) (u : Value), BindsTo s fd ⟨[u], []⟩ [(x, u)])
    (hsp : ∀ H : Hp, Only H → SqL K H a (ns.map V.int) → sp [.ref a] H (fun v _ => v = .bl true) fun _ _ _ => False) :
    codeAny (model P w) callerA (.call (.ref fa) ⟨[.ref a], []⟩)
      (fun r s' => r = .ok (.ret (.bool true)) ∧ OldK s₁.heap s'.heap ∧ s'.os = s₁.os ∧ AllBare s'.gens) s₁ := by
  have rv := vals_ints hi
  have lenV := hi.length
  have core : ∀ H : Hp, Only H → SqL K H a (ns.map V.int) → HOk P w H s₁.heap → (∀ b, H b ≠ none → b = a) → (H a ≠ none → K.lookup a = none) →
      codeAny (model P w) callerA (.call (.ref fa) ⟨[.ref a], []⟩)
        (fun r s' => r = .ok (.ret (.bool true)) ∧ OldK s₁.heap s'.heap ∧ s'.os = s₁.os ∧ AllBare s'.gens) s₁ := by
    intro H hO hS hok hA hK
    have only_a : ∀ {b : Addr} {u : HO}, H b = some u → b = a := fun {b u} q => hA b (by
      rw [q]
      simp)
    have noA : ∀ {b : Addr} {o : Obj} {es : Array DictEntry} {ep : Nat}, s₁.heap.get? b = some o → o.data = .dict es ep → H b = none := by
      intro b o es ep e d
      cases q : H b with
      | none => rfl
      | some u =>
        have e' := only_a q
        subst e'
        rw [ha] at e
        cases e
        have d' : Data.seq vs.toArray _ = Data.dict es ep := d
        cases d'
    have nsK : ∀ {b : Addr} {m : Str → Option Value}, s₁.heap.Ns b m → (hidT s₁.heap H).Ns b m := by
      rintro b m ⟨o, es, ep, e, d, r⟩
      exact ⟨o, es, ep, hidT_get e (noA e d), d, r⟩
    have hKb : K.In (hidT s₁.heap H) := by
      intro b o e
      refine hidT_get (KX b o e) ?_
      cases q : H b with
      | none => rfl
      | some u =>
        have e' := only_a q
        subst e'
        rw [hK (by rw [q]; simp)] at e
        cases e
    have hM : Mod K mg (hidT s₁.heap H) := by
      obtain ⟨mc, h1, h2⟩ := hlim
      exact ⟨hKb, nsK hns, ⟨mb, nsK hb, hbb⟩, ⟨mc, nsK h1, h2⟩⟩
    have e0 : Env0 P w K mg (hidT s₁.heap H) callerA [] s₁ H :=
      ⟨rfl, hM, fun b o e => of_hidT e, Nat.le_of_eq (hidT_size _ _), trivial,
        fun b hb => absurd (show b ∈ ([] : List Addr) from hb) (by simp), hok, .of_eq hg⟩
    have go := (F _ hKb (nsK hns)).run callerA [] s₁ H ⟨[.ref a], []⟩ [.ref a] [.ref a] _ _ hr rfl e0 (hbind s₁ (.ref a)) (.cons rfl .nil) (hsp H hO hS)
    refine codeAny_mono go fun r s' h => ?_
    cases r with
    | error e => cases h
    | ok fl =>
      cases fl with
      | next => cases h
      | brk => cases h
      | cont => cases h
      | ret u =>
        obtain ⟨v, H', os, bare, un, hok', r', q⟩ := h
        have q' : v = .bl true := q
        subst q'
        obtain rfl : u = Value.bool true := r'
        refine ⟨rfl, OldK.of_keep fun b o e => ?_, os, bare⟩
        cases q : H b with
        | none =>
          exact un.keep b o e q (fun z => absurd (show b ∈ ([] : List Addr) from z) (by simp)) (by simp)
        | some u =>
          rcases hO b with z | ⟨ob, xs, z⟩
          · rw [q] at z
            cases z
          · obtain ⟨e1, _⟩ := hok b _ z
            obtain ⟨e2, _⟩ := hok' b _ (un.frzs b ob _ z)
            rw [e] at e1
            cases e1
            exact e2
  cases hk : K.lookup a with
  | some o =>
    have e := KX a o hk
    rw [ha] at e
    cases e
    have sq : SqL K (fun _ => none) a (ns.map V.int) :=
      .inr ⟨_, vs.toArray, _, hk, rfl, rfl, rfl, by rw [List.size_toArray, lenV]; exact hl, by simpa using rv⟩
    exact core (fun _ => none) (fun _ => .inl rfl) sq (fun b u z => by cases z) (fun b z => absurd rfl z) fun z => absurd rfl z
  | none =>
    refine core (fun b => if b = a then some (.frz { cls := .type "list", data := .seq vs.toArray } (.lst (ns.map V.int))) else none)
      (fun b => ?_) (.inl (.inr ⟨{ cls := .type "list", data := .seq vs.toArray }, if_pos rfl⟩)) (fun b u z => ?_) (fun b z => ?_) fun _ => hk
    · by_cases hb : b = a
      · exact .inr ⟨_, _, if_pos hb⟩
      · exact .inl (if_neg hb)
    · by_cases hb : b = a
      · have z' := (if_pos hb).symm.trans z
        cases z'
        subst hb
        exact ⟨ha, by rw [List.length_map]; exact hl, vs, _, rv, ha⟩
      · have z' := (if_neg hb).symm.trans z
        cases z'
    · by_cases hb : b = a
      · exact hb
      · exact absurd (if_neg hb) z
theorem walk_ofG {l : PySem.W.OpenLaw} {n k : Nat} {q : Program} {loose : List Str} {XP : (Str → Option Value) → Heap → Prop} {YP : World → Heap → Prop} {d : DefRec} {K : Params → PySem.W.Frag} {sp : World → Sp} {x : Str}
    (hn : l.most = some n) (hn2 : n ≤ sizeLine) (hdf : d.params.defaults = []) (hr : Room k callerA) (hY : ∀ (w : World) (h : Heap), YP w h → (K w.params).In h)
    (F : ∀ (w : World) (mg : Str → Option Value) (fa : Addr) (h : Heap), (K w.params).In h → h.Ns mainGlobals mg → mg d.name = some (.ref fa) →
      ∃ fd : FuncData, (∀ (s : Shared) (u : Value), BindsTo s fd ⟨[u], []⟩ [(x, u)]) ∧
        ∀ base : Heap, (K w.params).In base → base.Ns mainGlobals mg → FnG l.prog w (K w.params) mg base k fa fd [x] (sp w))
    (hsp : ∀ (w : World) (H : Hp) (a : Addr) (ns : List Int), ns.length ≤ n → Only H → SqL (K w.params) H a (ns.map V.int) →
      sp w [.ref a] H (fun v _ => v = .bl true) fun _ _ _ => False) :
    PySem.W.WalkO q loose XP YP l.row.toRowW d [] (fun f vs => PySem.call f vs) := by
  refine Att.attach_call hn hdf fun w s₀ s₁ mg mb fa o pm cd doc a vs ns G Y ho hd hcd hmg hobj hints hlen hg => ?_
  obtain ⟨fd, hb, hF⟩ := F w mg fa _ (hY w _ Y) G.T.g hmg
  exact law_callG (hY w _ Y) G.T.g G.T.b G.T.builtins G.T.nolimit hg hobj hints (Nat.le_trans hlen hn2) hr hF hb
    (fun H hO hS => hsp w H a ns hlen hO hS)
end KS
namespace KS
open PySem PySem.Spec PyProof.Rows L2
/-! ### cells and plans -/
abbrev Cell := Int × Int
def CellAt (K : PySem.W.Frag) (H : Hp) (x : V) (c : Cell) : Prop := ∃ t, x = .ref t ∧ SqT K H t [.int c.1, .int c.2]
abbrev CellsAt (K : PySem.W.Frag) (H : Hp) : List V → List Cell → Prop := Paired (CellAt K H)
def lt2 (a b : Cell) : Prop := a.1 < b.1 ∨ (a.1 = b.1 ∧ a.2 < b.2)
def InGrid (c : Cell) : Prop := 0 ≤ c.1 ∧ c.1 ≤ 7 ∧ 0 ≤ c.2 ∧ c.2 ≤ 7
structure Good (cs : List Cell) : Prop where
  asc : cs.Pairwise lt2
  grid : ∀ c ∈ cs, InGrid c
  ne : cs ≠ []
/-- tuples are kept -/
def KT (K : PySem.W.Frag) (H H' : Hp) : Prop := ∀ a xs, SqT K H a xs → SqT K H' a xs
section
variable {K : PySem.W.Frag} {H H1 H2 H' : Hp}
theorem KT.trans (a : KT K H H1) (b : KT K H1 H2) : KT K H H2 := fun x xs h => b x xs (a x xs h)
theorem KT.of_same (a : Same H H1) : KT K H H1 := fun _ _ h => same_seqT a h
theorem KT.of_keepX {p : Addr} (hp : PoolO (H p)) (a : KeepX p H H1) : KT K H H1 := fun _ _ h => keepX_seqT hp a h
theorem KT.upd {e : Addr} {ys : List V} {o : HO} (h : H e = some (.lst ys)) : KT K H (upd H e o) := fun a xs q => by
  rcases q with (q | ⟨ob, q⟩) | q
  · exact .inl (.inl (by rw [upd_ne (ne_of q h (by intro z; cases z))]; exact q))
  · exact .inl (.inr ⟨ob, by rw [upd_ne (ne_of q h (by intro z; cases z))]; exact q⟩)
  · exact .inr q
theorem CellAt.kt {x : V} {c : Cell} (k : KT K H H') (h : CellAt K H x c) : CellAt K H' x c := by
  obtain ⟨t, e, q⟩ := h
  exact ⟨t, e, k _ _ q⟩
theorem cells_kt {xs : List V} {cs : List Cell} (k : KT K H H') (h : CellsAt K H xs cs) : CellsAt K H' xs cs := Paired.mono (fun _ _ q => q.kt k) h
end
theorem paired_append {α β : Type} {F : α → β → Prop} : ∀ {l₁ l₁' : List α} {l₂ l₂' : List β}, Paired F l₁ l₂ → Paired F l₁' l₂' → Paired F (l₁ ++ l₁') (l₂ ++ l₂')
  | _, _, _, _, .nil, h => h
  | _, _, _, _, .cons r t, h => .cons r (paired_append t h)
theorem paired_get {α β : Type} {F : α → β → Prop} : ∀ {l₁ : List α} {l₂ : List β} {i : Nat} {x : α}, Paired F l₁ l₂ → l₁[i]? = some x → ∃ y, l₂[i]? = some y ∧ F x y
  | _, _, _, _, .nil, h => by simp at h
  | _, _, 0, _, .cons r t, h => by
    simp at h
    subst h
    exact ⟨_, rfl, r⟩
  | _, _, i + 1, _, .cons r t, h => by
    simp at h
    obtain ⟨y, e, f⟩ := paired_get t h
    exact ⟨y, by simpa using e, f⟩
theorem paired_erase {α β : Type} {F : α → β → Prop} : ∀ {l₁ : List α} {l₂ : List β} (i : Nat), Paired F l₁ l₂ → Paired F (l₁.eraseIdx i) (l₂.eraseIdx i)
  | _, _, _, .nil => .nil
  | _, _, 0, .cons r t => t
  | _, _, i + 1, .cons r t => .cons r (paired_erase i t)
/-- the cells of one row -/
def rowCells (r c : Int) (n : Nat) : List Cell := (List.range n).map fun (s : Nat) => (r, c + (s : Int))
theorem rowCells_succ (r c : Int) (n : Nat) : rowCells r c (n + 1) = rowCells r c n ++ [(r, c + (n : Int))] := by
  unfold rowCells
  rw [List.range_succ, List.map_append]
  rfl
theorem rowCells_mem {r c : Int} {n : Nat} {x : Cell} (h : x ∈ rowCells r c n) : x.1 = r ∧ c ≤ x.2 ∧ x.2 < c + n := by
  unfold rowCells at h
  obtain ⟨s, hs, rfl⟩ := List.mem_map.mp h
  have := List.mem_range.mp hs
  refine ⟨rfl, ?_, ?_⟩ <;> show _ <;> simp <;> omega
theorem rowCells_asc (r c : Int) : ∀ n : Nat, (rowCells r c n).Pairwise lt2
  | 0 => List.Pairwise.nil
  | n + 1 => by
    rw [rowCells_succ, List.pairwise_append]
    refine ⟨rowCells_asc r c n, List.pairwise_singleton _ _, fun a ha b hb => ?_⟩
    obtain ⟨e1, e2, e3⟩ := rowCells_mem ha
    rw [List.mem_singleton] at hb
    subst hb
    exact .inr ⟨e1, e3⟩
theorem rowCells_len (r c : Int) (n : Nat) : (rowCells r c n).length = n := by
  unfold rowCells
  rw [List.length_map, List.length_range]
def PlanAt (K : PySem.W.Frag) (H : Hp) (a : Addr) (cs : List Cell) : Prop := ∃ xs, SqT K H a xs ∧ CellsAt K H xs cs
theorem PlanAt.kt {K : PySem.W.Frag} {H H' : Hp} {a : Addr} {cs : List Cell} (k : KT K H H') (h : PlanAt K H a cs) : PlanAt K H' a cs := by
  obtain ⟨xs, h1, h2⟩ := h
  exact ⟨xs, k _ _ h1, cells_kt k h2⟩
def spPlan (K : PySem.W.Frag) : Sp := fun vs H Q _ => ∃ (p : Addr) (m : Int), vs = [.ref p, .int m] ∧ PoolO (H p) ∧ 1 ≤ m ∧ m ≤ 24 ∧
  ∀ H' a cs, KeepX p H H' → PoolO (H' p) → PlanAt K H' a cs → Good cs → (cs.length : Int) ≤ m → H a = none → Q (.ref a) H'
/-- where _law_plan stands behind its first loop -/
structure PlSt (K : PySem.W.Frag) (p : Addr) (H : Hp) (m mode wide high top left : Int) (σ : L2.St) (H' : Hp) : Prop where
  ex : ∃ (e : Addr) (xs : List V) (cs : List Cell) (y8 y9 y10 : Option V),
    σ = [some (.ref p), some (.int m), some (.int mode), some (.int wide), some (.int high), some (.int top), some (.int left), some (.ref e), y8, y9, y10, none, none] ∧
    H e = none ∧ e ≠ p ∧ H' e = some (.lst xs) ∧ CellsAt K H' xs cs ∧ Good cs ∧ cs.length ≤ 64
  kx : KeepX p H H'
  po : PoolO (H' p)
/-- every = [spot for spot in every if ..] or every -/
def tFil (K : PySem.W.Frag) (tc : TT) : TS := tAsg (tOrT K (tLc (iList K (tVar 7)) (gName 12) tc (tVar 12) [12]) (tVar 7)) (gName 7)
theorem small64 {n : Nat} (h : n ≤ 64) : n < sizeLine := by
  rw [sizeLine_eq]
  omega
theorem fil_ok {K : PySem.W.Frag} {p : Addr} {H : Hp} {m mode wide high top left : Int} {tc : TT} {D : Ends} {σ : L2.St} {H' : Hp} (h : PlSt K p H m mode wide high top left σ H')
    (htc : ∀ (t : Addr) (c : Cell) (H2 : Hp) (R : Bool → Hp → Prop), SqT K H2 t [.int c.1, .int c.2] → PoolO (H2 p) → (∀ b H3, KeepX p H2 H3 → PoolO (H3 p) → R b H3) → tc (σ.set 12 (some (.ref t))) H2 R)
    (k : ∀ σ' H'', PlSt K p H m mode wide high top left σ' H'' → D.nx σ' H'') : tFil K tc D σ H' := by
  obtain ⟨⟨e, xs, cs, y8, y9, y10, rfl, he0, hep, he, hc, gd, hl⟩, kx, po⟩ := h
  have hlen := Paired.length hc
  refine ⟨_, rfl, e, rfl, ⟨_, SqL.of he⟩, fun d nd => ?_⟩
  have ned : e ≠ d := ne_of_none he nd
  have npd : p ≠ d := po.ne nd
  refine lc_list (K := K) (a := e) (xs := xs) (fun i H2 => ∃ (acc : List V) (cs' : List Cell), H2 d = some (.lst acc) ∧ CellsAt K H2 acc cs' ∧ cs'.Sublist (cs.take i) ∧
    KeepX p H H2 ∧ PoolO (H2 p) ∧ H2 e = some (.lst xs) ∧ CellsAt K H2 xs cs) ?_ ?_ ?_ ?_
  · have s1 := same_new (o := .lst []) nd
    refine ⟨[], [], upd_same, .nil, List.nil_sublist _, kx.trans (.of_same s1), po.same s1, s1 _ _ he, cells_kt (.of_same s1) hc⟩
  · rintro i H2 _ ⟨acc, cs', _, _, _, _, _, h6, _⟩
    exact SqL.of h6
  · rintro i x H2 hi ⟨acc, cs', h1, h2, h3, h4, h5, h6, h7⟩
    obtain ⟨c, hci, t, rfl, ht⟩ := paired_get h7 hi
    have hlt : i < cs.length := (List.getElem?_eq_some_iff.mp hci).1
    have tk : cs.take (i + 1) = cs.take i ++ [c] := by
      rw [List.take_add_one, hci]
      rfl
    refine ⟨rfl, htc t c H2 _ ht h5 (fun b H3 k3 p3 => ?_)⟩
    have q3 : KT K H2 H3 := KT.of_keepX h5 k3
    have hd3 : H3 d = some (.lst acc) := k3 _ _ (Ne.symm npd) h1
    have he3 : H3 e = some (.lst xs) := k3 _ _ hep h6
    have hal : acc.length ≤ 64 := by
      rw [Paired.length h2]
      exact Nat.le_trans h3.length_le (by rw [List.length_take]; omega)
    refine ite2 (fun _ => ?_) (fun _ => ?_)
    · refine ⟨_, rfl, acc, hd3, small64 hal, acc ++ [.ref t], cs' ++ [c], upd_same, ?_, ?_, ?_, ?_, ?_, ?_⟩
      · exact cells_kt (q3.trans (KT.upd hd3)) (paired_append h2 (.cons ⟨t, rfl, ht⟩ .nil))
      · rw [tk]
        exact List.Sublist.append h3 (List.Sublist.refl _)
      · intro b o n e2
        rw [upd_ne (fun z => by
          subst z
          have q := kx b o n e2
          rw [nd] at q
          cases q)]
        exact k3 _ _ n (h4 _ _ n e2)
      · rw [upd_ne npd]
        exact p3
      · rw [upd_ne ned]
        exact he3
      · exact cells_kt (q3.trans (KT.upd hd3)) h7
    · refine ⟨acc, cs', hd3, cells_kt q3 h2, ?_, h4.trans k3, p3, he3, cells_kt q3 h7⟩
      rw [tk]
      exact List.Sublist.trans h3 (List.sublist_append_left _ _)
  · rintro H2 ⟨acc, cs', h1, h2, h3, h4, h5, h6, h7⟩
    have h3' : cs'.Sublist cs := List.Sublist.trans h3 (List.take_sublist _ _)
    refine ⟨!acc.isEmpty, .inl ⟨acc, SqL.of h1, rfl⟩, ite2 (fun e1 => ?_) (fun e1 => ?_)⟩
    · refine k _ _ ⟨⟨d, acc, cs', y8, y9, y10, rfl, ?_, Ne.symm npd, h1, h2, ⟨gd.asc.sublist h3', fun c hc => gd.grid c (h3'.subset hc), ?_⟩, Nat.le_trans h3'.length_le hl⟩, h4, h5⟩
      · cases q : H d with
        | none => rfl
        | some o =>
          have z := kx d o (Ne.symm npd) q
          rw [nd] at z
          cases z
      · intro z
        subst z
        cases h2
        cases e1
    · exact ⟨_, rfl, k _ _ ⟨⟨e, xs, cs, y8, y9, y10, rfl, he0, hep, h6, h7, gd, hl⟩, h4, h5⟩⟩
end KS
namespace KS
open PySem PySem.Spec PyProof.Rows L2
abbrev tDr (tm : TE) : TE := tCall spDraw [] E0 (tCons (tVar 0) (tCons tm tNil))
abbrev rAdd : V → V → Hp → VK → Prop := rI0 fun i j => .int (i + j)
/-- if mode == 2: high, wide = 1 + draw(pool, 8), 1 + draw(pool, 8) -/
theorem par_if {p : Addr} {m mode wide high : Int} {σr : L2.St} {H2 : Hp} {D : Ends} (po : PoolO (H2 p)) (hw : 1 ≤ wide ∧ wide ≤ 8) (hh : 1 ≤ high ∧ high ≤ 8)
    (k : ∀ (wide' high' : Int) (H3 : Hp), KeepX p H2 H3 → PoolO (H3 p) → 1 ≤ wide' ∧ wide' ≤ 8 → 1 ≤ high' ∧ high' ≤ 8 → D.nx (some (.ref p) :: some (.int m) :: some (.int mode) :: some (.int wide') :: some (.int high') :: σr) H3) :
    tIfS (tTest (tOp rEq (tVar 2) (tC (.int 2)))) (tPar 4 3 (tCons (tOp rAdd (tC (.int 1)) (tDr (tC (.int 8)))) (tCons (tOp rAdd (tC (.int 1)) (tDr (tC (.int 8)))) tNil))) tNext D
      (some (.ref p) :: some (.int m) :: some (.int mode) :: some (.int wide) :: some (.int high) :: σr) H2 := by
  refine ⟨_, rfl, rfl, _, rfl, ite2 (fun e => ?_) (fun e => ?_)⟩
  · refine ⟨_, rfl, p, 8, rfl, po, by decide, by decide, fun H3 a k3 po3 a0 a1 => ?_⟩
    refine ⟨_, _, rfl, rfl, _, rfl, p, 8, rfl, po3, by decide, by decide, fun H4 b k4 po4 b0 b1 => ?_⟩
    exact ⟨_, _, rfl, rfl, _, _, rfl, k (1 + b) (1 + a) H4 (k3.trans k4) po4 ⟨by omega, by omega⟩ ⟨by omega, by omega⟩⟩
  · exact k wide high H2 (KeepX.refl _ _) po hw hh
/-- if mode == n: every = [spot for spot in every if ..] or every -/
theorem fil_if {K : PySem.W.Frag} {p : Addr} {H : Hp} {m mode wide high top left n : Int} {tc : TT} {D : Ends} {σ : L2.St} {H' : Hp} (h : PlSt K p H m mode wide high top left σ H')
    (htc : ∀ (t : Addr) (c : Cell) (H2 : Hp) (R : Bool → Hp → Prop), SqT K H2 t [.int c.1, .int c.2] → PoolO (H2 p) → (∀ b H3, KeepX p H2 H3 → PoolO (H3 p) → R b H3) → tc (σ.set 12 (some (.ref t))) H2 R)
    (k : ∀ σ' H'', PlSt K p H m mode wide high top left σ' H'' → D.nx σ' H'') : tIfS (tTest (tOp rEq (tVar 2) (tC (.int n)))) (tFil K tc) tNext D σ H' := by
  obtain ⟨e, xs, cs, y8, y9, y10, es, rest⟩ := h.ex
  refine ⟨.int mode, by rw [es]; rfl, rfl, _, rfl, ite2 (fun e => ?_) (fun e => ?_)⟩
  · exact fil_ok h htc k
  · exact k _ _ h
theorem draw_test {K : PySem.W.Frag} {p : Addr} {H : Hp} {m mode wide high top left n : Int} {σ : L2.St} {H' : Hp} (h : PlSt K p H m mode wide high top left σ H') (n0 : 0 < n) (n1 : n < 1073741824)
    (t : Addr) (c : Cell) (H2 : Hp) (R : Bool → Hp → Prop) (ht : SqT K H2 t [.int c.1, .int c.2]) (po : PoolO (H2 p)) (k : ∀ b H3, KeepX p H2 H3 → PoolO (H3 p) → R b H3) :
    tTest (tOp (rI0 fun i j => .bl (decide (i > j))) (tDr (tC (.int n))) (tC (.int 0))) (σ.set 12 (some (.ref t))) H2 R := by
  obtain ⟨e, xs, cs, y8, y9, y10, es, rest⟩ := h.ex
  subst es
  exact ⟨_, rfl, p, n, rfl, po, n0, n1, fun H3 r k3 po3 r0 r1 => ⟨_, _, rfl, rfl, _, rfl, k _ _ k3 po3⟩⟩
end KS
namespace KS
open PySem PySem.Spec PyProof.Rows L2
abbrev rSub : V → V → Hp → VK → Prop := rI0 fun i j => .int (i - j)
abbrev rLe : V → V → Hp → VK → Prop := rI0 fun i j => .bl (decide (i ≤ j))
theorem fil3_if {K : PySem.W.Frag} {p : Addr} {H : Hp} {m mode wide high top left : Int} {D : Ends} {σ : L2.St} {H' : Hp} (h : PlSt K p H m mode wide high top left σ H')
    (k : ∀ σ' H'', PlSt K p H m mode wide high top left σ' H'' → D.nx σ' H'') :
    tIfS (tTest (tOp rEq (tVar 2) (tC (.int 3)))) (tSeq (tAsg (tOp rAdd (tOp rAdd (tVar 5) (tVar 6)) (tDr (tC (.int 4)))) (gName 9))
      (tSeq (tAsg (tOp rSub (tOp rSub (tOp rAdd (tOp rAdd (tOp rAdd (tVar 5) (tVar 6)) (tVar 4)) (tVar 3)) (tC (.int 2))) (tDr (tC (.int 4)))) (gName 10))
      (tFil K (tTest (tChain rLe rLe (tVar 9) (tCB (rSumT K) (tCons (tVar 12) tNil)) (tVar 10)))))) tNext D σ H' := by
  obtain ⟨⟨e, xs, cs, y8, y9, y10, rfl, he0, hep, he, hc, gd, hl⟩, kx, po⟩ := id h
  refine ⟨_, rfl, rfl, _, rfl, ite2 (fun e => ?_) (fun e => ?_)⟩
  · refine ⟨_, rfl, _, rfl, _, _, rfl, rfl, _, rfl, p, 4, rfl, po, by decide, by decide, fun H1 a k1 po1 _ _ => ⟨_, _, rfl, rfl, ?_⟩⟩
    refine ⟨_, rfl, _, rfl, _, _, rfl, rfl, _, rfl, _, _, rfl, rfl, _, rfl, _, _, rfl, rfl, _, _, rfl, rfl, _, rfl, p, 4, rfl, po1, by decide, by decide, fun H2 b k2 po2 _ _ => ⟨_, _, rfl, rfl, ?_⟩⟩
    have k12 := k1.trans k2
    refine fil_ok (p := p) (H := H) (m := m) (mode := mode) (wide := wide) (high := high) (top := top) (left := left)
      ⟨⟨_, xs, cs, y8, _, _, rfl, he0, hep, k12 _ _ hep he, cells_kt (KT.of_keepX po k12) hc, gd, hl⟩, kx.trans k12, po2⟩ (fun t c H3 R ht p3 kk => ?_) k
    refine ⟨_, rfl, _, rfl, t, [c.1, c.2], rfl, ht, _, _, rfl, rfl, _, rfl, ite2 (fun e1 => ?_) (fun e1 => ?_)⟩
    · exact ⟨_, rfl, _, _, rfl, rfl, _, rfl, kk _ _ (KeepX.refl _ _) p3⟩
    · exact ⟨_, rfl, kk _ _ (KeepX.refl _ _) p3⟩
  · exact k _ _ h
end KS
namespace KS
open PySem PySem.Spec PyProof.Rows L2
theorem tyx_tup {K : PySem.W.Frag} {H : Hp} {a : Addr} {xs : List V} (h : SqT K H a xs) : TyX K H (.ref a) (.type "tuple") := by
  rcases h with (h | ⟨o, h⟩) | h
  · exact .base (.tup h)
  · exact .fTuple h
  · obtain ⟨o, its, n, e, c, r⟩ := h
    exact .kTuple e c
theorem bl_true {p : Prop} [Decidable p] (h : p) : V.bl (decide p) = V.bl true := by rw [decide_eq_true h]
theorem bl_false {p : Prop} [Decidable p] (h : ¬ p) : V.bl (decide p) = V.bl false := by rw [decide_eq_false h]
/-- a number of a row or column -/
def Place (v : Int) : Prop := 0 ≤ v ∧ v ≤ 7
def spWhole : Sp := fun vs H Q _ => ∃ i : Int, vs = [.int i] ∧ Q (.bl true) H
def spBetween : Sp := fun vs H Q _ => ∃ i lo hi : Int, vs = [.int i, .int lo, .int hi] ∧ lo ≤ i ∧ i ≤ hi ∧ Q (.bl true) H
def spPlace : Sp := fun vs H Q _ => ∃ i : Int, vs = [.int i] ∧ Place i ∧ Q (.bl true) H
def spIsCell (K : PySem.W.Frag) : Sp := fun vs H Q _ => ∃ (a : Addr) (c : Cell), vs = [.ref a] ∧ SqT K H a [.int c.1, .int c.2] ∧ InGrid c ∧ Q (.bl true) H
def spCheck (K : PySem.W.Frag) : Sp := fun vs H Q _ => ∃ (a : Addr) (cs : List Cell), vs = [.ref a] ∧ PlanAt K H a cs ∧ Good cs ∧ cs.length ≤ 24 ∧ ∀ H', Same H H' → Q .non H'
theorem good_step {cs : List Cell} (g : cs.Pairwise lt2) {i : Nat} {a b : Cell} (h1 : cs[i]? = some a) (h2 : cs[i + 1]? = some b) : lt2 a b := by
  obtain ⟨l1, e1⟩ := List.getElem?_eq_some_iff.mp h1
  obtain ⟨l2, e2⟩ := List.getElem?_eq_some_iff.mp h2
  have := (List.pairwise_iff_getElem.mp g) i (i + 1) l1 l2 (by omega)
  rw [e1, e2] at this
  exact this
theorem not_le2 {a b : Cell} (h : lt2 a b) : Ob.lexAt (fun j => decide (([b.1, b.2] : List Int).getD j 0 = ([a.1, a.2] : List Int).getD j 0)) (fun j => decide (([b.1, b.2] : List Int).getD j 0 ≤ ([a.1, a.2] : List Int).getD j 0)) (decide (([b.1, b.2] : List Int).length ≤ ([a.1, a.2] : List Int).length)) 0 (min ([b.1, b.2] : List Int).length ([a.1, a.2] : List Int).length) = false := by
  show Ob.lexAt _ _ _ 0 2 = false
  rw [Ob.lexAt_succ, Ob.lexAt_succ]
  show (if decide (b.1 = a.1) = true then (if decide (b.2 = a.2) = true then _ else decide (b.2 ≤ a.2)) else decide (b.1 ≤ a.1)) = false
  rcases h with h | ⟨h1, h2⟩
  · rw [if_neg (by simp; omega)]
    simp
    omega
  · rw [if_pos (by simp; omega), if_neg (by simp; omega)]
    simp
    omega
end KS
namespace KS
open PySem PySem.Spec PyProof.Rows L2
/-! ### f(k = v, ..), keywords alone -/
structure KwBinds (fd : FuncData) (ps ks : List Str) (g : List Value → List Value) (gV : List V → List V) : Prop where
  to : ∀ (s : Shared) (ws : List Value), (g ws).length = ps.length → BindsTo s fd ⟨[], ks.zip ws⟩ (ps.zip (g ws))
  rel : ∀ {zs : List V} {ws : List Value}, Vals zs ws → Vals (gV zs) (g ws)
def tCallKw (sp : Sp) (gV : List V → List V) (E : XK) (tk : TA) : TE := fun σ H Q => tk σ H fun zs H2 => sp (gV zs) H2 Q E
section
variable {X : Cx} {CX : CXT} {k : Nat} {f : Addr} {fd : FuncData} {ps ks : List Str} {sp : Sp} {E : XK} {x : Str} {p pos : Pos} {kws : List Keyword} {tk : TA} {g : List Value → List Value} {gV : List V → List V}
theorem pe_callKw (F : FnOk X.prog X.w X.K X.mg X.base CX k f fd ps sp) (hr : Room k X.A) (hg : Gl X x) (hm : X.mg x = some (.ref f)) (hk : PySem.W.keepIn X.K (.ref f) = true) (hb : KwBinds fd ps ks g gV)
    (hx : Passes CX X E) (hkw : PK X kws tk) (hall : (backToKw pos (keywordEach kws X.env)).all (·.1.isSome) = true := by rfl)
    (hks : (backToKw pos (keywordEach kws X.env)).filterMap (·.1) = ks := by rfl) (hdb : (x == ("__debug__" : Str)) = false := by decide)
    (hpl : ((backTo pos (starEach [] X.env)).any (·.1) || (backToKw pos (keywordEach kws X.env)).any (·.1.isNone)) = false := by rfl) :
    PE X (.Call (.Name x p) [] kws pos) (tCallKw sp gV E tk) := by
  refine ⟨fun pins s σ H Q I h => wpAny_Call_Name_kw (ld_glob I hg hm ?_ hdb)⟩
  refine PySem.W.callWith_KW0 (h₀ := X.base) I.ok.mod.kin hk hall ?_ hpl
  refine thn (hkw.run pos pins s σ H _ I h) fun ws s2 hh => ?_
  obtain ⟨zs, H2, I2, rz, q2⟩ := hh
  refine ⟨I2.kIn, ?_⟩
  rw [hks]
  have r2 := hb.rel rz
  have hl : (g ws).length = ps.length := by
    rw [← r2.length]
    exact F.len _ _ _ _ q2
  show wpAny _ _ (call (.ref f) [] (ks.zip ws)) _ _ _
  refine wpAny_call (codeAny_mono (F.run X.A X.stack s2 H2 ⟨[], ks.zip ws⟩ (g ws) (gV zs) Q E hr I2.env0 (hb.to s2 ws hl) r2 q2) fun z s' hq => ?_)
  cases z with
  | error e => exact hx pins σ H2 s2 e s' I2 hq
  | ok fl =>
    cases fl with
    | ret u => exact I2.after hq
    | next => cases hq
    | brk => cases hq
    | cont => cases hq
end
theorem kw_binds {K : PySem.W.Frag} {x qual : Str} {st : Stmt} {f : Addr} {fd : FuncData} {ps ks : List Str} {g : List Value → List Value} {gV : List V → List V} (F : Fun K x qual st f fd)
    (h : ∀ (kV doc pm : Value) (an : Option Addr) (cdv ct : Value) (ws : List Value), (g ws).length = ps.length →
      bindArgs (PySem.W.fnOf x qual (defArgs st) (defBody st) (defScope st) .none kV doc pm an cdv ct) ⟨[], ks.zip ws⟩ = pure (ps.zip (g ws)))
    (rel : ∀ {zs : List V} {ws : List Value}, Vals zs ws → Vals (gV zs) (g ws)) : KwBinds fd ps ks g gV := by
  obtain ⟨oc, od, kV, doc, pm, an, cdv, ct, osl, rfl, lk, hcd⟩ := F.ex
  exact ⟨fun s ws hl => .of_eq (h kV doc pm an cdv ct ws hl), rel⟩
/-- two keywords, in the other order -/
def swap2 {α : Type} : List α → List α
  | [a, b] => [b, a]
  | _ => []
theorem swap2_rel {zs : List V} {ws : List Value} (r : Vals zs ws) : Vals (swap2 zs) (swap2 ws) := by
  cases r with
  | nil => exact .nil
  | cons r1 r2 =>
    cases r2 with
    | nil => exact .nil
    | cons r3 r4 =>
      cases r4 with
      | nil => exact .cons r3 (.cons r1 .nil)
      | cons _ _ => exact .nil
/-! ### lines, as numbers -/
/-- row (false) or column (true) of a cell -/
def pick (b : Bool) (c : Cell) : Int := if b = true then c.2 else c.1
/-- the indexes below i of cells in line r -/
def idxs (b : Bool) (cs : List Cell) (i : Nat) (r : Int) : List Int := ((List.range i).filter fun j => decide ((cs[j]?).map (pick b) = some r)).map fun (j : Nat) => (j : Int)
theorem idxs_zero (b : Bool) (cs : List Cell) (r : Int) : idxs b cs 0 r = [] := rfl
theorem idxs_hit {b : Bool} {cs : List Cell} {i : Nat} {c : Cell} (h : cs[i]? = some c) : idxs b cs (i + 1) (pick b c) = idxs b cs i (pick b c) ++ [(i : Int)] := by
  unfold idxs
  rw [List.range_succ, List.filter_append, List.map_append]
  congr 1
  rw [List.filter_cons_of_pos (by simp [h])]
  rfl
theorem idxs_miss {b : Bool} {cs : List Cell} {i : Nat} {c : Cell} {r : Int} (h : cs[i]? = some c) (n : pick b c ≠ r) : idxs b cs (i + 1) r = idxs b cs i r := by
  unfold idxs
  rw [List.range_succ, List.filter_append, List.map_append]
  rw [List.filter_cons_of_neg (by simp [h, n])]
  simp
def lnsOf (b : Bool) (cs : List Cell) : List (List Int) := ((List.range 8).map fun (r : Nat) => idxs b cs cs.length (r : Int)).filter fun l => decide (l ≠ [])
theorem idxs_mem {b : Bool} {cs : List Cell} {i : Nat} {r x : Int} (h : x ∈ idxs b cs i r) : 0 ≤ x ∧ x < (i : Int) := by
  unfold idxs at h
  obtain ⟨j, hj, rfl⟩ := List.mem_map.mp h
  have := List.mem_range.mp (List.mem_filter.mp hj).1
  omega
theorem idxs_len (b : Bool) (cs : List Cell) (i : Nat) (r : Int) : (idxs b cs i r).length ≤ i := by
  unfold idxs
  rw [List.length_map]
  exact Nat.le_trans (List.length_filter_le _ _) (by simp)
theorem idxs_grid {b : Bool} {cs : List Cell} {i : Nat} {r : Int} (g : ∀ c ∈ cs, InGrid c) (h : idxs b cs i r ≠ []) : 0 ≤ r ∧ r < 8 := by
  cases e : idxs b cs i r with
  | nil => exact absurd e h
  | cons x l =>
    have hx : x ∈ idxs b cs i r := by
      rw [e]
      exact List.mem_cons_self
    unfold idxs at hx
    obtain ⟨j, hj, rfl⟩ := List.mem_map.mp hx
    have q := of_decide_eq_true (List.mem_filter.mp hj).2
    cases z : cs[j]? with
    | none =>
      rw [z] at q
      cases q
    | some c =>
      rw [z] at q
      have q' : pick b c = r := Option.some.inj q
      have gc := g c (List.mem_of_getElem? z)
      unfold pick at q'
      unfold InGrid at gc
      split at q' <;> omega
/-- two strictly ascending lists with the same members are one -/
theorem asc_ext : ∀ {l m : List Int}, l.Pairwise (· < ·) → m.Pairwise (· < ·) → (∀ x, x ∈ l ↔ x ∈ m) → l = m
  | [], [], _, _, _ => rfl
  | [], y :: m, _, _, h => absurd ((h y).mpr List.mem_cons_self) (by simp)
  | x :: l, [], _, _, h => absurd ((h x).mp List.mem_cons_self) (by simp)
  | x :: l, y :: m, h1, h2, h => by
    rw [List.pairwise_cons] at h1 h2
    have e : x = y := by
      rcases List.mem_cons.mp ((h x).mp List.mem_cons_self) with z | z
      · exact z
      · rcases List.mem_cons.mp ((h y).mpr List.mem_cons_self) with z2 | z2
        · exact z2.symm
        · have a := h2.1 x z
          have b := h1.1 y z2
          omega
    subst e
    congr 1
    refine asc_ext h1.2 h2.2 fun z => ⟨fun hz => ?_, fun hz => ?_⟩
    · rcases List.mem_cons.mp ((h z).mp (List.mem_cons_of_mem _ hz)) with e | e
      · have := h1.1 z hz
        omega
      · exact e
    · rcases List.mem_cons.mp ((h z).mpr (List.mem_cons_of_mem _ hz)) with e | e
      · have := h2.1 z hz
        omega
      · exact e
theorem strict_of {l : List Int} (h : l.Pairwise (· ≤ ·)) (n : l.Nodup) : l.Pairwise (· < ·) := by
  rw [List.nodup_iff_pairwise_ne] at n
  exact (h.and n).imp fun {a b} q => by omega
/-- the lines in use, by number -/
def usedOf (b : Bool) (cs : List Cell) : List Int := ((List.range 8).map fun (r : Nat) => (r : Int)).filter fun r => decide (idxs b cs cs.length r ≠ [])
theorem used_asc (b : Bool) (cs : List Cell) : (usedOf b cs).Pairwise (· < ·) := by
  unfold usedOf
  exact List.Pairwise.sublist List.filter_sublist (by decide)
theorem used_lines (b : Bool) (cs : List Cell) : (usedOf b cs).map (fun r => idxs b cs cs.length r) = lnsOf b cs := by
  unfold usedOf lnsOf
  rw [List.filter_map, List.filter_map, List.map_map]
  rfl
theorem used_mem {b : Bool} {cs : List Cell} (g : ∀ c ∈ cs, InGrid c) (r : Int) : r ∈ usedOf b cs ↔ idxs b cs cs.length r ≠ [] := by
  unfold usedOf
  rw [List.mem_filter]
  refine ⟨fun h => of_decide_eq_true h.2, fun h => ⟨?_, decide_eq_true h⟩⟩
  have := idxs_grid g h
  rw [List.mem_map]
  exact ⟨r.toNat, List.mem_range.mpr (by omega), by omega⟩
/-! ### lines, in the heap -/
def TupI (K : PySem.W.Frag) (H : Hp) (x : V) (l : List Int) : Prop := ∃ t, x = .ref t ∧ SqT K H t (l.map V.int)
def LstI (H : Hp) (x : V) (l : List Int) : Prop := ∃ t, x = .ref t ∧ H t = some (.lst (l.map V.int))
abbrev lineD (l : List Int) : PyData := .tuple (l.map PyData.int)
abbrev linesD (ls : List (List Int)) : PyData := .tuple (ls.map lineD)
theorem dp_ints {K : PySem.W.Frag} {H : Hp} : ∀ l : List Int, DpAll K H (l.map V.int) (l.map PyData.int)
  | [] => .nil
  | x :: l => .cons (.int x) (dp_ints l)
theorem dp_lines {K : PySem.W.Frag} {H : Hp} : ∀ {xs : List V} {ls : List (List Int)}, Paired (TupI K H) xs ls → DpAll K H xs (ls.map lineD)
  | _, _, .nil => .nil
  | _, _, .cons ⟨t, e, h⟩ r => by
    subst e
    exact .cons (.tup h (dp_ints _)) (dp_lines r)
theorem tupI_kt {K : PySem.W.Frag} {H H' : Hp} (k : KT K H H') {xs : List V} {ls : List (List Int)} (h : Paired (TupI K H) xs ls) : Paired (TupI K H') xs ls :=
  Paired.mono (fun _ _ ⟨t, e, q⟩ => ⟨t, e, k _ _ q⟩) h
def spIsKind : Sp := fun vs H Q _ => ∃ b : Bool, vs = [.str (if b = true then "C" else "R")] ∧ ∀ H', Same H H' → Q (.bl true) H'
def spKind : Sp := fun vs H Q _ => ∃ b : Bool, vs = [.str (if b = true then "C" else "R")] ∧ ∀ H', Same H H' → Q .non H'
def spLines (K : PySem.W.Frag) : Sp := fun vs H Q _ => ∃ (a : Addr) (b : Bool) (cs : List Cell), vs = [.ref a, .str (if b = true then "C" else "R")] ∧ PlanAt K H a cs ∧ Good cs ∧ cs.length ≤ 24 ∧
  ∀ H' p xs, Same H H' → SqT K H' p xs → Paired (TupI K H') xs (lnsOf b cs) → Q (.ref p) H'
def spLawLines (K : PySem.W.Frag) : Sp := fun vs H Q _ => ∃ (a : Addr) (b : Bool) (cs : List Cell), vs = [.ref a, .str (if b = true then "C" else "R")] ∧ PlanAt K H a cs ∧ cs.length ≤ 24 ∧
  ∀ H' p xs, Same H H' → H' p = some (.lst xs) → Paired (LstI H') xs (lnsOf b cs) → Q (.ref p) H'
end KS
namespace KS
open PySem PySem.Spec PyProof.Rows L2
/-- 0 if kind == "R" else 1 -/
theorem side_ok {b : Bool} {σ : L2.St} {H : Hp} {Q : VK} (hσ : σ[1]? = some (some (.str (if b = true then "C" else "R")))) (k : Q (.int (if b = true then 1 else 0)) H) :
    tIf (tTest (tOp rEq (tVar 1) (tC (.str "R")))) (tC (.int 0)) (tC (.int 1)) σ H Q := by
  refine ⟨_, hσ, by cases b <;> rfl, _, rfl, ?_⟩
  cases b
  · rw [if_pos (by decide +kernel)]
    exact k
  · rw [if_neg (by decide +kernel)]
    exact k
theorem at_pick {b : Bool} {c : Cell} : atI [V.int c.1, V.int c.2] (if b = true then 1 else 0) = some (V.int (pick b c)) := by
  cases b <;> rfl
/-- the dict of lines behind i cells -/
structure Grp (b : Bool) (cs : List Cell) (i : Nat) (d : Addr) (kvs : List (Key × V)) (ad : Int → Addr) (H : Hp) : Prop where
  dict : H d = some (.dK kvs)
  keys : ∃ ks : List Int, kvs.map (·.1) = ks.map Sum.inl ∧ ks.Nodup ∧ ks.length ≤ i
  val : ∀ r : Int, valV kvs (.inl r) = if idxs b cs i r = [] then none else some (.ref (ad r))
  lst : ∀ r : Int, idxs b cs i r ≠ [] → H (ad r) = some (.lst ((idxs b cs i r).map V.int))
  inj : ∀ r r' : Int, idxs b cs i r ≠ [] → idxs b cs i r' ≠ [] → ad r = ad r' → r = r'
theorem Grp.same {b : Bool} {cs : List Cell} {i : Nat} {d : Addr} {kvs : List (Key × V)} {ad : Int → Addr} {H H' : Hp} (g : Grp b cs i d kvs ad H) (s : Same H H') : Grp b cs i d kvs ad H' :=
  ⟨s _ _ g.dict, g.keys, g.val, fun r h => s _ _ (g.lst r h), g.inj⟩
theorem Grp.more {b : Bool} {cs : List Cell} {i : Nat} {d : Addr} {kvs : List (Key × V)} {ad : Int → Addr} {H : Hp} {c : Cell} (g : Grp b cs i d kvs ad H) (hc : cs[i]? = some c) (h : idxs b cs i (pick b c) ≠ []) :
    Grp b cs (i + 1) d kvs ad (upd H (ad (pick b c)) (.lst ((idxs b cs i (pick b c)).map V.int ++ [.int (i : Nat)]))) := by
  have same : ∀ r, (idxs b cs (i + 1) r = []) ↔ (idxs b cs i r = []) := fun r => by
    by_cases e : pick b c = r
    · subst e
      rw [idxs_hit hc]
      simp [h]
    · rw [idxs_miss hc e]
  have hd : d ≠ ad (pick b c) := ne_of g.dict (g.lst _ h) (by intro z; cases z)
  obtain ⟨ks, k1, k2, k3⟩ := g.keys
  refine ⟨by rw [upd_ne hd]; exact g.dict, ⟨ks, k1, k2, by omega⟩, fun r => ?_, fun r hr => ?_, fun r r' h1 h2 => g.inj r r' (fun z => h1 ((same r).mpr z)) (fun z => h2 ((same r').mpr z))⟩
  · rw [g.val r]
    by_cases e : idxs b cs i r = []
    · rw [if_pos e, if_pos ((same r).mpr e)]
    · rw [if_neg e, if_neg (fun z => e ((same r).mp z))]
  · have hr' : idxs b cs i r ≠ [] := fun z => hr ((same r).mpr z)
    by_cases e : pick b c = r
    · subst e
      rw [upd_same, idxs_hit hc, List.map_append]
      rfl
    · rw [upd_ne (fun z => e (g.inj _ _ h hr' z.symm)), idxs_miss hc e]
      exact g.lst r hr'
theorem Grp.new {b : Bool} {cs : List Cell} {i : Nat} {d z : Addr} {kvs : List (Key × V)} {ad : Int → Addr} {H : Hp} {c : Cell} (g : Grp b cs i d kvs ad H) (hc : cs[i]? = some c) (h : idxs b cs i (pick b c) = []) (nz : H z = none) :
    Grp b cs (i + 1) d (putK kvs (.inl (pick b c)) (.ref z)) (fun r => if r = pick b c then z else ad r) (upd (upd (upd H z (.lst [])) d (.dK (putK kvs (.inl (pick b c)) (.ref z)))) z (.lst ([] ++ [.int (i : Nat)]))) := by
  have hv : valV kvs (.inl (pick b c)) = none := by
    rw [g.val, if_pos h]
  have hdz : d ≠ z := ne_of_none g.dict nz
  have hput : putK kvs (Sum.inl (pick b c)) (V.ref z) = kvs ++ [(Sum.inl (pick b c), V.ref z)] := by
    unfold putK
    rw [if_neg]
    rw [valV_any, hv]
    simp
  have hit : idxs b cs (i + 1) (pick b c) = [(i : Int)] := by
    rw [idxs_hit hc, h]
    rfl
  obtain ⟨ks, k1, k2, k3⟩ := g.keys
  refine ⟨?_, ⟨ks ++ [pick b c], ?_, ?_, ?_⟩, fun r => ?_, fun r hr => ?_, fun r r' h1 h2 => ?_⟩
  · rw [upd_ne hdz, upd_same]
  · rw [hput, List.map_append, List.map_append, k1]
    rfl
  · rw [List.nodup_append]
    refine ⟨k2, by simp, fun x hx y hy e => ?_⟩
    rw [List.mem_singleton] at hy
    subst hy
    subst e
    apply valV_not hv
    rw [k1]
    exact List.mem_map.mpr ⟨_, hx, rfl⟩
  · rw [List.length_append]
    simp
    omega
  · rw [valV_put]
    by_cases e : r = pick b c
    · subst e
      rw [if_pos rfl, hit, if_neg (by simp), if_pos rfl]
    · rw [if_neg (fun q => e (Sum.inl.inj q)), g.val, idxs_miss hc (Ne.symm e), if_neg e]
  · by_cases e : r = pick b c
    · subst e
      show upd _ _ _ (if _ then z else _) = _
      rw [if_pos rfl, upd_same, hit]
      rfl
    · show upd _ _ _ (if _ then z else _) = _
      rw [if_neg e]
      rw [idxs_miss hc (Ne.symm e)] at hr ⊢
      have hl := g.lst r hr
      rw [upd_ne (ne_of_none hl nz), upd_ne (ne_of hl g.dict (by intro q; cases q)), upd_ne (ne_of_none hl nz)]
      exact hl
  · intro e
    by_cases e1 : r = pick b c
    · by_cases e2 : r' = pick b c
      · rw [e1, e2]
      · have e' : (if r = pick b c then z else ad r) = (if r' = pick b c then z else ad r') := e
        rw [if_pos e1, if_neg e2] at e'
        rw [idxs_miss hc (Ne.symm e2)] at h2
        have := g.lst r' h2
        rw [← e', nz] at this
        cases this
    · have e' : (if r = pick b c then z else ad r) = (if r' = pick b c then z else ad r') := e
      rw [idxs_miss hc (Ne.symm e1)] at h1
      by_cases e2 : r' = pick b c
      · rw [if_neg e1, if_pos e2] at e'
        have := g.lst r h1
        rw [e', nz] at this
        cases this
      · rw [if_neg e1, if_neg e2] at e'
        rw [idxs_miss hc (Ne.symm e2)] at h2
        exact g.inj r r' h1 h2 e'
/-- the sorted keys are the lines in use -/
theorem Grp.used {b : Bool} {cs : List Cell} {d : Addr} {kvs : List (Key × V)} {ad : Int → Addr} {H : Hp} {ks ys : List Int} (g : Grp b cs cs.length d kvs ad H) (gr : ∀ c ∈ cs, InGrid c) (e : kvs.map (·.1) = ks.map Sum.inl) (n : ks.Nodup) (p : ys.Perm ks) (s : ys.Pairwise (· ≤ ·)) : ys = usedOf b cs := by
  refine asc_ext (strict_of s (p.nodup_iff.mpr n)) (used_asc b cs) fun r => ?_
  rw [p.mem_iff, used_mem gr]
  have key : r ∈ ks ↔ (Sum.inl r : Key) ∈ kvs.map (·.1) := by
    rw [e, List.mem_map]
    exact ⟨fun h => ⟨r, h, rfl⟩, fun ⟨x, hx, q⟩ => by cases q; exact hx⟩
  rw [key]
  constructor
  · intro h z
    have hv : valV kvs (.inl r) = none := by rw [g.val, if_pos z]
    exact valV_not hv h
  · intro h
    exact valV_in (v := .ref (ad r)) (by rw [g.val, if_neg h])
end KS
namespace KS
open PySem PySem.Spec PyProof.Rows L2
theorem ints_lay : ∀ l : List Int, PyData.canLayAll0 (l.map PyData.int) = true ∧ PyData.depthAll (l.map PyData.int) = 0
  | [] => ⟨by simp only [List.map_nil, PyData.canLayAll0], by simp only [List.map_nil, PyData.depthAll]⟩
  | x :: l => by
    obtain ⟨h1, h2⟩ := ints_lay l
    simp only [List.map_cons, PyData.canLayAll0, PyData.depthAll, PyData.canLay0, PyData.depth, h1, h2, Bool.and_self, Nat.max_self, and_self]
theorem ints_shaped (l : List Int) : SeqAt.shaped (.list (l.map PyData.int)) = true := by
  obtain ⟨h1, h2⟩ := ints_lay l
  unfold SeqAt.shaped
  simp only [PyData.canLay0, PyData.depth, h1, h2]
  decide
theorem ints_eqv_nil (l : List Int) : PyData.eqv (.list (l.map PyData.int)) (.list []) = l.isEmpty := by
  cases l with
  | nil => decide
  | cons x l => rfl
theorem kind_test (b : Bool) : decide (V.str (if b = true then "C" else "R") = V.str "C") = b := by
  cases b <;> decide +kernel
/-- the lines below r that are in use -/
def lnsTo (b : Bool) (cs : List Cell) (r : Nat) : List (List Int) := ((List.range r).map fun (r : Nat) => idxs b cs cs.length (r : Int)).filter fun l => decide (l ≠ [])
theorem lnsTo_hit {b : Bool} {cs : List Cell} {r : Nat} (h : idxs b cs cs.length (r : Int) ≠ []) : lnsTo b cs (r + 1) = lnsTo b cs r ++ [idxs b cs cs.length (r : Int)] := by
  unfold lnsTo
  rw [List.range_succ, List.map_append, List.filter_append]
  congr 1
  rw [List.map_cons, List.filter_cons_of_pos (by simpa using h)]
  rfl
theorem lnsTo_miss {b : Bool} {cs : List Cell} {r : Nat} (h : idxs b cs cs.length (r : Int) = []) : lnsTo b cs (r + 1) = lnsTo b cs r := by
  unfold lnsTo
  rw [List.range_succ, List.map_append, List.filter_append, List.map_cons, List.filter_cons_of_neg (by simp [h])]
  simp
theorem lnsTo_len (b : Bool) (cs : List Cell) (r : Nat) : (lnsTo b cs r).length ≤ r := by
  unfold lnsTo
  exact Nat.le_trans (List.length_filter_le _ _) (by simp)
end KS
namespace PySem
namespace HandSPX
open PySem.W PySem.Calls PyProof.Rows
/-! ### type.__call__ on such a class: BaseException.__new__, then the own __init__ -/
section
variable {M : Model} {A : Around} {E : Value → Shared → Prop} {h : Heap} {g : Array GenState} {d : Drawn} {t : Nat} {os : OsState}
variable {nm q : Str} {C N : Addr} {bs bm bmB : List Value} {hdct : Bool} {sn : List Str} {sub : List Value} {ab : Bool} {col : Option Bool} {dd : Option Addr} {k0 k1 k2 k3 k5 : Option Value} {B newId initId : String}

theorem check_new_kw (F : ExcBaseFacts B newId initId bmB) (hT : ∀ X : String, bm.contains (.type X) = bmB.contains (.type X)) {rest : List Value} {kw : List (Str × Value)} {Q : Unit → Shared → Prop}
    (hC : h.get? C = some (excClassObj nm q C N bs bm hdct sn sub ab col dd k0 k1 k2 k3 k5 newId)) (hq : Q () ⟨h, g, d, t, os⟩) : wpAny M A (checkBuiltinCall newId ⟨.ref C :: rest, kw⟩) Q E ⟨h, g, d, t, os⟩ := by
  have hcont : (Value.ref C :: bm).contains (.type B) = true := by rw [List.contains_cons, hT, F.hasB, Bool.or_true]
  have hstar := F.noStar
  simp only [checkBuiltinCall, F.newKind, F.newSplit, F.newRow]
  repeat (first | refine wpAny_loadPart_at hC ?_ | (refine wpAny_isSubtype_exc hC ?_; rw [hcont]) | refine wpAny_staticBase_exc hC ?_ | refine wpAny_madeBy_exc hC ?_ | simp only [bne_self_eq_false, Bool.false_eq_true, if_false] | wp_step)
  exact hq
end

section
variable {prog : Program} {w : World} {A : Around} {E : Value → Shared → Prop} {R : Result → Shared → Prop} {h : Heap} {g : Array GenState} {d : Drawn} {t : Nat} {os : OsState}
variable {nm q : Str} {C N : Addr} {bs bm bmB : List Value} {hdct : Bool} {sn : List Str} {sub : List Value} {ab : Bool} {col : Option Bool} {dd : Option Addr} {k0 k1 k2 k3 k5 : Option Value} {B newId initId : String}

theorem new_kw (F : ExcBaseFacts B newId initId bmB) (hT : ∀ X : String, bm.contains (.type X) = bmB.contains (.type X)) {rest : List Value} {kw : List (Str × Value)}
    (hC : h.get? C = some (excClassObj nm q C N bs bm hdct sn sub ab col dd k0 k1 k2 k3 k5 newId))
    (hq : R (.ok (.ret (.ref (h.objs.size + 1)))) ⟨(h.push { cls := .type "tuple", data := .seq rest.toArray }).push
      { cls := .ref C, data := .fields #[.ref h.objs.size, .none, .none, .none, .bool false, .none] }, g, d, t, os⟩) (hrest : rest.length ≤ sizeLine) :
    codeAny (model prog w) A (.builtin newId ⟨.ref C :: rest, kw⟩) R ⟨h, g, d, t, os⟩ := by
  have hends := F.ends
  have hcB : (Value.ref C :: bm).contains (.type B) = true := by rw [List.contains_cons, hT, F.hasB, Bool.or_true]
  have hcA : (Value.ref C :: bm).contains (.type "AttributeError") = false := by rw [List.contains_cons, hT, F.noAttr]; rfl
  have hcN : (Value.ref C :: bm).contains (.type "NameError") = false := by rw [List.contains_cons, hT, F.noName]; rfl
  refine codeAny_builtinAt F.entry ?_
  unfold Builtin.«BaseException.__new__»
  refine wpAt_bind ?_
  show wpAt _ _ _ (stack >>= _) _ _ _
  refine wpAt_bind (wpAt_stack fun p below => wpAt_of_wpAny ?_)
  wp_walk
  refine wpAt_of_wpAny ?_
  rw [F.owner]
  repeat (first | with_reducible refine wpAny_madeHere_exc F.canon hC ?_ | with_reducible refine wpAny_loadPart_at hC ?_ | (with_reducible refine wpAny_isSubtype_exc hC ?_; first | rw [hcB] | rw [hcA] | rw [hcN]) | wp_step)
  show R _ _
  rw [Heap.size_push]
  exact hq

theorem type_call_kw (F : ExcBaseFacts B newId initId bmB) (hT : ∀ X : String, bm.contains (.type X) = bmB.contains (.type X)) {rest : List Value} {kw : List (Str × Value)} {fI : Addr} {Q : Fin → Shared → Prop}
    (hC : h.get? C = some (excClassObj nm q C N bs bm hdct sn sub ab col dd k0 k1 k2 k3 k5 newId))
    (hi : W.Looks (model prog w) h (typeLookup (.ref C) "__init__") (some (.ref fI))) (hb : ∀ self, W.Looks (model prog w) h (bindSpecial (.ref fI) self) (.ref fI, [self])) (hrest : rest.length ≤ sizeLine)
    (hq : codeAny (model prog w) A (.call (.ref fI) ⟨.ref (h.objs.size + 1) :: rest, kw⟩)
      (fun r s' => match r with | .ok (.ret v) => v = .none ∧ Q (.done (.ret (.ref (h.objs.size + 1)))) s' | .ok _ => False | .error e => E e s')
      ⟨(h.push (W.kdv_tup rest)).push (excO C h.objs.size), g, d, t, os⟩) :
    wpAny (model prog w) A (Builtin.«type.__call__» ⟨.ref C :: rest, kw⟩) Q E ⟨h, g, d, t, os⟩ := by
  repeat (first | with_reducible refine wpAny_loadPart_at hC ?_ | with_reducible refine wpAny_madeBy_exc hC ?_ | wp_step)
  refine codeAny_call_builtin_code (Code.quiet_builtin _ F.quiet) (check_new_kw F hT hC ?_)
  refine new_kw F hT hC ?_ hrest
  show wpAny _ _ _ _ _ _
  have k : ∀ b o, h.get? b = some o → ((h.push (W.kdv_tup rest)).push (excO C h.objs.size)).get? b = some o := fun b o e => Heap.get?_push_of_some _ (Heap.get?_push_of_some _ e)
  have hC₁ := k _ _ hC
  have hget : ((h.push (W.kdv_tup rest)).push (excO C h.objs.size)).get? (h.objs.size + 1) = some (excO C h.objs.size) := by heap_get
  have hcC : (Value.ref C :: bm).contains (.ref C) = true := by simp
  have i1 := hi.keeps k
  have b1 := (hb (.ref (h.objs.size + 1))).keeps k
  unfold isInstance
  repeat (first | with_reducible refine wpAny_loadPart_at hget ?_ | (with_reducible refine wpAny_isSubtype_exc hC₁ ?_; rw [hcC]) | wp_step)
  show wpAny _ _ (typeLookup (.ref C) _) _ _ _
  refine i1.at ?_
  refine wpAny_holding (wpAny_bind (b1.at ?_))
  refine wpAny_bind (wpAny_call (codeAny_mono hq fun r s' z => ?_))
  rcases r with e | (v | _ | _ | _) <;> first | exact z | exact z.elim | skip
  obtain ⟨rfl, z⟩ := z
  first
    | exact wpAny_pure (wpAny_pure z)
    | (wp_walk; exact z)

theorem call_kw (F : ExcBaseFacts B newId initId bmB) (hT : ∀ X : String, bm.contains (.type X) = bmB.contains (.type X)) {rest : List Value} {kw : List (Str × Value)} {fI : Addr}
    (hC : h.get? C = some (excClassObj nm q C N bs bm hdct sn sub ab col dd k0 k1 k2 k3 k5 newId))
    (hi : W.Looks (model prog w) h (typeLookup (.ref C) "__init__") (some (.ref fI))) (hb : ∀ self, W.Looks (model prog w) h (bindSpecial (.ref fI) self) (.ref fI, [self])) (hrest : rest.length ≤ sizeLine)
    (hq : codeAny (model prog w) (A.under (.builtin "type.__call__" ⟨.ref C :: rest, kw⟩)) (.call (.ref fI) ⟨.ref (h.objs.size + 1) :: rest, kw⟩) (W.InitBack (h.objs.size + 1) R)
      ⟨(h.push (W.kdv_tup rest)).push (excO C h.objs.size), g, d, t, os⟩) :
    codeAny (model prog w) A (.call (.ref C) ⟨rest, kw⟩) R ⟨h, g, d, t, os⟩ := by
  have f1 := tc_lookup
  have f2 := tc_bind (.ref C)
  have hTy : (⟨h, g, d, t, os⟩ : Shared).TypeIs (.ref C) "type" := ⟨_, hC, rfl⟩
  refine codeAny_of_tree ?_
  show wpAny _ _ (callAny (.ref C) _) _ _ _
  repeat (any_goals (first | assumption | with_reducible refine wpAny_loadPart_at hC ?_ | wp_step))
  refine ⟨rfl, ?_⟩
  refine codeAny_call_builtin_at (Code.quiet_builtin _ (by decide +kernel)) entry_typeCall (wpAny_check_type_call_sub hC (type_call_kw F hT hC hi hb hrest ?_))
  refine codeAny_mono hq fun r s' z => ?_
  rcases r with e | (v | _ | _ | _) <;> exact z

end
end HandSPX
end PySem
namespace PySem
namespace HandSPX
open Builtin Builtin.ObjectAttr
section
variable {prog : Program} {w : World} {A : Around} {E : Value → Shared → Prop} {R : Result → Shared → Prop} {hp : Heap} {g : Array GenState} {d : Drawn} {t : Nat} {os : OsState}
theorem exc_osaG {K : W.Frag} {name : Str} {tk : Tok} {v : Value} {x C : Addr} {fv : Array Value} {cd : ClassData}
    (X : K.In hp) (hx : hp.get? x = some { cls := .ref C, data := .fields fv }) (hcd : W.clsIn K C = some cd) (hp0 : ∀ self, refuseLoop self "__setattr__" cd.mro = pure ()) (ne : cd.mro.isEmpty = false) (hob : cd.mro.contains (.type "object") = true) (hh : cd.hasDict = true) (ha : W.findIn K (.ref C) name = some none)
    (hq : ∀ h' tk' dx, (∀ b o, b ≠ x → hp.get? b = some o → h'.get? b = some o) → hp.objs.size ≤ dx → dx ≠ x → h'.get? x = some { cls := .ref C, dict := some dx, data := .fields fv } →
      h'.Ns1 dx (fun y => if y = name then some v else none) → R (.ok (.ret .none)) ⟨h', g, d, tk', os⟩) :
    codeAny (model prog w) A (.call (.builtin "object.__setattr__") ⟨[.ref x, .str name tk, v], []⟩) R ⟨hp, g, d, t, os⟩ := by
  have I : W.InstAt hp x { cls := .ref C, data := .fields fv } C none := ⟨hx, rfl, rfl, trivial⟩
  have SF := F.store_object
  have hxs : x ≠ hp.objs.size := Nat.ne_of_lt (Heap.lt_size hx)
  have sub : W.Looks (model prog w) hp (isInstance (.ref x) (.type "object")) true := I.type.andThen (W.looks_mroIn X (by unfold W.mroIn; rw [hcd, Option.bind_some, if_neg (by rw [ne]; decide), hob]))
  refine codeAny_call_builtin SF.slot.plain SF.entry (@W.check_slot (model prog w) _ _ ⟨hp, g, d, t, os⟩ "object.__setattr__" "object" "__setattr__" (.ref x) [.str name tk, v] [] _ SF.kind SF.split sub (SF.args (.ref x) (.str name tk) v) ?_)
  have hmr : W.Looks (model prog w) hp (mroOf (.ref C)) cd.mro := (W.looks_clsIn X hcd).andThen .now
  have L3 : W.Looks (model prog w) hp (storeTaker? none) none := .now
  have hcls : W.Looks (model prog w) hp (classData C) cd := W.looks_clsIn X hcd
  rw [W.osa_eq, refuse_eq]
  refine wpAny_bind (wpAny_bind (I.type.at (wpAny_bind (hmr.at ?_))))
  rw [hp0]
  refine wpAny_pure (wpAny_bind (I.type.at (wpAny_bind ((W.looks_findIn X ha).at (wpAny_bind (L3.at ?_))))))
  show wpAny _ _ (storeInOwnDict (.ref x) (.ref C) (.str name tk) name v false) _ _ _
  obtain ⟨nm, bs, mro, ns, qn, hd, sn, sb, ab, col, del⟩ := cd
  dsimp only at hh
  subst hh
  unfold storeInOwnDict ownDictForStores
  repeat (first | with_reducible refine store_in_new ?_ ?_ | with_reducible refine wpAny_loadPart_at hx ?_ | with_reducible refine hcls.at ?_ | wp_step)
  · exact ⟨_, #[], _, (Heap.get?_update_ne _ _ _ _ hxs.symm).trans (Heap.get?_push_at rfl rfl), rfl, fun e he => absurd he (by simp), fun _ => rfl⟩
  · intro h' tk' hn' hs
    have hx₁ : (hp.push { cls := .type "dict", data := .dict #[] }).get? x = some { cls := .ref C, data := .fields fv } := Heap.get?_push_of_some _ hx
    refine hq h' tk' hp.objs.size (fun b o hb ho => ?_) (Nat.le_refl _) hxs.symm ?_ hn'
    · exact (hs.2 b (Nat.ne_of_lt (Heap.lt_size ho))).trans ((Heap.get?_update_ne _ _ _ _ hb).trans (Heap.get?_push_of_some _ ho))
    · exact (hs.2 x hxs).trans (Heap.get?_update_self _ hx₁ rfl)
end
end HandSPX
end PySem
namespace KS
open PySem PySem.Spec PyProof.Rows L2
/-- own classes above a built-in one -/
structure TailOk (bm bmB : List Value) : Prop where
  pass : ∀ self, refuseLoop self "__setattr__" bm = pure ()
  has : ∀ Y : String, bm.contains (.type Y) = bmB.contains (.type Y)
  obj : bmB.contains (.type "object") = true
theorem TailOk.one {B : String} {bmB : List Value} {sa owner : String} (S : Addr) (F : StoreFacts B bmB sa owner) (ho : bmB.contains (.type "object") = true) : TailOk (.ref S :: bmB) bmB :=
  ⟨fun self => by rw [refuseLoop_ref]; exact F.passes self, fun Y => by rw [List.contains_cons]; rfl, ho⟩
/-- what the written part says of an own class of exceptions, over any built-in one -/
structure OexB (K : PySem.W.Frag) (C : Addr) : Prop where
  cls : ∃ (B newId initId : String) (bmB : List Value), ∃ nm q N bs bm sn sub ab col dd k0 k1 k2 k3 k5, ExcBaseFacts B newId initId bmB ∧ K.lookup C = some (excClassObj nm q C N bs bm true sn sub ab col dd k0 k1 k2 k3 k5 newId) ∧ TailOk bm bmB
  sa : PySem.W.findIn K (.ref C) "__setattr__" = some (some (.builtin "object.__setattr__"))
  kC : PySem.W.keepIn K (.ref C) = true
section
variable {X : Cx} {pins : List (Addr × Obj)} {σ : L2.St} {H : Hp} {s : Shared} {A : Around} {E : Value → Shared → Prop} {a C : Addr} {f : Str} {y : V} {u : Value} {Q : Unit → Shared → Prop}
theorem ost_newG (T : OexB X.K C) (I : Inv X pins σ H s) (e : H a = some (exo a C none)) (hno : PySem.W.findIn X.K (.ref C) f = some none) (ry : RelV y u)
    (h : ∀ dx s', H dx = none → dx ≠ a → Inv X pins σ (upd (upd H dx (exd dx [(f, y)])) a (exo a C (some dx))) s' → Q () s') : wpAny (model X.prog X.w) A (setAttr (.ref a) f u) Q E s := by
  obtain ⟨B, newId, initId, bmB, nm, q, N, bs, bm, sn, sub, ab, col, dd, k0, k1, k2, k3, k5, FB, hC, hbm⟩ := T.cls
  have hcl : PySem.W.clsIn X.K C = some { name := nm, bases := bs, mro := .ref C :: bm, ns := N, qualname := q, hasDict := true, slotNames := sn, subclasses := sub, abstract := ab, collection := col, hasDel := false } := by unfold PySem.W.clsIn; rw [hC] <;> rfl
  obtain ⟨t1, ho⟩ := exo_at I.hok e
  obtain ⟨hp, g, d, t, os⟩ := s
  refine PySem.W.set_plain I.kIn (ox := { cls := .ref C, dict := none, data := .fields #[.ref t1, .none, .none, .none, .bool false, .none] }) (od := none) ⟨ho, rfl, rfl, trivial⟩ T.sa ?_
  refine PySem.HandSPX.exc_osaG I.kIn ho hcl (fun self => (by show PySem.refuseLoop self "__setattr__" (.ref C :: bm) = pure (); rw [PySem.refuseLoop_ref]; exact hbm.pass self)) rfl (by show (Value.ref C :: bm).contains (.type "object") = true; rw [List.contains_cons, hbm.has, hbm.obj, Bool.or_true]) rfl hno (fun h' tk' dx k dn dne hx hn => ?_)
  have hnd : H dx = none := I.hok.fresh dn
  have nd : ∀ {b : Addr} {o : Obj}, hp.get? b = some o → b ≠ dx := fun {b o} q => Nat.ne_of_lt (Nat.lt_of_lt_of_le (Heap.lt_size q) dn)
  have na : ∀ {b : Addr}, H b = none → b ≠ a := fun {b} n z => by
    rw [z, e] at n
    cases n
  have Un1 : Un X.fs [] H (upd (upd H dx (exd dx [(f, y)])) a (exo a C (some dx))) hp h' := {
    keep := fun b o q n _ _ => k b o (na n) q
    slot := fun b o q n _ _ => ⟨o.slots, k b o (na n) q⟩
    free := fun b o q n _ => by rw [upd_ne (na n), upd_ne (nd q)]; exact n
    there := fun b o q _ => by
      by_cases hb : b = a
      · exact ⟨_, by rw [hb]; exact hx⟩
      · exact ⟨o, k b o hb q⟩
    tups := fun b xs q => by rw [upd_ne (at_ne e q exo_tup), upd_ne (ne_of_none q hnd)]; exact q
    frzs := fun b o v q => by rw [upd_ne (at_ne e q exo_frz), upd_ne (ne_of_none q hnd)]; exact q
    tbls := fun b ps q => ⟨#[], by rw [upd_ne (at_ne e q exo_tbl), upd_ne (ne_of_none q hnd), q]; simp⟩ }
  refine h dx _ hnd dne (I.un (t' := tk') Un1 fun b o q => ?_)
  by_cases hb : b = a
  · subst hb
    rw [upd_same] at q
    cases q
    exact exo_ok hx
  · rw [upd_ne hb] at q
    by_cases hd : b = dx
    · subst hd
      rw [upd_same] at q
      cases q
      exact exd_ok hn (relO_put (fs := []) ry fun g => True.intro)
    · rw [upd_ne hd] at q
      exact (I.hok b o q).stay (fun c v hc z => k c v (by
          rcases hc with hc | hc
          · rw [hc]
            exact hb
          · exact at_ne e hc exo_own) z)
        (fun c hc => by rw [upd_ne (at_ne e hc exo_own), upd_ne (ne_of_none hc hnd)]; exact hc) (fun c xs hc => by rw [upd_ne (at_ne e hc exo_tup), upd_ne (ne_of_none hc hnd)]; exact hc)
/-- self.f = e, the first field -/
def tOstG (K : PySem.W.Frag) (f : Str) (to te : TE) : TS := fun D σ H => te σ H fun y H1 => to σ H1 fun x H2 => ∃ a C : Addr, x = .ref a ∧ OexB K C ∧ PySem.W.findIn K (.ref C) f = some none ∧ H2 a = some (exo a C none) ∧
  ∀ dx, H2 dx = none → dx ≠ a → D.nx σ (upd (upd H2 dx (exd dx [(f, y)])) a (exo a C (some dx)))
theorem ps_ostG {o e : Expr} {to te : TE} {p' pos : Pos} (ho : PE X o to) (he : PE X e te) (hs : swapsWith e (some (.Attribute o f p')) pos.line X.env = pure false := by rfl) : PS X (.Assign [.Attribute o f p'] e pos) (tOstG X.K f to te) := by
  refine ⟨fun pins s σ H D I h => ?_⟩
  refine plainObj_wpAny_Assign_Attribute (thn (he.run pins s σ H _ I h) fun v s1 ⟨y, H1, I1, r1, q1⟩ => thn (ho.run pins s1 σ H1 _ I1 q1) fun u s2 ⟨x, H2, I2, r2, a, C, ex, T, hno, ea, q⟩ => ?_) hs
  subst ex
  obtain rfl : u = Value.ref a := r2
  exact ost_newG T I2 ea hno r1 fun dx s' n ne J => ⟨σ, _, J, q dx n ne⟩
end
/-- what such an __init__ keeps -/
def spIni (K : PySem.W.Frag) (f : Str) : Sp := fun vs H Q _ => ∃ (a C : Addr) (v : V), vs = [.ref a, v] ∧ OexB K C ∧ PySem.W.findIn K (.ref C) f = some none ∧ H a = some (exo a C none) ∧ ∀ dx, H dx = none → dx ≠ a → Q .non (upd (upd H dx (exd dx [(f, v)])) a (exo a C (some dx)))
/-- C(e), C(f = e): a new error with its field -/
def tMkX (C : Addr) (f : Str) (ta : TA) : TE := fun σ H Q => ta σ H fun vs H1 => ∃ v, vs = [v] ∧ ∀ a d, H1 a = none → H1 d = none → d ≠ a → Q (.ref a) (upd (upd H1 d (exd d [(f, v)])) a (exo a C (some d)))
section
variable {X : Cx} {k : Nat} {fI C : Addr} {fd : FuncData} {ps : List Str} {x f : Str} {p pos : Pos} {e : Expr}
theorem mkx_run {pins : List (Addr × Obj)} {σ : L2.St} {H1 : Hp} {s1 : Shared} {Q : VK} {us : List Value} {kw : List (Str × Value)} {v : V} {u : Value} (T : OexB X.K C) (iC : PySem.W.findIn X.K (.ref C) "__init__" = some (some (.ref fI))) (tI : PySem.W.typeIn X.K (.ref fI) = some (.type "function")) (nf : PySem.W.findIn X.K (.ref C) f = some none)
    (F1 : FnOk X.prog X.w X.K X.mg X.base CX0 k fI fd ps (spIni X.K f)) (hr : Room (k + 1) X.A) (hb : ∀ (s : Shared) (r : Value), X.K.In s.heap → BindsTo s fd ⟨r :: us, kw⟩ (ps.zip [r, u])) (hus : us.length ≤ 1)
    (I1 : Inv X pins σ H1 s1) (rv : RelV v u) (q1 : ∀ a d, H1 a = none → H1 d = none → d ≠ a → Q (.ref a) (upd (upd H1 d (exd d [(f, v)])) a (exo a C (some d)))) :
    wpAny (model X.prog X.w) X.A (call (.ref C) us kw) (EP X pins σ Q) X.xe s1 := by
  obtain ⟨B, newId, initId, bmB, nm, q, N, bs, bm, sn, sub, ab, col, dd, k0, k1, k2, k3, k5, FB, hC, hbm⟩ := T.cls
  obtain ⟨hp, g, dr, tk, os⟩ := s1
  have hsz : hp.objs.size ≤ hp.objs.size + 1 := Nat.le_succ _
  have hn : H1 (hp.objs.size + 1) = none := I1.hok.fresh hsz
  have kk : ∀ b o, hp.get? b = some o → ((hp.push (PySem.W.kdv_tup us)).push (PySem.HandSPX.excO C hp.objs.size)).get? b = some o := fun b o e => Heap.get?_push_of_some _ (Heap.get?_push_of_some _ e)
  have hget : ((hp.push (PySem.W.kdv_tup us)).push (PySem.HandSPX.excO C hp.objs.size)).get? (hp.objs.size + 1) = some (PySem.HandSPX.excO C hp.objs.size) := by heap_get
  have I2 : Inv X pins σ (upd H1 (hp.objs.size + 1) (exo (hp.objs.size + 1) C none)) ⟨(hp.push (PySem.W.kdv_tup us)).push (PySem.HandSPX.excO C hp.objs.size), g, dr, tk, os⟩ :=
    I1.laid (t' := tk) (a := hp.objs.size + 1) (o := exo (hp.objs.size + 1) C none) (h' := (hp.push (PySem.W.kdv_tup us)).push (PySem.HandSPX.excO C hp.objs.size)) kk hsz (exo_ok hget)
  have r2 : Vals [V.ref (hp.objs.size + 1), v] [Value.ref (hp.objs.size + 1), u] := .cons rfl (.cons rv .nil)
  have hsz2 : us.length ≤ sizeLine := Nat.le_trans hus (by rw [sizeLine_eq]; omega)
  have hq : spIni X.K f [V.ref (hp.objs.size + 1), v] (upd H1 (hp.objs.size + 1) (exo (hp.objs.size + 1) C none)) (fun x H2 => x = .non ∧ Q (.ref (hp.objs.size + 1)) H2) (fun _ _ _ => False) := by
    refine ⟨_, C, v, rfl, T, nf, upd_same, fun dx nx ne => ⟨rfl, ?_⟩⟩
    have nd : H1 dx = none := by rwa [upd_ne ne] at nx
    have e : upd (upd (upd H1 (hp.objs.size + 1) (exo (hp.objs.size + 1) C none)) dx (exd dx [(f, v)])) (hp.objs.size + 1) (exo (hp.objs.size + 1) C (some dx)) =
        upd (upd H1 dx (exd dx [(f, v)])) (hp.objs.size + 1) (exo (hp.objs.size + 1) C (some dx)) := by
      funext b
      by_cases h1 : b = hp.objs.size + 1
      · rw [h1, upd_same, upd_same]
      · rw [upd_ne h1, upd_ne h1]
        by_cases h2 : b = dx
        · rw [h2, upd_same, upd_same]
        · rw [upd_ne h2, upd_ne h2, upd_ne h1]
    rw [e]
    exact q1 _ dx hn nd ne
  refine wpAny_call (PySem.HandSPX.call_kw FB hbm.has (I1.kIn _ _ hC) (PySem.W.looks_findIn I1.kIn iC) (fun self => PySem.W.bind_fn I1.kIn self tI) hsz2
    (codeAny_mono (F1.run _ X.stack _ _ ⟨Value.ref (hp.objs.size + 1) :: us, kw⟩ [Value.ref (hp.objs.size + 1), u] _ _ (fun _ _ _ => False) (hr.make C us kw) (I2.env0.make C us kw) (hb _ _ I2.kIn) r2 hq) fun r s' hq' => ?_))
  cases r with
  | error er => exact (show False from hq').elim
  | ok fl =>
    cases fl with
    | ret u2 =>
      obtain ⟨w2, H2, J, rv2, ew, q2⟩ := I2.after hq'
      subst ew
      exact ⟨rv2, .ref (hp.objs.size + 1), H2, J, rfl, q2⟩
    | next => exact False.elim hq'
    | brk => exact False.elim hq'
    | cont => exact False.elim hq'
end
end KS
namespace KS
open PySem PySem.Spec PyProof.Rows L2
/-- an own error class with one field, at C -/
structure XIni (P : Program) (w : World) (K : PySem.W.Frag) (mg : Str → Option Value) (base : Heap) (x f : Str) (C : Addr) : Prop where
  T : OexB K C
  mC : mg x = some (.ref C)
  nf : PySem.W.findIn K (.ref C) f = some none
  xf : XfC K C
  ec : ExcC K C
  ini : ∃ fI fd, PySem.W.findIn K (.ref C) "__init__" = some (some (.ref fI)) ∧ PySem.W.typeIn K (.ref fI) = some (.type "function") ∧ FnOk P w K mg base CX0 1 fI fd ["self", f] (spIni K f) ∧
    (∀ (s : Shared) (r u : Value), K.In s.heap → BindsTo s fd ⟨[r, u], []⟩ [("self", r), (f, u)]) ∧ (∀ (s : Shared) (r u : Value), K.In s.heap → BindsTo s fd ⟨[r], [(f, u)]⟩ [("self", r), (f, u)])
/-- a new error with its field -/
def tMk1 (C : Addr) (f : Str) (te : TE) : TE := fun σ H Q => te σ H fun v H1 => ∀ a d, H1 a = none → H1 d = none → d ≠ a → Q (.ref a) (upd (upd H1 d (exd d [(f, v)])) a (exo a C (some d)))
def tMk1k (C : Addr) (f : Str) (tk : TA) : TE := fun σ H Q => tk σ H fun vs H1 => ∃ v, vs = [v] ∧ ∀ a d, H1 a = none → H1 d = none → d ≠ a → Q (.ref a) (upd (upd H1 d (exd d [(f, v)])) a (exo a C (some d)))
section
variable {X : Cx} {C : Addr} {x f : Str} {p pos : Pos} {e : Expr} {te : TE}
theorem pe_mk1 (J : XIni X.prog X.w X.K X.mg X.base x f C) (hr : Room 2 X.A) (hg : Gl X x) (he : PE X e te) (hs : starEach [e] X.env = (false, eval e X.env) :: starEach [] X.env := by rfl) (hdb : (x == ("__debug__" : Str)) = false := by decide) :
    PE X (.Call (.Name x p) [e] [] pos) (tMk1 C f te) := by
  refine ⟨fun pins s σ H Q I h => ?_⟩
  refine wpAny_Call_Name_kw (ld_glob I hg J.mC ?_ hdb)
  refine PySem.W.callWith_K (h₀ := X.base) I.ok.mod.kin J.T.kC ?_ hs (by rfl)
  rw [hs]
  show wpAny _ _ (spliced ((false, eval e X.env) :: backTo pos (starEach [] X.env))) _ _ s
  refine Calls.spliced_cons (thn (he.run pins s σ H _ I h) fun u s1 ⟨v, H1, I1, r1, q1⟩ => ?_)
  refine Calls.spliced_nil ⟨I1.kIn, ?_⟩
  obtain ⟨fI, fd, iC, tI, F1, b1, _⟩ := J.ini
  exact mkx_run J.T iC tI J.nf F1 hr (fun s r k => b1 s r u k) (Nat.le_refl 1) I1 r1 q1
theorem pe_mk1k {kws : List Keyword} {tk : TA} (J : XIni X.prog X.w X.K X.mg X.base x f C) (hr : Room 2 X.A) (hg : Gl X x) (hkw : PK X kws tk) (hall : (backToKw pos (keywordEach kws X.env)).all (·.1.isSome) = true := by rfl)
    (hks : (backToKw pos (keywordEach kws X.env)).filterMap (·.1) = [f] := by rfl) (hdb : (x == ("__debug__" : Str)) = false := by decide)
    (hpl : ((backTo pos (starEach [] X.env)).any (·.1) || (backToKw pos (keywordEach kws X.env)).any (·.1.isNone)) = false := by rfl) :
    PE X (.Call (.Name x p) [] kws pos) (tMk1k C f tk) := by
  refine ⟨fun pins s σ H Q I h => wpAny_Call_Name_kw (ld_glob I hg J.mC ?_ hdb)⟩
  refine PySem.W.callWith_KW0 (h₀ := X.base) I.ok.mod.kin J.T.kC hall ?_ hpl
  refine thn (hkw.run pos pins s σ H _ I h) fun ws s2 hh => ?_
  obtain ⟨zs, H2, I2, rz, v, ez, q2⟩ := hh
  refine ⟨I2.kIn, ?_⟩
  rw [hks]
  subst ez
  cases rz with
  | @cons _ u _ ur r1 rr =>
    cases rr
    obtain ⟨fI, fd, iC, tI, F1, _, b2⟩ := J.ini
    show wpAny _ _ (call (.ref C) [] [(f, u)]) _ _ _
    exact mkx_run J.T iC tI J.nf F1 hr (fun s r k => b2 s r u k) (by decide) I2 r1 q2
/-- an own error class without an own __init__ -/
structure XBare (K : PySem.W.Frag) (mg : Str → Option Value) (x : Str) (C : Addr) : Prop where
  mC : mg x = some (.ref C)
  kC : PySem.W.keepIn K (.ref C) = true
  ec : ExcC K C
  cls : ∃ (B newId initId : String) (bmB : List Value), ExcBaseFacts B newId initId bmB ∧ PySem.W.excIn K C bmB newId = true
def tMk0 (C : Addr) : TE := fun σ H Q => ∀ a, H a = none → Q (.ref a) (upd H a (exo a C none))
theorem pe_mk0 (J : XBare X.K X.mg x C) (hg : Gl X x) (hdb : (x == ("__debug__" : Str)) = false := by decide) : PE X (.Call (.Name x p) [] [] pos) (tMk0 C) := by
  refine ⟨fun pins s σ H Q I h => ?_⟩
  obtain ⟨B, newId, initId, bmB, F, q⟩ := J.cls
  refine wpAny_Call_Name_kw (ld_glob I hg J.mC ?_ hdb)
  refine PySem.W.callWith_K0 I.kIn J.kC ?_
  show wpAny _ _ (call (.ref C) []) _ _ _
  obtain ⟨bm, N, nm, qn, bs, hdct, sn, sub, ab, col, dd, k0, k1, k2, k3, k5, mN, hC, hN, hni, T⟩ := exc_obj I.kIn q
  refine wpAny_call_exc_subT F T hC hN hni (fun h' a hm => ?_) (by show 0 ≤ sizeLine; rw [sizeLine_eq]; omega)
  have hn : H a = none := I.hok.gone hm.new
  obtain ⟨t, ht, _, _⟩ := hm.there
  exact ⟨.ref a, upd H a (exo a C none), I.laidN hm.keeps hm.new hn (exo_ok ht), rfl, h a hn⟩
end
/-- the def __init__ of a class: its one def -/
def iniOf (s : Stmt) : Stmt := match s with
  | .ClassDef _ _ _ (x :: _) _ _ _ _ _ _ _ => x
  | _ => s
section
variable {P : Program} {w : World} {K : PySem.W.Frag} {mg : Str → Option Value} {base : Heap}
theorem ok_ini {q f : Str} {st : Stmt} {fI : Addr} {fd : FuncData} {p1 p2 p3 p4 : Pos} (F : Fun K "__init__" q st fI fd) (S : FnScope ["self", f] ["self", f] (defScope st))
    (hb : defBody st = [.Assign [.Attribute (.Name "self" p1) f p2] (.Name f p3) p4]) (l0 : (defScope st).names.lookup ("self" : Str) = some NameKind.local) (l1 : (defScope st).names.lookup f = some NameKind.local)
    (hd : (f == ("__debug__" : Str)) = false) (hc : (f == ("__classdict__" : Str)) = false) : FnOk P w K mg base CX0 1 fI fd ["self", f] (spIni K f) := by
  refine F.ok S (fun vs H Q E h => ?_) (fun cdv A outer s H vs Q E hr h => ?_)
  · obtain ⟨a, C, v, rfl, _⟩ := h
    rfl
  · obtain ⟨a, C, v, rfl, T, nf, ea, q⟩ := h
    have nd := S.nd
    rw [hb]
    refine ⟨_, pss_one (ps_ostG (pe_var (i := 0) rfl (.inl l0)) (pe_var (i := 1) rfl (.inl l1) hd hc)), ?_⟩
    exact ⟨_, rfl, _, rfl, a, C, rfl, T, nf, ea, fun dx nx ne => q dx nx ne⟩
end
end KS
namespace KS
open PySem PySem.Spec PyProof.Rows L2
def topS (i : Nat) : Stmt := PySem.Challenge.pw_keepsort_k84_limits_and_errors.main.body.getD i (.Pass ⟨0, 0, 0, 0⟩)
abbrev sCell : Stmt := topS 33
abbrev sPool : Stmt := topS 34
abbrev sDraw : Stmt := topS 35
theorem scCell : FnScope ["_law_script", "_law_k", "_law_state", "_law_figure"] ["_law_script", "_law_k"] (defScope sCell) := ⟨rfl, rfl, rfl, by decide +kernel, rfl, by decide +kernel, by decide +kernel⟩
theorem scPool : FnScope ["_law_figure", "_law_digits"] ["_law_figure"] (defScope sPool) := ⟨rfl, rfl, rfl, by decide +kernel, rfl, by decide +kernel, by decide +kernel⟩
theorem scDraw : FnScope ["_law_pool_here", "_law_most", "_law_state", "_law_digit"] ["_law_pool_here", "_law_most"] (defScope sDraw) := ⟨rfl, rfl, rfl, by decide +kernel, rfl, by decide +kernel, by decide +kernel⟩
section
variable {P : Program} {w : World} {K : PySem.W.Frag} {mg : Str → Option Value} {base : Heap}
theorem ok_cell {f : Addr} {fd : FuncData} (F : Fun K "_law_cell" "_law_cell" sCell f fd) (ml : mg "len" = none) : FnOk P w K mg base CX0 1 f fd ["_law_script", "_law_k"] (spCell K) := by
  refine F.ok scCell (fun vs H Q E h => ?_) (fun cdv A outer s H vs Q E hr h => ?_)
  · obtain ⟨a, ns, k, rfl, _⟩ := h
    rfl
  · obtain ⟨a, ns, k, rfl, hS, hk, q⟩ := h
    refine ⟨_, pss_cons (ps_if (pt_cmpR op_lt (pv 1) (pe_callB call_len_seq (by rfl) ml PySem.boot_len (pa_cons (pv 0) pa_nil)) (nomark _))
        (pss_one (ps_ret (pe_ix ix_list (pv 0) (pv 1) (fun _ _ => rfl)))) pss_nil)
      (pss_cons (ps_set (i := 2) scCell.nd rfl (.inl rfl) (pe_op op_mod (pe_op op_mul pe_int (pe_op op_add (pe_op op_add (pe_op op_mul (pv 1) (pv 1)) (pe_op op_mul pe_int (pv 1))) pe_int)) pe_int))
      (pss_cons (ps_for PassesOwn.never rfl (pi_list (pe_slice sl_list (pv 0) po_none (po_some pe_int))) (pg_name (i := 3) scCell.nd rfl (.inl rfl))
        (pss_one (ps_set (i := 2) scCell.nd rfl (.inl rfl) (pe_op op_mod (pe_op op_add (pe_op op_mul (pv 2) pe_int) (pv 3)) pe_int))))
      (pss_one (ps_ret (pv 2))))), ?_⟩
    refine ⟨_, rfl, _, rfl, a, ns.map V.int, rfl, .inl hS, _, _, rfl, rfl, _, rfl, ite2 (fun e => ?_) (fun e => ?_)⟩
    · have e0 : (k : Int) < ((ns.map V.int).length : Int) := of_decide_eq_true e
      rw [List.length_map] at e0
      have hj : k < ns.length := by omega
      refine ⟨_, rfl, _, rfl, a, _, _, .int ns[k], rfl, rfl, hS, atI_nat (j := k) ?_, q H _ (Same.refl H)⟩
      rw [List.getElem?_map, List.getElem?_eq_getElem hj]
      rfl
    · refine ⟨_, rfl, _, rfl, _, _, rfl, rfl, .inl ⟨by omega, by omega⟩, _, rfl, _, _, rfl, rfl, .inl ⟨by omega, by omega⟩, _, _, rfl, rfl, _, _, rfl, rfl, _, _, rfl, rfl, .inl ⟨by omega, by omega⟩, _, _, rfl, rfl, by show (0 : Int) < 2147483249; decide, ?_⟩
      refine ⟨_, rfl, 3, rfl, a, _, rfl, hS, fun c nc => ?_⟩
      have s1 := same_new (o := .lst (cutV (ns.map V.int) none (some 3))) nc
      have hc : SqL K (upd H c (.lst (cutV (ns.map V.int) none (some 3)))) c (cutV (ns.map V.int) none (some 3)) := SqL.of upd_same
      refine ⟨c, rfl, ⟨_, hc⟩, for_list (K := K) (a := c) (xs := cutV (ns.map V.int) none (some 3)) (fun i σ H' => ∃ (st : Int) (y : Option V), σ = [some (.ref a), some (.int k), some (.int st), y] ∧ 0 ≤ st ∧ st < 2147483249 ∧ H' = upd H c (.lst (cutV (ns.map V.int) none (some 3)))) ?_ ?_ ?_ ?_⟩
      · have b := int_mod_bd (60013 * ((k : Int) * k + 5 * k + 3)) (m := 2147483249) (by decide)
        exact ⟨_, none, rfl, b.1, b.2, rfl⟩
      · rintro i σ H' _ ⟨st, y, rfl, _, _, rfl⟩
        exact hc
      · rintro i x σ H' hi ⟨st, y, rfl, h0, h1, rfl⟩
        have hm : x ∈ ns.map V.int := by
          have := List.mem_of_getElem? hi
          unfold cutV at this
          exact List.mem_of_mem_drop (List.mem_of_mem_take this)
        obtain ⟨n, _, rfl⟩ := List.mem_map.mp hm
        have b := int_mod_bd (st * 41221 + n) (m := 2147483249) (by decide)
        refine ⟨_, rfl, _, _, rfl, rfl, .inl ⟨by omega, by omega⟩, _, rfl, _, _, rfl, rfl, _, _, rfl, rfl, by show (0 : Int) < 2147483249; decide, ?_⟩
        exact ⟨_, some (.int n), rfl, b.1, b.2, rfl⟩
      · rintro σ H' ⟨st, y, rfl, h0, h1, rfl⟩
        exact ⟨_, rfl, q _ _ s1⟩
theorem ok_pool {f : Addr} {fd : FuncData} (F : Fun K "_law_pool" "_law_pool" sPool f fd) (ma : mg "abs" = none) : FnOk P w K mg base CX0 1 f fd ["_law_figure"] spPool := by
  refine F.ok scPool (fun vs H Q E h => ?_) (fun cdv A outer s H vs Q E hr h => ?_)
  · obtain ⟨n, rfl, _⟩ := h
    rfl
  · obtain ⟨n, rfl, q⟩ := h
    refine ⟨_, pss_cons (ps_set (i := 1) scPool.nd rfl (.inl rfl) (pe_ifExp (PW.pt (pw_or (pt_cmpR op_lt (pv 0) pe_int (nomark _)) (pw_or1 (pt_cmpR op_ge (pv 0) (pe_op op_pow pe_int pe_int) (nomark _)))))
        (pe_callB call_abs (by rfl) ma (by decide +kernel) (pa_cons (pv 0) pa_nil)) pe_int))
      (pss_one (ps_ret (pe_lst (pa_cons (pe_op op_mod (pv 0) pe_int) (pa_cons (pv 1) (pa_cons pe_int pa_nil)))))), ?_⟩
    have b := int_mod_bd n (m := 2147483249) (by decide)
    have fin : ∀ d : Int, 0 ≤ d → tRet (tLst (tCons (tOp (rI (fun _ j => 0 < j) fun i j => .int (i % j)) (tVar 0) (tC (.int 2147483249))) (tCons (tVar 1) (tCons (tC (.int 0)) tNil)))) { nx := fun _ H' => Q .non H', rt := Q } [some (.int n), some (.int d)] H := fun d hd => by
      refine ⟨_, rfl, _, _, rfl, rfl, by show (0 : Int) < 2147483249; decide, _, rfl, (by show 3 ≤ sizeLine; decide), fun p np => ?_⟩
      exact q _ _ (same_new np) np ⟨_, _, _, upd_same, b.1, b.2, hd⟩
    refine ⟨_, rfl, _, _, rfl, rfl, _, rfl, ite2 (fun e => ?_) (fun e => ?_)⟩
    · have e0 : n < 0 := of_decide_eq_true e
      refine iteT ⟨_, rfl, n, rfl, ?_⟩
      rw [if_pos e0]
      exact fin _ (by omega)
    · refine ⟨_, rfl, _, _, rfl, rfl, ⟨by decide, by decide, by decide⟩, _, _, rfl, rfl, _, rfl, ite2 (fun e1 => ?_) (fun e1 => ?_)⟩
      · have e0 : ¬ n < 0 := fun z => e (decide_eq_true z)
        refine ⟨_, rfl, n, rfl, ?_⟩
        rw [if_neg e0]
        exact fin _ (by omega)
      · exact fin _ (by omega)
theorem ok_draw {f : Addr} {fd : FuncData} (F : Fun K "_law_draw" "_law_draw" sDraw f fd) (md : mg "divmod" = none) : FnOk P w K mg base CX0 1 f fd ["_law_pool_here", "_law_most"] spDraw := by
  refine F.ok scDraw (fun vs H Q E h => ?_) (fun cdv A outer s H vs Q E hr h => ?_)
  · obtain ⟨p, m, rfl, _⟩ := h
    rfl
  · obtain ⟨p, m, rfl, ⟨a, b, c, hp, a0, a1, b0⟩, m0, m1, q⟩ := h
    refine ⟨_, pss_cons (ps_asg (pe_op op_add (pe_ix ix_list (pv 0) pe_int (fun _ _ => rfl)) pe_int) (pg_sub (pv 0) pe_int set_list))
      (pss_cons (ps_set (i := 2) scDraw.nd rfl (.inl rfl) (pe_ix ix_list (pv 0) pe_int (fun _ _ => rfl)))
      (pss_cons (ps_asg (pe_op op_mod (pe_op op_add (pe_op op_mul (pv 2) (pe_op op_add (pe_op op_mod (pv 2) pe_int) pe_int)) (pe_op op_mul pe_int (pe_ix ix_list (pv 0) pe_int (fun _ _ => rfl)))) pe_int) (pg_sub (pv 0) pe_int set_list))
      (pss_cons (ps_if (pt_cmpR op_gt (pe_ix ix_list (pv 0) pe_int (fun _ _ => rfl)) pe_int (nomark _))
        (pss_cons (ps_asg (pe_callB call_divmod (by rfl) md (by decide +kernel) (pa_cons (pe_ix ix_list (pv 0) pe_int (fun _ _ => rfl)) (pa_cons (pv 1) pa_nil)))
            (pg_tup (by rfl) (pgs_cons (pg_sub (pv 0) pe_int set_list) (pgs_cons (pg_name (i := 3) scDraw.nd rfl (.inl rfl)) pgs_nil))))
          (pss_one (ps_ret (pv 3)))) pss_nil)
      (pss_one (ps_ret (pe_op op_mod (pe_op op_fdiv (pe_ix ix_list (pv 0) pe_int (fun _ _ => rfl)) pe_int) (pv 1))))))), ?_⟩
    -- pool[2] = pool[2] + 1
    refine ⟨_, rfl, p, _, 2, .int c, rfl, rfl, SqL.of hp, rfl, _, _, rfl, rfl, _, rfl, p, _, 2, 2, rfl, rfl, hp, rfl, ?_⟩
    refine ⟨_, rfl, p, _, 0, .int a, rfl, rfl, SqL.of upd_same, rfl, ?_⟩
    have bm := int_mod_bd a (m := 50021) (by decide)
    refine ⟨_, rfl, _, rfl, _, _, rfl, rfl, by show (0 : Int) < 50021; decide, _, _, rfl, rfl, _, _, rfl, rfl, .inl ⟨by omega, by omega⟩, _, rfl, p, _, 2, .int (c + 1), rfl, rfl, SqL.of upd_same, rfl, _, _, rfl, rfl, .inl ⟨by decide, by decide⟩, _, _, rfl, rfl, _, _, rfl, rfl, by show (0 : Int) < 2147483249; decide, ?_⟩
    refine ⟨_, rfl, p, _, 0, 0, rfl, rfl, upd_same, rfl, ?_⟩
    have bz := int_mod_bd (a * (a % 50021 + 30011) + 80021 * (c + 1)) (m := 2147483249) (by decide)
    rw [upd_upd]
    show _
    refine ⟨_, rfl, p, _, 1, .int b, rfl, rfl, SqL.of upd_same, rfl, _, _, rfl, rfl, _, rfl, ite2 (fun e => ?_) (fun e => ?_)⟩
    · refine ⟨_, rfl, p, _, 1, .int b, rfl, rfl, SqL.of upd_same, rfl, _, rfl, b, m, rfl, ⟨m0, m1⟩, fun t nt => ?_⟩
      have npt : p ≠ t := ne_of_none upd_same nt
      refine ⟨t, _, rfl, SqT.of upd_same, rfl, _, _, rfl, ?_⟩
      refine ⟨_, rfl, p, _, 1, 1, rfl, rfl, by rw [upd_ne npt]; exact upd_same, rfl, _, [], rfl, rfl, ?_⟩
      have br := int_mod_bd b m0
      refine ⟨_, rfl, q _ _ (fun x o n e => ?_) ⟨_, _, _, upd_same, bz.1, bz.2, Int.ediv_nonneg b0 (by omega)⟩ br.1 br.2⟩
      rw [upd_ne n, upd_ne, upd_ne n]
      · exact e
      · intro z
        rw [z] at e
        rw [upd_ne (Ne.symm npt)] at nt
        rw [nt] at e
        cases e
    · refine ⟨_, rfl, p, _, 0, .int ((a * (a % 50021 + 30011) + 80021 * (c + 1)) % 2147483249), rfl, rfl, SqL.of upd_same, rfl, _, _, rfl, rfl, ⟨by decide, by decide⟩, _, rfl, _, _, rfl, rfl, m0, ?_⟩
      have br := int_mod_bd ((a * (a % 50021 + 30011) + 80021 * (c + 1)) % 2147483249 / 64) m0
      exact q _ _ keepX_upd ⟨_, _, _, upd_same, bz.1, bz.2, b0⟩ br.1 br.2
end
end KS
namespace KS
open PySem PySem.Spec PyProof.Rows L2
/-! ### small data can be shown -/
theorem small_int {x : Int} (h0 : 0 ≤ x) (h1 : x < 10000) : PyData.leavesShort 8 (.int x) = true ∧ PyData.showable (.int x) = true ∧ PyData.weight (.int x) ≤ 14 := by
  obtain ⟨n, rfl⟩ := Int.eq_ofNat_of_zero_le h0
  have hn : n < 10000 := by omega
  have hlog : n.log2 < 14 := by
    rcases Nat.eq_zero_or_pos n with z | z
    · subst z
      decide
    · exact (Nat.log2_lt (by omega)).mpr (by omega)
  refine ⟨?_, ?_, ?_⟩
  · simp only [PyData.leavesShort]
    exact decide_eq_true (by
      simp only [PyData.shown]
      exact toString_length_le (k := 8) (by omega) (by decide) (by show (n : Int) < 10 ^ 8; omega))
  · simp only [PyData.showable]
    exact decide_eq_true (by show n.log2 < 1920; omega)
  · simp only [PyData.weight]
    split
    · omega
    · show n.log2 + 1 ≤ 14
      omega
/-- what repr asks of its data -/
structure Shows (d : PyData) (n : Nat) : Prop where
  short : d.leavesShort 8 = true
  show_ : d.showable = true
  nod : d.hasDict = false
  wt : d.weight ≤ n
structure ShowsAll (ds : List PyData) (n : Nat) : Prop where
  short : PyData.leavesShortAll 8 ds = true
  show_ : PyData.showableAll ds = true
  nod : PyData.hasDictAll ds = false
  wt : PyData.weightAll ds ≤ (n + 1) * ds.length
theorem showsAll_of {n : Nat} : ∀ {ds : List PyData}, (∀ d ∈ ds, Shows d n) → ShowsAll ds n
  | [], _ => ⟨by simp only [PyData.leavesShortAll], by simp only [PyData.showableAll], by simp only [PyData.hasDictAll], by simp [PyData.weightAll]⟩
  | d :: ds, h => by
    have h1 := h d List.mem_cons_self
    have h2 := showsAll_of fun x hx => h x (List.mem_cons_of_mem _ hx)
    refine ⟨?_, ?_, ?_, ?_⟩
    · simp only [PyData.leavesShortAll, h1.short, h2.short, Bool.and_self]
    · simp only [PyData.showableAll, h1.show_, h2.show_, Bool.and_self]
    · simp only [PyData.hasDictAll, h1.nod, h2.nod, Bool.or_self]
    · simp only [PyData.weightAll, List.length_cons]
      have a := h1.wt
      have b := h2.wt
      rw [Nat.mul_add, Nat.mul_one]
      omega
theorem shows_tuple {n m : Nat} {ds : List PyData} (h : ShowsAll ds n) (hm : (n + 1) * ds.length ≤ m) : Shows (.tuple ds) m := by
  refine ⟨?_, ?_, ?_, ?_⟩
  · simp only [PyData.leavesShort, h.short]
  · simp only [PyData.showable, h.show_]
  · simp only [PyData.hasDict, h.nod]
  · simp only [PyData.weight]
    exact Nat.le_trans h.wt hm
theorem shows_int {x : Int} (h0 : 0 ≤ x) (h1 : x < 10000) : Shows (.int x) 14 := by
  obtain ⟨a, b, c⟩ := small_int h0 h1
  exact ⟨a, b, by simp only [PyData.hasDict], c⟩
theorem Shows.len {d : PyData} {n : Nat} (h : Shows d n) (hn : n ≤ 1048576) : d.shown.length ≤ sizeLine :=
  PyData.shown_fits (B := 8) (by decide) (by decide) h.short (Nat.le_trans h.wt (by
    show n ≤ 2 ^ 20
    have : (2 : Nat) ^ 20 = 1048576 := by decide
    omega))
theorem shows_line {l : List Int} (h : ∀ x ∈ l, 0 ≤ x ∧ x < 10000) (hl : l.length ≤ 64) : Shows (lineD l) 960 := by
  refine shows_tuple (n := 14) (showsAll_of fun d hd => ?_) ?_
  · obtain ⟨x, hx, rfl⟩ := List.mem_map.mp hd
    exact shows_int (h x hx).1 (h x hx).2
  · rw [List.length_map]
    omega
theorem shows_lines {ls : List (List Int)} (h : ∀ l ∈ ls, (∀ x ∈ l, 0 ≤ x ∧ x < 10000) ∧ l.length ≤ 64) (hl : ls.length ≤ 64) : Shows (linesD ls) 61504 := by
  refine shows_tuple (n := 960) (showsAll_of fun d hd => ?_) ?_
  · obtain ⟨l, hx, rfl⟩ := List.mem_map.mp hd
    exact shows_line (h l hx).1 (h l hx).2
  · rw [List.length_map]
    omega
theorem depth_line (l : List Int) : (lineD l).depth = 1 := by
  simp only [PyData.depth, (ints_lay l).2]
theorem depth_lines : ∀ ls : List (List Int), PyData.depthAll (ls.map lineD) ≤ 1
  | [] => by simp [PyData.depthAll]
  | l :: ls => by
    have a := depth_lines ls
    have b := depth_line l
    simp only [List.map_cons, PyData.depthAll]
    omega
theorem lns_small {b : Bool} {cs : List Cell} (hl : cs.length ≤ 24) : Shows (linesD (lnsOf b cs)) 61504 ∧ (linesD (lnsOf b cs)).depth ≤ 64 := by
  refine ⟨shows_lines (fun l h => ?_) ?_, ?_⟩
  · unfold lnsOf at h
    obtain ⟨r, _, rfl⟩ := List.mem_map.mp (List.mem_filter.mp h).1
    refine ⟨fun x hx => ?_, ?_⟩
    · have := idxs_mem hx
      omega
    · have := idxs_len b cs cs.length (r : Int)
      omega
  · have : (lnsOf b cs).length ≤ 8 := lnsTo_len b cs 8
    omega
  · have := depth_lines (lnsOf b cs)
    simp only [PyData.depth]
    omega
/-! ### sorted cells -/
def keyOf (H : Hp) : V → Int × Int
  | .ref t => match H t with
    | some (.tup [.int i, .int j]) => (i, j)
    | _ => (0, 0)
  | _ => (0, 0)
theorem keyOf_at {H : Hp} {t : Addr} {i j : Int} (h : H t = some (.tup [.int i, .int j])) : keyOf H (.ref t) = (i, j) := by
  show (match H t with
    | some (.tup [.int i, .int j]) => ((i, j) : Int × Int)
    | _ => (0, 0)) = (i, j)
  rw [h]
theorem nodup_of_asc {cs : List Cell} (h : cs.Pairwise lt2) : cs.Nodup := by
  rw [List.nodup_iff_pairwise_ne]
  refine h.imp fun {a b} q e => ?_
  subst e
  rcases q with q | q <;> omega
/-- new cells, in a list -/
def NewCells (H : Hp) : List V → List Cell → Prop := Paired fun x c => ∃ t, x = .ref t ∧ H t = some (.tup [.int c.1, .int c.2])
theorem newCells_mono {H H' : Hp} (k : ∀ t ys, H t = some (.tup ys) → H' t = some (.tup ys)) {xs : List V} {cs : List Cell} (h : NewCells H xs cs) : NewCells H' xs cs :=
  Paired.mono (fun _ _ ⟨t, e, q⟩ => ⟨t, e, k _ _ q⟩) h
theorem newCells_key {H : Hp} : ∀ {xs : List V} {cs : List Cell}, NewCells H xs cs → xs.map (keyOf H) = cs
  | _, _, .nil => rfl
  | _, _, .cons ⟨t, e, h⟩ r => by
    subst e
    rw [List.map_cons, keyOf_at h, newCells_key r]
theorem newCells_mem {H : Hp} : ∀ {xs : List V} {cs : List Cell}, NewCells H xs cs → ∀ x ∈ xs, ∃ t, x = .ref t ∧ H t = some (.tup [.int (keyOf H x).1, .int (keyOf H x).2])
  | _, _, .nil, _, h => nomatch h
  | _, _, .cons ⟨t, e, h⟩ r, x, hx => by
    rcases List.mem_cons.mp hx with z | z
    · subst z
      subst e
      exact ⟨t, rfl, by rw [keyOf_at h]; exact h⟩
    · exact newCells_mem r x z
theorem cells_of_mem {K : PySem.W.Frag} {H : Hp} : ∀ {ys : List V}, (∀ x ∈ ys, ∃ t, x = .ref t ∧ H t = some (.tup [.int (keyOf H x).1, .int (keyOf H x).2])) → CellsAt K H ys (ys.map (keyOf H))
  | [], _ => .nil
  | y :: ys, h => by
    obtain ⟨t, e, q⟩ := h y List.mem_cons_self
    exact .cons ⟨t, e, SqT.of q⟩ (cells_of_mem fun x hx => h x (List.mem_cons_of_mem _ hx))
/-- sorted of new cells, all different: they ascend -/
theorem sorted_cells {K : PySem.W.Frag} {H : Hp} {xs ys : List V} {cs : List Cell} (h : NewCells H xs cs) (nd : cs.Nodup) (hs : SrtO.Srtd (ltP (keyOf H)) ys) (hp : ys.Perm xs) :
    CellsAt K H ys (ys.map (keyOf H)) ∧ (ys.map (keyOf H)).Perm cs ∧ (ys.map (keyOf H)).Pairwise lt2 := by
  have p1 : (ys.map (keyOf H)).Perm cs := by
    rw [← newCells_key h]
    exact hp.map _
  refine ⟨cells_of_mem fun x hx => newCells_mem h x (hp.mem_iff.mp hx), p1, ?_⟩
  have n1 : (ys.map (keyOf H)).Nodup := p1.nodup_iff.mpr nd
  have s1 : (ys.map (keyOf H)).Pairwise fun a b => SrtO.lexB b a = false := by
    rw [List.pairwise_map]
    exact hs
  rw [List.nodup_iff_pairwise_ne] at n1
  refine (s1.and n1).imp fun {a b} q => ?_
  obtain ⟨q1, q2⟩ := q
  have q3 : ¬ (b.1 < a.1 ∨ (b.1 = a.1 ∧ b.2 < a.2)) := fun z => by
    rw [SrtO.lexB_iff.mpr z] at q1
    cases q1
  by_cases e1 : a.1 < b.1
  · exact .inl e1
  · by_cases e2 : a.1 = b.1
    · refine .inr ⟨e2, ?_⟩
      by_cases e3 : a.2 = b.2
      · exact absurd (Prod.ext e2 e3) q2
      · have : ¬ b.2 < a.2 := fun z => q3 (.inr ⟨e2.symm, z⟩)
        omega
    · exact absurd (.inl (by omega)) q3
def mir (c : Cell) : Cell := (c.1, 7 - c.2)
theorem nodup_mir {cs : List Cell} (h : cs.Nodup) : (cs.map mir).Nodup := by
  rw [List.nodup_iff_pairwise_ne] at h ⊢
  rw [List.pairwise_map]
  refine h.imp fun {a b} q e => q ?_
  have e0 : ((a.1, 7 - a.2) : Int × Int) = (b.1, 7 - b.2) := e
  injection e0 with e1 e2
  exact Prod.ext e1 (by omega)
theorem good_mir {cs ds : List Cell} (g : Good cs) (p : ds.Perm (cs.map mir)) (a : ds.Pairwise lt2) : Good ds ∧ ds.length = cs.length := by
  have hl : ds.length = cs.length := by rw [p.length_eq, List.length_map]
  refine ⟨⟨a, fun d hd => ?_, fun z => ?_⟩, hl⟩
  · obtain ⟨c, hc, rfl⟩ := List.mem_map.mp (p.mem_iff.mp hd)
    have := g.grid c hc
    unfold InGrid at this ⊢
    show 0 ≤ c.1 ∧ c.1 ≤ 7 ∧ 0 ≤ 7 - c.2 ∧ 7 - c.2 ≤ 7
    omega
  · rw [z] at hl
    exact g.ne (List.eq_nil_of_length_eq_zero hl.symm)
def spRight : Sp := fun vs H Q _ => ∃ p : Addr, vs = [.ref p] ∧ PoolO (H p) ∧ ∀ H', KeepX p H H' → Q (.bl true) H'
def spLaw (K : PySem.W.Frag) : Sp := fun vs H Q _ => ∃ (a : Addr) (ns : List Int), vs = [.ref a] ∧ SqL K H a (ns.map V.int) ∧ ns.length ≤ 63 ∧ ∀ H', Q (.bl true) H'
end KS
namespace KS
open PySem PySem.Spec PyProof.Rows L2
/-! ### x in t, t a tuple of plain data -/
def rInT (K : PySem.W.Frag) : V → V → Hp → VK → Prop := fun x y H Q => ∃ d ds, Dp K H x d ∧ Dp K H y (.tuple ds) ∧ SeqAt.shaped d = true ∧ SeqAt.shaped (.tuple ds) = true ∧ Q (.bl (ds.any fun z => PyData.eqv z d)) H
theorem op_inT {X : Cx} (hu : X.A.units + 65 < cLine) : OpR X (compareOp .In) (rInT X.K) := by
  intro pins s σ H x y v u Q I rx ry h
  obtain ⟨d, ds, hd, he, sd, se, q⟩ := h
  obtain ⟨as, r1⟩ := Dp.reads I d x v hd rx
  obtain ⟨bs, r2⟩ := Dp.reads I (.tuple ds) y u he ry
  refine SeqAt.in_tuple_reads r2 r1 (SeqAt.canLay_of_shaped se) (SeqAt.canLay_of_shaped sd) ?_ ⟨.bl _, H, I, rfl, q⟩
  have := SeqAt.depth_of_shaped sd
  have h2 : min (PyData.depthAll ds) d.depth ≤ d.depth := Nat.min_le_right _ _
  omega
/-! ### plans as data -/
abbrev cellD (c : Cell) : PyData := .tuple [.int c.1, .int c.2]
abbrev planD (cs : List Cell) : PyData := .tuple (cs.map cellD)
theorem dp_cell {K : PySem.W.Frag} {H : Hp} {t : Addr} {c : Cell} (h : SqT K H t [.int c.1, .int c.2]) : Dp K H (.ref t) (cellD c) := .tup h (.cons (.int _) (.cons (.int _) .nil))
theorem dp_cells {K : PySem.W.Frag} {H : Hp} : ∀ {xs : List V} {cs : List Cell}, CellsAt K H xs cs → DpAll K H xs (cs.map cellD)
  | _, _, .nil => .nil
  | _, _, .cons ⟨t, e, h⟩ r => by
    subst e
    exact .cons (dp_cell h) (dp_cells r)
theorem PlanAt.dp {K : PySem.W.Frag} {H : Hp} {a : Addr} {cs : List Cell} (h : PlanAt K H a cs) : Dp K H (.ref a) (planD cs) := by
  obtain ⟨xs, h1, h2⟩ := h
  exact .tup h1 (dp_cells h2)
theorem cell_lay (c : Cell) : (cellD c).canLay0 = true ∧ (cellD c).depth = 1 := by
  simp [PyData.canLay0, PyData.canLayAll0, PyData.depth, PyData.depthAll]
theorem cells_lay : ∀ cs : List Cell, PyData.canLayAll0 (cs.map cellD) = true ∧ PyData.depthAll (cs.map cellD) ≤ 1
  | [] => ⟨by simp only [List.map_nil, PyData.canLayAll0], by simp [PyData.depthAll]⟩
  | c :: cs => by
    obtain ⟨a, b⟩ := cells_lay cs
    obtain ⟨x, y⟩ := cell_lay c
    refine ⟨?_, ?_⟩
    · rw [List.map_cons, PyData.canLayAll0, x, a]
      rfl
    · rw [List.map_cons, PyData.depthAll, y]
      omega
theorem cell_shaped (c : Cell) : SeqAt.shaped (cellD c) = true := by
  obtain ⟨x, y⟩ := cell_lay c
  unfold SeqAt.shaped
  rw [x, y]
  rfl
theorem plan_shaped (cs : List Cell) : SeqAt.shaped (planD cs) = true := by
  obtain ⟨a, b⟩ := cells_lay cs
  unfold SeqAt.shaped
  rw [Bool.and_eq_true]
  refine ⟨?_, decide_eq_true ?_⟩
  · simp only [PyData.canLay0, a]
  · simp only [PyData.depth]
    omega
theorem cell_eqv (a b : Cell) : PyData.eqv (cellD a) (cellD b) = decide (a = b) := by
  have h : PyData.eqv (cellD a) (cellD b) = (a.1 == b.1 && (a.2 == b.2 && true)) := by
    simp only [PyData.eqv, PyData.eqvAll]
  rw [h, Bool.and_true]
  by_cases e : a = b
  · subst e
    simp
  · rw [decide_eq_false e]
    by_cases e1 : a.1 = b.1
    · have e2 : a.2 ≠ b.2 := fun z => e (Prod.ext e1 z)
      simp [e1, e2]
    · simp [e1]
theorem in_plan (cs : List Cell) (c : Cell) : ((cs.map cellD).any fun z => PyData.eqv z (cellD c)) = decide (c ∈ cs) := by
  rw [List.any_map]
  by_cases h : c ∈ cs
  · rw [decide_eq_true h, List.any_eq_true]
    exact ⟨c, h, by show PyData.eqv (cellD c) (cellD c) = true; rw [cell_eqv]; simp⟩
  · rw [decide_eq_false h, List.any_eq_false]
    intro x hx z
    have z' : PyData.eqv (cellD x) (cellD c) = true := z
    rw [cell_eqv] at z'
    have := of_decide_eq_true z'
    subst this
    exact h hx
theorem shows_plan {cs : List Cell} (g : ∀ c ∈ cs, InGrid c) (hl : cs.length ≤ 64) : Shows (planD cs) 1984 ∧ (planD cs).depth ≤ 64 := by
  refine ⟨shows_tuple (n := 30) (showsAll_of fun d hd => ?_) ?_, ?_⟩
  · obtain ⟨c, hc, rfl⟩ := List.mem_map.mp hd
    have := g c hc
    unfold InGrid at this
    refine shows_tuple (n := 14) (showsAll_of fun d hd => ?_) (by show (14 + 1) * 2 ≤ 30; decide)
    rcases List.mem_cons.mp hd with z | z
    · subst z
      exact shows_int (by omega) (by omega)
    · rcases List.mem_cons.mp z with z | z
      · subst z
        exact shows_int (by omega) (by omega)
      · cases z
  · rw [List.length_map]
    omega
  · have := (cells_lay cs).2
    simp only [PyData.depth]
    omega
/-! ### ascending lists of cells -/
theorem asc_ext2 : ∀ {l m : List Cell}, l.Pairwise lt2 → m.Pairwise lt2 → (∀ x, x ∈ l ↔ x ∈ m) → l = m
  | [], [], _, _, _ => rfl
  | [], y :: m, _, _, h => absurd ((h y).mpr List.mem_cons_self) (by simp)
  | x :: l, [], _, _, h => absurd ((h x).mp List.mem_cons_self) (by simp)
  | x :: l, y :: m, h1, h2, h => by
    rw [List.pairwise_cons] at h1 h2
    have no : ∀ a b : Cell, lt2 a b → lt2 b a → False := fun a b p q => by
      unfold lt2 at p q
      omega
    have e : x = y := by
      rcases List.mem_cons.mp ((h x).mp List.mem_cons_self) with z | z
      · exact z
      · rcases List.mem_cons.mp ((h y).mpr List.mem_cons_self) with z2 | z2
        · exact z2.symm
        · exact (no _ _ (h2.1 x z) (h1.1 y z2)).elim
    subst e
    congr 1
    refine asc_ext2 h1.2 h2.2 fun z => ⟨fun hz => ?_, fun hz => ?_⟩
    · rcases List.mem_cons.mp ((h z).mp (List.mem_cons_of_mem _ hz)) with e | e
      · exact (no _ _ (h1.1 z hz) (e ▸ h1.1 z hz)).elim
      · exact e
    · rcases List.mem_cons.mp ((h z).mpr (List.mem_cons_of_mem _ hz)) with e | e
      · exact (no _ _ (h2.1 z hz) (e ▸ h2.1 z hz)).elim
      · exact e
theorem asc_perm {l m : List Cell} (h1 : l.Pairwise lt2) (h2 : m.Pairwise lt2) (p : l.Perm m) : l = m := asc_ext2 h1 h2 fun x => p.mem_iff
def swp (c : Cell) : Cell := (c.2, c.1)
theorem nodup_swp {cs : List Cell} (h : cs.Nodup) : (cs.map swp).Nodup := by
  rw [List.nodup_iff_pairwise_ne] at h ⊢
  rw [List.pairwise_map]
  refine h.imp fun {a b} q e => q ?_
  have e0 : ((a.2, a.1) : Int × Int) = (b.2, b.1) := e
  injection e0 with e1 e2
  exact Prod.ext e2 e1
theorem good_swp {cs ds : List Cell} (g : Good cs) (p : ds.Perm (cs.map swp)) (a : ds.Pairwise lt2) : Good ds ∧ ds.length = cs.length := by
  have hl : ds.length = cs.length := by rw [p.length_eq, List.length_map]
  refine ⟨⟨a, fun d hd => ?_, fun z => ?_⟩, hl⟩
  · obtain ⟨c, hc, rfl⟩ := List.mem_map.mp (p.mem_iff.mp hd)
    have := g.grid c hc
    unfold InGrid at this ⊢
    show 0 ≤ c.2 ∧ c.2 ≤ 7 ∧ 0 ≤ c.1 ∧ c.1 ≤ 7
    omega
  · rw [z] at hl
    exact g.ne (List.eq_nil_of_length_eq_zero hl.symm)
theorem swp_back {cs ds es : List Cell} (g : cs.Pairwise lt2) (p : ds.Perm (cs.map swp)) (p2 : es.Perm (ds.map swp)) (a : es.Pairwise lt2) : es = cs := by
  refine asc_perm a g (p2.trans ?_)
  have := p.map swp
  refine this.trans ?_
  rw [List.map_map]
  have e : (swp ∘ swp) = id := by
    funext c
    rfl
  rw [e, List.map_id]
/-! ### rectangles -/
def Full (cs : List Cell) : Prop := ∀ r k : Int, (∃ c ∈ cs, c.1 ≤ r) → (∃ c ∈ cs, r ≤ c.1) → (∃ c ∈ cs, c.2 ≤ k) → (∃ c ∈ cs, k ≤ c.2) → (r, k) ∈ cs
noncomputable def rectB (cs : List Cell) : Bool := @decide (Full cs) (Classical.propDecidable _)
theorem rectB_true {cs : List Cell} (h : Full cs) : rectB cs = true := by
  unfold rectB
  exact @decide_eq_true _ (Classical.propDecidable _) h
theorem rectB_false {cs : List Cell} (h : ¬ Full cs) : rectB cs = false := by
  unfold rectB
  exact @decide_eq_false _ (Classical.propDecidable _) h
theorem full_swp {cs ds : List Cell} (p : ds.Perm (cs.map swp)) (h : Full cs) : Full ds := by
  have to : ∀ c : Cell, c ∈ ds → swp c ∈ cs := fun c hc => by
    obtain ⟨x, hx, rfl⟩ := List.mem_map.mp (p.mem_iff.mp hc)
    exact hx
  intro r k ⟨a, ha, a1⟩ ⟨b, hb, b1⟩ ⟨c, hc, c1⟩ ⟨d, hd, d1⟩
  have := h k r ⟨swp c, to c hc, c1⟩ ⟨swp d, to d hd, d1⟩ ⟨swp a, to a ha, a1⟩ ⟨swp b, to b hb, b1⟩
  exact p.mem_iff.mpr (List.mem_map.mpr ⟨(k, r), this, rfl⟩)
theorem rectB_swp {cs ds : List Cell} (p : ds.Perm (cs.map swp)) : rectB ds = rectB cs := by
  have q : cs.Perm (ds.map swp) := by
    have := (p.map swp).symm
    rw [List.map_map] at this
    have e : (swp ∘ swp) = id := by
      funext c
      rfl
    rw [e, List.map_id] at this
    exact this
  by_cases h : Full cs
  · rw [rectB_true h, rectB_true (full_swp p h)]
  · rw [rectB_false h, rectB_false fun z => h (full_swp q z)]
theorem len_of_subset : ∀ {l m : List Cell}, l.Nodup → (∀ x ∈ l, x ∈ m) → l.length ≤ m.length
  | [], _, _, _ => Nat.zero_le _
  | x :: l, m, n, h => by
    rw [List.nodup_cons] at n
    have hx := h x List.mem_cons_self
    have ih := len_of_subset (m := m.erase x) n.2 fun y hy => by
      have hne : y ≠ x := fun e => n.1 (e ▸ hy)
      exact (List.mem_erase_of_ne hne).mpr (h y (List.mem_cons_of_mem _ hy))
    rw [List.length_erase_of_mem hx] at ih
    have : 0 < m.length := List.length_pos_of_mem hx
    rw [List.length_cons]
    omega
/-- the cells of a box: n rows from r, k columns from c -/
def boxOf (r c : Int) (n k : Nat) : List Cell := (List.range n).flatMap fun (i : Nat) => rowCells (r + (i : Int)) c k
theorem box_len (r c : Int) (n k : Nat) : (boxOf r c n k).length = n * k := by
  unfold boxOf
  rw [List.length_flatMap]
  induction n with
  | zero => simp
  | succ n ih =>
    rw [List.range_succ, List.map_append, List.sum_append, ih, List.map_cons, rowCells_len, Nat.succ_mul]
    simp
theorem box_mem {r c : Int} {n k : Nat} {x : Cell} : x ∈ boxOf r c n k ↔ r ≤ x.1 ∧ x.1 < r + n ∧ c ≤ x.2 ∧ x.2 < c + k := by
  unfold boxOf
  rw [List.mem_flatMap]
  constructor
  · rintro ⟨i, hi, hx⟩
    have := List.mem_range.mp hi
    have := rowCells_mem hx
    omega
  · rintro ⟨h1, h2, h3, h4⟩
    refine ⟨(x.1 - r).toNat, List.mem_range.mpr (by omega), ?_⟩
    unfold rowCells
    refine List.mem_map.mpr ⟨(x.2 - c).toNat, List.mem_range.mpr (by omega), ?_⟩
    refine Prod.ext ?_ ?_
    · show r + ((x.1 - r).toNat : Int) = x.1
      omega
    · show c + ((x.2 - c).toNat : Int) = x.2
      omega
theorem box_asc (r c : Int) (k : Nat) : ∀ n : Nat, (boxOf r c n k).Pairwise lt2
  | 0 => List.Pairwise.nil
  | n + 1 => by
    have e : boxOf r c (n + 1) k = boxOf r c n k ++ rowCells (r + (n : Int)) c k := by
      unfold boxOf
      rw [List.range_succ, List.flatMap_append]
      simp
    rw [e, List.pairwise_append]
    refine ⟨box_asc r c k n, rowCells_asc _ _ _, fun a ha b hb => .inl ?_⟩
    have := box_mem.mp ha
    have := rowCells_mem hb
    omega
/-- the count of cells tells the rectangle -/
theorem rect_count {cs : List Cell} {a b c d : Int} (nd : cs.Nodup) (ha : a ∈ cs.map (·.1)) (ha' : ∀ x ∈ cs.map (·.1), a ≤ x) (hb : b ∈ cs.map (·.1)) (hb' : ∀ x ∈ cs.map (·.1), x ≤ b)
    (hc : c ∈ cs.map (·.2)) (hc' : ∀ x ∈ cs.map (·.2), c ≤ x) (hd : d ∈ cs.map (·.2)) (hd' : ∀ x ∈ cs.map (·.2), x ≤ d) : decide ((cs.length : Int) = (b - a + 1) * (d - c + 1)) = rectB cs := by
  have hab : a ≤ b := ha' b hb
  have hcd : c ≤ d := hc' d hd
  have inb : ∀ x ∈ cs, x ∈ boxOf a c (b - a + 1).toNat (d - c + 1).toNat := fun x hx => by
    have h1 := ha' x.1 (List.mem_map.mpr ⟨x, hx, rfl⟩)
    have h2 := hb' x.1 (List.mem_map.mpr ⟨x, hx, rfl⟩)
    have h3 := hc' x.2 (List.mem_map.mpr ⟨x, hx, rfl⟩)
    have h4 := hd' x.2 (List.mem_map.mpr ⟨x, hx, rfl⟩)
    exact box_mem.mpr ⟨h1, by omega, h3, by omega⟩
  have area : (((b - a + 1).toNat * (d - c + 1).toNat : Nat) : Int) = (b - a + 1) * (d - c + 1) := by
    rw [Int.natCast_mul, Int.toNat_of_nonneg (by omega), Int.toNat_of_nonneg (by omega)]
  have le1 := len_of_subset nd inb
  rw [box_len] at le1
  by_cases h : Full cs
  · rw [rectB_true h]
    have le2 : (boxOf a c (b - a + 1).toNat (d - c + 1).toNat).length ≤ cs.length := len_of_subset (nodup_of_asc (box_asc _ _ _ _)) fun x hx => by
      have := box_mem.mp hx
      obtain ⟨xa, ma, ea⟩ := List.mem_map.mp ha
      obtain ⟨xb, mb, eb⟩ := List.mem_map.mp hb
      obtain ⟨xc, mc, ec⟩ := List.mem_map.mp hc
      obtain ⟨xd, md, ed⟩ := List.mem_map.mp hd
      have := h x.1 x.2 ⟨xa, ma, by omega⟩ ⟨xb, mb, by omega⟩ ⟨xc, mc, by omega⟩ ⟨xd, md, by omega⟩
      exact this
    rw [box_len] at le2
    exact decide_eq_true (by rw [← area]; omega)
  · rw [rectB_false h]
    refine decide_eq_false fun e => h ?_
    rw [← area] at e
    have e' : cs.length = (b - a + 1).toNat * (d - c + 1).toNat := by omega
    intro r k ⟨x1, m1, q1⟩ ⟨x2, m2, q2⟩ ⟨x3, m3, q3⟩ ⟨x4, m4, q4⟩
    have h1 := ha' x1.1 (List.mem_map.mpr ⟨x1, m1, rfl⟩)
    have h2 := hb' x2.1 (List.mem_map.mpr ⟨x2, m2, rfl⟩)
    have h3 := hc' x3.2 (List.mem_map.mpr ⟨x3, m3, rfl⟩)
    have h4 := hd' x4.2 (List.mem_map.mpr ⟨x4, m4, rfl⟩)
    have hin : ((r, k) : Cell) ∈ boxOf a c (b - a + 1).toNat (d - c + 1).toNat := box_mem.mpr ⟨by show a ≤ r; omega, by show r < _; omega, by show c ≤ k; omega, by show k < _; omega⟩
    by_cases hm : ((r, k) : Cell) ∈ cs
    · exact hm
    · have le3 := len_of_subset (l := (r, k) :: cs) (List.nodup_cons.mpr ⟨hm, nd⟩) fun x hx => by
        rcases List.mem_cons.mp hx with z | z
        · subst z
          exact hin
        · exact inb x z
      rw [box_len, List.length_cons] at le3
      omega
end KS
namespace KS
open PySem PySem.Spec PyProof.Rows L2
/-! ### a sort of lines, as mathematics -/
def sortI (l : List Int) : List Int := l.mergeSort (fun a b => decide (a ≤ b))
theorem sortI_perm (l : List Int) : (sortI l).Perm l := List.mergeSort_perm _ _
theorem sortI_asc (l : List Int) : (sortI l).Pairwise (· ≤ ·) := by
  have h := List.pairwise_mergeSort (le := fun (a b : Int) => decide (a ≤ b)) (by
    intro a b c h1 h2
    have h1 := of_decide_eq_true h1
    have h2 := of_decide_eq_true h2
    exact decide_eq_true (by omega)) (by
    intro a b
    rw [Bool.or_eq_true, decide_eq_true_eq, decide_eq_true_eq]
    omega) l
  exact h.imp fun z => of_decide_eq_true z
theorem sortI_eq {l m : List Int} (p : m.Perm l) (a : m.Pairwise (· ≤ ·)) : m = sortI l :=
  List.Perm.eq_of_pairwise (fun x y _ _ h1 h2 => by omega) a (sortI_asc l) (p.trans (sortI_perm l).symm)
theorem sortI_len (l : List Int) : (sortI l).length = l.length := (sortI_perm l).length_eq
def getI (vs : List Int) (k : Int) : Int := vs.getD k.toNat 0
def putZ (acc : List Int) (zs : List (Int × Int)) : List Int := zs.foldl (fun a z => a.set z.1.toNat z.2) acc
theorem putZ_len (zs : List (Int × Int)) : ∀ acc, (putZ acc zs).length = acc.length := by
  induction zs with
  | nil => intro acc; rfl
  | cons z zs ih =>
    intro acc
    show (putZ (acc.set z.1.toNat z.2) zs).length = _
    rw [ih, List.length_set]
theorem putZ_more (acc : List Int) (zs : List (Int × Int)) (z : Int × Int) : putZ acc (zs ++ [z]) = (putZ acc zs).set z.1.toNat z.2 := by
  unfold putZ
  rw [List.foldl_append]
  rfl
def srtL (vs acc : List Int) (l : List Int) : List Int := putZ acc (l.zip (sortI (l.map (getI vs))))
def srtTo (vs : List Int) (ls : List (List Int)) : List Int := ls.foldl (srtL vs) vs
/-- the values after a sort of this kind -/
def srt (b : Bool) (cs : List Cell) (vs : List Int) : List Int := srtTo vs (lnsOf b cs)
theorem srtTo_more (vs : List Int) (ls : List (List Int)) (l : List Int) : srtTo vs (ls ++ [l]) = srtL vs (srtTo vs ls) l := by
  unfold srtTo
  rw [List.foldl_append]
  rfl
theorem srtL_len (vs acc l : List Int) : (srtL vs acc l).length = acc.length := putZ_len _ _
theorem foldl_len {f : List Int → List Int → List Int} (h : ∀ a l, (f a l).length = a.length) : ∀ (ls : List (List Int)) (a : List Int), (ls.foldl f a).length = a.length
  | [], _ => rfl
  | l :: ls, a => by
    show (ls.foldl f (f a l)).length = _
    rw [foldl_len h ls, h]
theorem srtTo_len (vs : List Int) (ls : List (List Int)) : (srtTo vs ls).length = vs.length := foldl_len (srtL_len vs) ls vs
theorem srt_len (b : Bool) (cs : List Cell) (vs : List Int) : (srt b cs vs).length = vs.length := srtTo_len _ _
theorem idxs_nat {b : Bool} {cs : List Cell} {i : Nat} {r k : Int} (h : k ∈ idxs b cs i r) : ∃ j : Nat, k = (j : Int) ∧ j < i := by
  unfold idxs at h
  obtain ⟨j, hj, rfl⟩ := List.mem_map.mp h
  exact ⟨j, rfl, List.mem_range.mp (List.mem_filter.mp hj).1⟩
theorem lns_mem {b : Bool} {cs : List Cell} {l : List Int} (h : l ∈ lnsOf b cs) : (∀ k ∈ l, ∃ j : Nat, k = (j : Int) ∧ j < cs.length) ∧ l.length ≤ cs.length := by
  unfold lnsOf at h
  obtain ⟨r, _, rfl⟩ := List.mem_map.mp (List.mem_filter.mp h).1
  exact ⟨fun k hk => idxs_nat hk, idxs_len _ _ _ _⟩
theorem getI_at {vs : List Int} {j : Nat} (h : j < vs.length) : (vs.map V.int)[j]? = some (.int (getI vs (j : Int))) := by
  unfold getI
  rw [List.getElem?_map, Int.toNat_natCast, List.getD_eq_getElem?_getD, List.getElem?_eq_getElem h]
  rfl
theorem ixN_at {n j : Nat} (h : j < n) : ixN n (j : Int) = some j := by
  unfold ixN
  rw [if_pos (by omega), if_pos (by omega), Int.toNat_natCast]
/-- the law's own sort: of a tuple of whole numbers -/
def spLSorted (K : PySem.W.Frag) : Sp := fun xs H Q _ => ∃ (a t : Addr) (b : Bool) (cs : List Cell) (vs : List Int), xs = [.ref a, .ref t, .str (if b = true then "C" else "R")] ∧ PlanAt K H a cs ∧ cs.length ≤ 24 ∧
  SqT K H t (vs.map V.int) ∧ vs.length = cs.length ∧ ∀ H' u, Same H H' → SqT K H' u ((srt b cs vs).map V.int) → H u = none → Q (.ref u) H'
end KS
namespace KS
open PySem PySem.Spec PyProof.Rows L2
theorem ints_eqvAll : ∀ l m : List Int, PyData.eqvAll (l.map PyData.int) (m.map PyData.int) = decide (l = m)
  | [], [] => by simp [PyData.eqvAll]
  | [], _ :: _ => by simp [PyData.eqvAll]
  | _ :: _, [] => by simp [PyData.eqvAll]
  | x :: l, y :: m => by
    have h : PyData.eqvAll ((x :: l).map PyData.int) ((y :: m).map PyData.int) = (x == y && PyData.eqvAll (l.map PyData.int) (m.map PyData.int)) := by
      simp only [List.map_cons, PyData.eqvAll, PyData.eqv]
    rw [h, ints_eqvAll l m]
    by_cases e : x = y <;> by_cases e2 : l = m <;> simp [e, e2]
theorem ints_eqvL (l m : List Int) : PyData.eqv (.list (l.map PyData.int)) (.list (m.map PyData.int)) = decide (l = m) := by
  have h : PyData.eqv (.list (l.map PyData.int)) (.list (m.map PyData.int)) = PyData.eqvAll (l.map PyData.int) (m.map PyData.int) := by simp only [PyData.eqv]
  rw [h, ints_eqvAll]
theorem ints_eqvT (l m : List Int) : PyData.eqv (.tuple (l.map PyData.int)) (.tuple (m.map PyData.int)) = decide (l = m) := by
  have h : PyData.eqv (.tuple (l.map PyData.int)) (.tuple (m.map PyData.int)) = PyData.eqvAll (l.map PyData.int) (m.map PyData.int) := by simp only [PyData.eqv]
  rw [h, ints_eqvAll]
/-- whether the values of a line ascend -/
def upL (vs l : List Int) : Bool := decide (l.map (getI vs) = sortI (l.map (getI vs)))
/-- whether each line of the kind ascends -/
def rises (b : Bool) (cs : List Cell) (vs : List Int) : Bool := (lnsOf b cs).all (upL vs)
def spLRises (K : PySem.W.Frag) : Sp := fun xs H Q _ => ∃ (a t : Addr) (b : Bool) (cs : List Cell) (vs : List Int), xs = [.ref a, .ref t, .str (if b = true then "C" else "R")] ∧ PlanAt K H a cs ∧ cs.length ≤ 24 ∧
  SqT K H t (vs.map V.int) ∧ vs.length = cs.length ∧ ∀ H', Same H H' → Q (.bl (rises b cs vs)) H'
/-- the law's own words: the sorts of the letters, from left to right -/
def kindS (b : Bool) : Str := if b = true then "C" else "R"
def aft (cs : List Cell) (w : List Bool) (vs : List Int) : List Int := w.foldl (fun a b => srt b cs a) vs
theorem aft_len (cs : List Cell) : ∀ (w : List Bool) (vs : List Int), (aft cs w vs).length = vs.length
  | [], _ => rfl
  | b :: w, vs => by
    show (aft cs w (srt b cs vs)).length = _
    rw [aft_len cs w, srt_len]
theorem aft_more (cs : List Cell) (w : List Bool) (b : Bool) (vs : List Int) : aft cs (w ++ [b]) vs = srt b cs (aft cs w vs) := by
  unfold aft
  rw [List.foldl_append]
  rfl
end KS
namespace KS
open PySem PySem.Spec PyProof.Rows L2
/-- the values of a line, a new list -/
theorem pick_line {K : PySem.W.Frag} {t' : Addr} {σ : L2.St} {H : Hp} {Q : VK} {vs l : List Int} {i1 i2 i3 : Nat} {tt : Addr} (h1 : σ[i1]? = some (some (.ref t'))) (h2 : σ[i2]? = some (some (.ref tt))) (hlt : H t' = some (.lst (l.map V.int))) (ht : SqT K H tt (vs.map V.int))
    (hm : ∀ k ∈ l, ∃ j : Nat, k = (j : Int) ∧ j < vs.length) (hl : l.length ≤ 24) (h3 : i3 < σ.length) (h13 : i2 ≠ i3)
    (k : ∀ D, H D = none → Q (.ref D) (upd H D (.lst ((l.map (getI vs)).map V.int)))) :
    tLc (iList K (tVar i1)) (gName i3) tYes (tOp (rIxT K) (tVar i2) (tVar i3)) [i3] σ H Q := by
  refine ⟨_, h1, t', rfl, ⟨_, SqL.of hlt⟩, fun D nD => ?_⟩
  have ntD : t' ≠ D := ne_of_none hlt nD
  refine lc_list (K := K) (a := t') (xs := l.map V.int) (fun j G => G = upd H D (.lst (((l.take j).map (getI vs)).map V.int))) ?_ ?_ ?_ ?_
  · rfl
  · rintro j G _ rfl
    exact SqL.of (by rw [upd_ne ntD]; exact hlt)
  · rintro j x G hj rfl
    rw [List.getElem?_map] at hj
    cases ev : l[j]? with
    | none =>
      rw [ev] at hj
      cases hj
    | some k =>
      rw [ev] at hj
      cases hj
      obtain ⟨j', rfl, hj'⟩ := hm k (List.mem_of_getElem? ev)
      refine ⟨?_, .ref tt, ?_, .int (j' : Int), ?_, tt, _, _, .int (getI vs (j' : Int)), rfl, rfl, same_seqT (same_new nD) ht, atI_nat (getI_at hj'), _, upd_same, ?_, ?_⟩
      · show ((σ.set i3 none).set i3 _).set i3 none = σ.set i3 none
        rw [List.set_set, List.set_set]
      · show ((σ.set i3 none).set i3 _)[i2]? = _
        rw [List.set_set, List.getElem?_set_ne (Ne.symm h13)]
        exact h2
      · show ((σ.set i3 none).set i3 _)[i3]? = _
        rw [List.set_set, List.getElem?_set_self h3]
      · rw [List.length_map, List.length_map, List.length_take]
        exact small64 (by omega)
      · rw [upd_upd, List.take_add_one, ev, List.map_append, List.map_append]
        rfl
  · rintro G rfl
    rw [List.length_map, List.take_length]
    exact k D nD
end KS
namespace KS
open PySem PySem.Spec PyProof.Rows L2
theorem rd_ifNe {K : PySem.W.Frag} {ta tb : TE} {t u : TS} {D : Ends} {σ : L2.St} {H : Hp} (h : ta σ H fun x H1 => tb σ H1 fun y H2 => rNeD K x y H2 fun v H3 => ∃ k, v = .bl k ∧ if k = true then t D σ H3 else u D σ H3) :
    tIfS (tTest (tOp (rNeD K) ta tb)) t u D σ H := h
theorem rd_cb1 {r : List V → Hp → VK → Prop} {ta : TE} {σ : L2.St} {H : Hp} {Q : VK} (h : ta σ H fun x H1 => r [x] H1 Q) : tCB r (tCons ta tNil) σ H Q := h
theorem up_if {K : PySem.W.Frag} {t' : Addr} {σ : L2.St} {H : Hp} {vs l : List Int} {i1 i2 i3 : Nat} {tt : Addr} {tb : TS} {D : Ends} (h1 : σ[i1]? = some (some (.ref t'))) (h2 : σ[i2]? = some (some (.ref tt))) (hlt : H t' = some (.lst (l.map V.int))) (ht : SqT K H tt (vs.map V.int))
    (hm : ∀ k ∈ l, ∃ j : Nat, k = (j : Int) ∧ j < vs.length) (hl : l.length ≤ 24) (h3 : i3 < σ.length) (h13 : i2 ≠ i3)
    (k1 : ∀ H', Same H H' → upL vs l = true → D.nx σ H') (k2 : ∀ H', Same H H' → upL vs l = false → tb D σ H') :
    tIfS (tTest (tOp (rNeD K) (tLc (iList K (tVar i1)) (gName i3) tYes (tOp (rIxT K) (tVar i2) (tVar i3)) [i3]) (tCB (rSortedI K) (tCons (tLc (iList K (tVar i1)) (gName i3) tYes (tOp (rIxT K) (tVar i2) (tVar i3)) [i3]) tNil)))) tb tNext D σ H := by
  refine rd_ifNe (pick_line (K := K) (σ := σ) h1 h2 hlt ht hm hl h3 h13 (fun D1 n1 => ?_))
  have s1 := same_new (o := .lst ((l.map (getI vs)).map V.int)) n1
  refine rd_cb1 (pick_line (K := K) (σ := σ) h1 h2 (s1 _ _ hlt) (same_seqT s1 ht) hm hl h3 h13 (fun D2 n2 => ?_))
  have s2 := same_new (o := .lst ((l.map (getI vs)).map V.int)) n2
  refine ⟨D2, _, rfl, SqL.of upd_same, fun ys D3 perm asc n3 => ?_⟩
  have ey := sortI_eq perm asc
  have s3 := same_new (o := .lst (ys.map V.int)) n3
  refine ⟨_, _, .lst (SqL.of (s3 _ _ (s2 _ _ upd_same))) (dp_ints _), .lst (SqL.of upd_same) (dp_ints _), ints_shaped _, ints_shaped _, _, rfl, ?_⟩
  rw [ints_eqvL]
  have sm := (s1.trans s2).trans s3
  by_cases c : l.map (getI vs) = ys
  · rw [decide_eq_true c]
    refine k1 _ sm ?_
    unfold upL
    rw [← ey]
    exact decide_eq_true c
  · rw [decide_eq_false c]
    refine k2 _ sm ?_
    unfold upL
    rw [← ey]
    exact decide_eq_false c
end KS
namespace KS
open PySem PySem.Spec PyProof.Rows L2
/-- l.count(x), l a list of plain data, x plain data -/
def rCntD (K : PySem.W.Frag) : V → List V → Hp → VK → Prop := fun x xs H Q => ∃ (p : Addr) (ys : List V) (ds : List PyData) (y : V) (d : PyData), x = .ref p ∧ xs = [y] ∧ SqL K H p ys ∧ DpAll K H ys ds ∧ Dp K H y d ∧
  PyData.plainAll ds = true ∧ d.plain = true ∧ d.depth ≤ 60 ∧ Q (.int ((ds.countP fun z => PyData.eqv z d : Nat) : Int)) H
theorem mt_lcountD {X : Cx} (hu : X.A.units + 65 < cLine) : MtR X "list.count" (rCntD X.K) := by
  intro pins s σ H x xs v us Q I rx rs h
  obtain ⟨p, ys, ds, y, d, rfl, rfl, hl, hds, hd, p1, p2, dp, q⟩ := h
  cases rx
  obtain ⟨u, rfl, ru⟩ := rs.one
  obtain ⟨its, rv, pl, hlen⟩ := I.list hl
  obtain ⟨as, hr⟩ := Dp.readsAll I ds ys its hds rv
  obtain ⟨bs, r2⟩ := Dp.reads I d y u hd ru
  refine SeqAt.count_list_data pl.isList (by simpa using hr) r2 p1 p2 ?_ ⟨.int _, H, I.tok _, ⟨_, rfl⟩, q⟩
  have h2 : min (PyData.depthAll ds) d.depth ≤ d.depth := Nat.min_le_right _ _
  omega
/-- the tables of a list that are one -/
theorem count_ints (T : List Int) (ls : List (List Int)) : (ls.map lineD).countP (fun z => PyData.eqv z (lineD T)) = ls.count T := by
  rw [List.countP_map, List.count]
  refine List.countP_congr fun l _ => ?_
  show PyData.eqv (lineD l) (lineD T) = true ↔ (l == T) = true
  rw [ints_eqvT]
  simp
theorem plain_ints : ∀ l : List Int, PyData.plainAll (l.map PyData.int) = true
  | [] => rfl
  | x :: l => by
    show (PyData.plain (.int x) && PyData.plainAll (l.map PyData.int)) = true
    rw [plain_ints l]
    rfl
theorem plain_line (l : List Int) : (lineD l).plain = true := by
  show PyData.plainAll (l.map PyData.int) = true
  exact plain_ints l
theorem plain_lines : ∀ ls : List (List Int), PyData.plainAll (ls.map lineD) = true
  | [] => rfl
  | l :: ls => by
    show ((lineD l).plain && PyData.plainAll (ls.map lineD)) = true
    rw [plain_line, plain_lines ls]
    rfl
end KS
namespace KS
open PySem PySem.Spec PyProof.Rows L2
theorem ExAt.same {H H' : Hp} (s : Same H H') {a C : Addr} {fs : Option (List (Str × V))} (h : ExAt H a C fs) : ExAt H' a C fs := by
  cases h with
  | bare e => exact .bare (s _ _ e)
  | full e ed => exact .full (s _ _ e) (s _ _ ed)
/-- the classes of errors of the program, by their numbers, and their bases -/
def clsNames : List Str := ["InvalidPlan", "InvalidKind", "InvalidFilling", "InvalidNumber", "InvalidWord", "InvalidProgram", "InvalidText", "InvalidLengths", "InvalidTable", "InvalidRecord", "InvalidCell", "InvalidValue", "InvalidEdit", "InvalidCommand", "OtherValues", "UnknownName", "NoOrder", "ValueTaken", "NothingToUndo", "TooManyCells", "TooManyEdits"]
structure Kinds (K : PySem.W.Frag) (mg : Str → Option Value) (cs bs : Nat → Addr) : Prop where
  m0 : mg "InvalidPlan" = some (.ref (cs 0))
  m1 : mg "InvalidKind" = some (.ref (cs 1))
  m2 : mg "InvalidFilling" = some (.ref (cs 2))
  m3 : mg "InvalidNumber" = some (.ref (cs 3))
  m4 : mg "InvalidWord" = some (.ref (cs 4))
  m5 : mg "InvalidProgram" = some (.ref (cs 5))
  m6 : mg "InvalidText" = some (.ref (cs 6))
  m7 : mg "InvalidLengths" = some (.ref (cs 7))
  m8 : mg "InvalidTable" = some (.ref (cs 8))
  m9 : mg "InvalidRecord" = some (.ref (cs 9))
  m10 : mg "InvalidCell" = some (.ref (cs 10))
  m11 : mg "InvalidValue" = some (.ref (cs 11))
  m12 : mg "InvalidEdit" = some (.ref (cs 12))
  m13 : mg "InvalidCommand" = some (.ref (cs 13))
  m14 : mg "OtherValues" = some (.ref (cs 14))
  m15 : mg "UnknownName" = some (.ref (cs 15))
  m16 : mg "NoOrder" = some (.ref (cs 16))
  m17 : mg "ValueTaken" = some (.ref (cs 17))
  m18 : mg "NothingToUndo" = some (.ref (cs 18))
  m19 : mg "TooManyCells" = some (.ref (cs 19))
  m20 : mg "TooManyEdits" = some (.ref (cs 20))
  b0 : mg "SortError" = some (.ref (bs 0))
  b1 : mg "FindError" = some (.ref (bs 1))
  b2 : mg "LimitError" = some (.ref (bs 2))
  kit : ∀ i, i < 21 → ∀ j, j < 21 → PySem.W.kitOne K (.ref (cs i)) (.ref (cs j)) = some (decide (i = j))
  kit0 : ∀ i, i < 21 → PySem.W.kitOne K (.ref (cs i)) (.ref (bs 0)) = some (decide (i < 14))
  kit1 : ∀ i, i < 21 → PySem.W.kitOne K (.ref (cs i)) (.ref (bs 1)) = some (decide (14 ≤ i ∧ i < 19))
  kit2 : ∀ i, i < 21 → PySem.W.kitOne K (.ref (cs i)) (.ref (bs 2)) = some (decide (19 ≤ i))
  own0 : ∀ i, i < 21 → PySem.W.kitOne K (.ref (cs i)) (.type "ValueError") = some (decide (i < 14))
  own1 : ∀ i, i < 21 → PySem.W.kitOne K (.ref (cs i)) (.type "LookupError") = some (decide (14 ≤ i ∧ i < 19))
  own2 : ∀ i, i < 21 → PySem.W.kitOne K (.ref (cs i)) (.type "ArithmeticError") = some (decide (19 ≤ i))
  ec : ∀ i, i < 21 → ExcC K (cs i)
def spLKind (K : PySem.W.Frag) (cs : Nat → Addr) : Sp := fun vs H Q _ => ∃ (a : Addr) (i : Nat) (fs : Option (List (Str × V))), vs = [.ref a] ∧ i < 21 ∧ ExAt H a (cs i) fs ∧ ∀ H', Same H H' → Q (.int (i : Nat)) H'
abbrev sLKind : Stmt := topS 36
abbrev nLKind : List Str := ["_law_e", "_law_found", "_law_bases", "_law_own", "_law_at"]
theorem scLKind : FnScope nLKind ["_law_e"] (defScope sLKind) := ⟨rfl, rfl, rfl, by decide +kernel, rfl, by decide +kernel, by decide +kernel⟩
theorem kd_count : ∀ i, i < 21 → (((List.range 21).map fun j => PyData.bool (decide (i = j))).countP fun z => PyData.eqv z (.bool true)) = 1 := by decide +kernel
theorem kd_at : ∀ i, i < 21 → ((List.range 21).map fun j => V.bl (decide (i = j)))[i]? = some (.bl true) := by decide +kernel
theorem kd_before : ∀ i, i < 21 → ∀ m, m < i → ((List.range 21).map fun j => V.bl (decide (i = j)))[m]? = some (.bl false) := by decide +kernel
theorem kd_flat : ∀ i, i < 21 → (((List.range 21).map fun j => V.bl (decide (i = j))).all flatV) = true := by decide +kernel
theorem kd_plain : ∀ i, i < 21 → PyData.plainAll ((List.range 21).map fun j => PyData.bool (decide (i = j))) = true := by decide +kernel
theorem kd_shape : ∀ x y z : Bool, SeqAt.shaped (.list [.bool x, .bool y, .bool z]) = true := by decide +kernel
theorem kd_eqv : ∀ x y z : Bool, PyData.eqv (.list [.bool x, .bool y, .bool z]) (.list [.bool x, .bool y, .bool z]) = true := by decide +kernel
theorem dp_bls {K : PySem.W.Frag} {H : Hp} : ∀ l : List Bool, DpAll K H (l.map V.bl) (l.map PyData.bool)
  | [] => .nil
  | b :: l => .cons (.bl b) (dp_bls l)
section
variable {P : Program} {w : World} {K : PySem.W.Frag} {mg : Str → Option Value} {base : Heap}
theorem ok_lkind {f : Addr} {fd : FuncData} {cs bs : Nat → Addr} (F : Fun K "_law_kind" "_law_kind" sLKind f fd) (J : Kinds K mg cs bs) (mi : mg "isinstance" = none) (mV : mg "ValueError" = none) (mL : mg "LookupError" = none) (mA : mg "ArithmeticError" = none) :
    FnOk P w K mg base CX0 1 f fd ["_law_e"] (spLKind K cs) := by
  refine F.ok scLKind (fun vs H Q E h => ?_) (fun cdv A outer s H vs Q E hr h => ?_)
  · obtain ⟨a, i, fs, rfl, _⟩ := h
    rfl
  · obtain ⟨a, i, fs, rfl, hi, ex, q⟩ := h
    have nd := scLKind.nd
    have hu66 : (A.deeper (envOfC "_law_kind" (defScope sLKind) s.heap.objs.size f cdv)).units + 65 < cLine := by
      have := hr.un
      omega
    refine ⟨_, pss_cons (ps_set (i := 1) nd rfl (.inl rfl) (pe_lst (pa_cons (pe_callB call_isX (by rfl) mi (by decide +kernel) (pa_cons (pv 0) (pa_cons (pe_glob (v := .ref (cs 0)) (by rfl) J.m0 rfl) pa_nil))) (pa_cons (pe_callB call_isX (by rfl) mi (by decide +kernel) (pa_cons (pv 0) (pa_cons (pe_glob (v := .ref (cs 1)) (by rfl) J.m1 rfl) pa_nil))) (pa_cons (pe_callB call_isX (by rfl) mi (by decide +kernel) (pa_cons (pv 0) (pa_cons (pe_glob (v := .ref (cs 2)) (by rfl) J.m2 rfl) pa_nil))) pa_nil)))))
      (pss_cons (ps_set (i := 1) nd rfl (.inl rfl) (pe_op op_cat (pv 1) (pe_lst (pa_cons (pe_callB call_isX (by rfl) mi (by decide +kernel) (pa_cons (pv 0) (pa_cons (pe_glob (v := .ref (cs 3)) (by rfl) J.m3 rfl) pa_nil))) (pa_cons (pe_callB call_isX (by rfl) mi (by decide +kernel) (pa_cons (pv 0) (pa_cons (pe_glob (v := .ref (cs 4)) (by rfl) J.m4 rfl) pa_nil))) (pa_cons (pe_callB call_isX (by rfl) mi (by decide +kernel) (pa_cons (pv 0) (pa_cons (pe_glob (v := .ref (cs 5)) (by rfl) J.m5 rfl) pa_nil))) pa_nil))))))
      (pss_cons (ps_set (i := 1) nd rfl (.inl rfl) (pe_op op_cat (pv 1) (pe_lst (pa_cons (pe_callB call_isX (by rfl) mi (by decide +kernel) (pa_cons (pv 0) (pa_cons (pe_glob (v := .ref (cs 6)) (by rfl) J.m6 rfl) pa_nil))) (pa_cons (pe_callB call_isX (by rfl) mi (by decide +kernel) (pa_cons (pv 0) (pa_cons (pe_glob (v := .ref (cs 7)) (by rfl) J.m7 rfl) pa_nil))) (pa_cons (pe_callB call_isX (by rfl) mi (by decide +kernel) (pa_cons (pv 0) (pa_cons (pe_glob (v := .ref (cs 8)) (by rfl) J.m8 rfl) pa_nil))) pa_nil))))))
      (pss_cons (ps_set (i := 1) nd rfl (.inl rfl) (pe_op op_cat (pv 1) (pe_lst (pa_cons (pe_callB call_isX (by rfl) mi (by decide +kernel) (pa_cons (pv 0) (pa_cons (pe_glob (v := .ref (cs 9)) (by rfl) J.m9 rfl) pa_nil))) (pa_cons (pe_callB call_isX (by rfl) mi (by decide +kernel) (pa_cons (pv 0) (pa_cons (pe_glob (v := .ref (cs 10)) (by rfl) J.m10 rfl) pa_nil))) (pa_cons (pe_callB call_isX (by rfl) mi (by decide +kernel) (pa_cons (pv 0) (pa_cons (pe_glob (v := .ref (cs 11)) (by rfl) J.m11 rfl) pa_nil))) pa_nil))))))
      (pss_cons (ps_set (i := 1) nd rfl (.inl rfl) (pe_op op_cat (pv 1) (pe_lst (pa_cons (pe_callB call_isX (by rfl) mi (by decide +kernel) (pa_cons (pv 0) (pa_cons (pe_glob (v := .ref (cs 12)) (by rfl) J.m12 rfl) pa_nil))) (pa_cons (pe_callB call_isX (by rfl) mi (by decide +kernel) (pa_cons (pv 0) (pa_cons (pe_glob (v := .ref (cs 13)) (by rfl) J.m13 rfl) pa_nil))) (pa_cons (pe_callB call_isX (by rfl) mi (by decide +kernel) (pa_cons (pv 0) (pa_cons (pe_glob (v := .ref (cs 14)) (by rfl) J.m14 rfl) pa_nil))) pa_nil))))))
      (pss_cons (ps_set (i := 1) nd rfl (.inl rfl) (pe_op op_cat (pv 1) (pe_lst (pa_cons (pe_callB call_isX (by rfl) mi (by decide +kernel) (pa_cons (pv 0) (pa_cons (pe_glob (v := .ref (cs 15)) (by rfl) J.m15 rfl) pa_nil))) (pa_cons (pe_callB call_isX (by rfl) mi (by decide +kernel) (pa_cons (pv 0) (pa_cons (pe_glob (v := .ref (cs 16)) (by rfl) J.m16 rfl) pa_nil))) (pa_cons (pe_callB call_isX (by rfl) mi (by decide +kernel) (pa_cons (pv 0) (pa_cons (pe_glob (v := .ref (cs 17)) (by rfl) J.m17 rfl) pa_nil))) pa_nil))))))
      (pss_cons (ps_set (i := 1) nd rfl (.inl rfl) (pe_op op_cat (pv 1) (pe_lst (pa_cons (pe_callB call_isX (by rfl) mi (by decide +kernel) (pa_cons (pv 0) (pa_cons (pe_glob (v := .ref (cs 18)) (by rfl) J.m18 rfl) pa_nil))) (pa_cons (pe_callB call_isX (by rfl) mi (by decide +kernel) (pa_cons (pv 0) (pa_cons (pe_glob (v := .ref (cs 19)) (by rfl) J.m19 rfl) pa_nil))) (pa_cons (pe_callB call_isX (by rfl) mi (by decide +kernel) (pa_cons (pv 0) (pa_cons (pe_glob (v := .ref (cs 20)) (by rfl) J.m20 rfl) pa_nil))) pa_nil))))))
      (pss_cons (ps_set (i := 2) nd rfl (.inl rfl) (pe_lst (pa_cons (pe_callB call_isX (by rfl) mi (by decide +kernel) (pa_cons (pv 0) (pa_cons (pe_glob (v := .ref (bs 0)) (by rfl) J.b0 rfl) pa_nil))) (pa_cons (pe_callB call_isX (by rfl) mi (by decide +kernel) (pa_cons (pv 0) (pa_cons (pe_glob (v := .ref (bs 1)) (by rfl) J.b1 rfl) pa_nil))) (pa_cons (pe_callB call_isX (by rfl) mi (by decide +kernel) (pa_cons (pv 0) (pa_cons (pe_glob (v := .ref (bs 2)) (by rfl) J.b2 rfl) pa_nil))) pa_nil)))))
      (pss_cons (ps_set (i := 3) nd rfl (.inl rfl) (pe_lst (pa_cons (pe_callB call_isX (by rfl) mi (by decide +kernel) (pa_cons (pv 0) (pa_cons (pe_bltn (v := .ty "ValueError") (by rfl) mV (by decide +kernel) rfl) pa_nil))) (pa_cons (pe_callB call_isX (by rfl) mi (by decide +kernel) (pa_cons (pv 0) (pa_cons (pe_bltn (v := .ty "LookupError") (by rfl) mL (by decide +kernel) rfl) pa_nil))) (pa_cons (pe_callB call_isX (by rfl) mi (by decide +kernel) (pa_cons (pv 0) (pa_cons (pe_bltn (v := .ty "ArithmeticError") (by rfl) mA (by decide +kernel) rfl) pa_nil))) pa_nil)))))
      (pss_cons (ps_if (PW.pt (pw_or (pt_cmpR op_ne (pe_bm PySem.F.plainAttrs_list PySem.F.slot_list_count PySem.F.type_list_count (mt_lcountD hu66) (pv 1) (pa_cons pe_bl pa_nil)) pe_int (nomark _)) (pw_or1 (pt_cmpR (op_neD hr.units) (pv 3) (pv 2) (nomark _))))) (pss_one (ps_ret (pe_op op_sub pe_int pe_int))) pss_nil)
      (pss_cons (ps_set (i := 4) nd rfl (.inl rfl) (pe_bm PySem.F.plainAttrs_list PySem.F.slot_list_index PySem.F.type_list_index mt_index (pv 1) (pa_cons pe_bl pa_nil)))
      (pss_one (ps_ret (pe_ifExp (pt_cmpR (op_eqD hr.units) (pv 2) (pe_lst (pa_cons (pe_cmpR op_lt (pv 4) pe_int (nomark _)) (pa_cons (pe_chain op_lt op_lt pe_int (pv 4) pe_int) (pa_cons (pe_cmpR op_gt (pv 4) pe_int (nomark _)) pa_nil)))) (nomark _)) (pv 4) (pe_op op_sub pe_int pe_int)))))))))))))), ?_⟩
    refine ⟨_, rfl, a, cs i, fs, .ref (cs 0), .ref (cs 0), _, rfl, ex, J.ec i hi, .own _, J.kit i hi 0 (by decide), ?_⟩
    refine ⟨_, rfl, a, cs i, fs, .ref (cs 1), .ref (cs 1), _, rfl, ex, J.ec i hi, .own _, J.kit i hi 1 (by decide), ?_⟩
    refine ⟨_, rfl, a, cs i, fs, .ref (cs 2), .ref (cs 2), _, rfl, ex, J.ec i hi, .own _, J.kit i hi 2 (by decide), ?_⟩
    refine ⟨by show 3 ≤ sizeLine; decide, fun A0 nA0 => ?_⟩
    have sA0 := same_new (o := .lst [.bl (decide (i = 0)), .bl (decide (i = 1)), .bl (decide (i = 2))]) nA0
    have ex := ex.same sA0
    have hF1 : upd H A0 (.lst [.bl (decide (i = 0)), .bl (decide (i = 1)), .bl (decide (i = 2))]) A0 = some (.lst ((List.range 3).map fun j => V.bl (decide (i = j)))) := upd_same
    have s1 := sA0
    generalize upd H A0 (.lst [.bl (decide (i = 0)), .bl (decide (i = 1)), .bl (decide (i = 2))]) = H1 at ex hF1 s1
    refine ⟨_, rfl, ?_⟩
    refine ⟨_, rfl, a, cs i, fs, .ref (cs 3), .ref (cs 3), _, rfl, ex, J.ec i hi, .own _, J.kit i hi 3 (by decide), ?_⟩
    refine ⟨_, rfl, a, cs i, fs, .ref (cs 4), .ref (cs 4), _, rfl, ex, J.ec i hi, .own _, J.kit i hi 4 (by decide), ?_⟩
    refine ⟨_, rfl, a, cs i, fs, .ref (cs 5), .ref (cs 5), _, rfl, ex, J.ec i hi, .own _, J.kit i hi 5 (by decide), ?_⟩
    refine ⟨by show 3 ≤ sizeLine; decide, fun A1 nA1 => ?_⟩
    have sA1 := same_new (o := .lst [.bl (decide (i = 3)), .bl (decide (i = 4)), .bl (decide (i = 5))]) nA1
    have ex := ex.same sA1
    refine ⟨A0, A1, _, _, rfl, rfl, sA1 _ _ hF1, upd_same, by rw [List.length_map, List.length_range, sizeLine_eq]; show _ + 3 ≤ _; omega, fun L2 nL2 => ?_⟩
    have sL2 := same_new (o := .lst ((List.range 3).map (fun j => V.bl (decide (i = j))) ++ [.bl (decide (i = 3)), .bl (decide (i = 4)), .bl (decide (i = 5))])) nL2
    have ex := ex.same sL2
    have hF2 : upd (upd H1 A1 (.lst [.bl (decide (i = 3)), .bl (decide (i = 4)), .bl (decide (i = 5))])) L2 (.lst ((List.range 3).map (fun j => V.bl (decide (i = j))) ++ [.bl (decide (i = 3)), .bl (decide (i = 4)), .bl (decide (i = 5))])) L2 = some (.lst ((List.range 6).map fun j => V.bl (decide (i = j)))) := upd_same
    have s2 := (s1.trans sA1).trans sL2
    generalize upd (upd H1 A1 (.lst [.bl (decide (i = 3)), .bl (decide (i = 4)), .bl (decide (i = 5))])) L2 (.lst ((List.range 3).map (fun j => V.bl (decide (i = j))) ++ [.bl (decide (i = 3)), .bl (decide (i = 4)), .bl (decide (i = 5))])) = H2 at ex hF2 s2
    refine ⟨_, rfl, ?_⟩
    refine ⟨_, rfl, a, cs i, fs, .ref (cs 6), .ref (cs 6), _, rfl, ex, J.ec i hi, .own _, J.kit i hi 6 (by decide), ?_⟩
    refine ⟨_, rfl, a, cs i, fs, .ref (cs 7), .ref (cs 7), _, rfl, ex, J.ec i hi, .own _, J.kit i hi 7 (by decide), ?_⟩
    refine ⟨_, rfl, a, cs i, fs, .ref (cs 8), .ref (cs 8), _, rfl, ex, J.ec i hi, .own _, J.kit i hi 8 (by decide), ?_⟩
    refine ⟨by show 3 ≤ sizeLine; decide, fun A2 nA2 => ?_⟩
    have sA2 := same_new (o := .lst [.bl (decide (i = 6)), .bl (decide (i = 7)), .bl (decide (i = 8))]) nA2
    have ex := ex.same sA2
    refine ⟨L2, A2, _, _, rfl, rfl, sA2 _ _ hF2, upd_same, by rw [List.length_map, List.length_range, sizeLine_eq]; show _ + 3 ≤ _; omega, fun L3 nL3 => ?_⟩
    have sL3 := same_new (o := .lst ((List.range 6).map (fun j => V.bl (decide (i = j))) ++ [.bl (decide (i = 6)), .bl (decide (i = 7)), .bl (decide (i = 8))])) nL3
    have ex := ex.same sL3
    have hF3 : upd (upd H2 A2 (.lst [.bl (decide (i = 6)), .bl (decide (i = 7)), .bl (decide (i = 8))])) L3 (.lst ((List.range 6).map (fun j => V.bl (decide (i = j))) ++ [.bl (decide (i = 6)), .bl (decide (i = 7)), .bl (decide (i = 8))])) L3 = some (.lst ((List.range 9).map fun j => V.bl (decide (i = j)))) := upd_same
    have s3 := (s2.trans sA2).trans sL3
    generalize upd (upd H2 A2 (.lst [.bl (decide (i = 6)), .bl (decide (i = 7)), .bl (decide (i = 8))])) L3 (.lst ((List.range 6).map (fun j => V.bl (decide (i = j))) ++ [.bl (decide (i = 6)), .bl (decide (i = 7)), .bl (decide (i = 8))])) = H3 at ex hF3 s3
    refine ⟨_, rfl, ?_⟩
    refine ⟨_, rfl, a, cs i, fs, .ref (cs 9), .ref (cs 9), _, rfl, ex, J.ec i hi, .own _, J.kit i hi 9 (by decide), ?_⟩
    refine ⟨_, rfl, a, cs i, fs, .ref (cs 10), .ref (cs 10), _, rfl, ex, J.ec i hi, .own _, J.kit i hi 10 (by decide), ?_⟩
    refine ⟨_, rfl, a, cs i, fs, .ref (cs 11), .ref (cs 11), _, rfl, ex, J.ec i hi, .own _, J.kit i hi 11 (by decide), ?_⟩
    refine ⟨by show 3 ≤ sizeLine; decide, fun A3 nA3 => ?_⟩
    have sA3 := same_new (o := .lst [.bl (decide (i = 9)), .bl (decide (i = 10)), .bl (decide (i = 11))]) nA3
    have ex := ex.same sA3
    refine ⟨L3, A3, _, _, rfl, rfl, sA3 _ _ hF3, upd_same, by rw [List.length_map, List.length_range, sizeLine_eq]; show _ + 3 ≤ _; omega, fun L4 nL4 => ?_⟩
    have sL4 := same_new (o := .lst ((List.range 9).map (fun j => V.bl (decide (i = j))) ++ [.bl (decide (i = 9)), .bl (decide (i = 10)), .bl (decide (i = 11))])) nL4
    have ex := ex.same sL4
    have hF4 : upd (upd H3 A3 (.lst [.bl (decide (i = 9)), .bl (decide (i = 10)), .bl (decide (i = 11))])) L4 (.lst ((List.range 9).map (fun j => V.bl (decide (i = j))) ++ [.bl (decide (i = 9)), .bl (decide (i = 10)), .bl (decide (i = 11))])) L4 = some (.lst ((List.range 12).map fun j => V.bl (decide (i = j)))) := upd_same
    have s4 := (s3.trans sA3).trans sL4
    generalize upd (upd H3 A3 (.lst [.bl (decide (i = 9)), .bl (decide (i = 10)), .bl (decide (i = 11))])) L4 (.lst ((List.range 9).map (fun j => V.bl (decide (i = j))) ++ [.bl (decide (i = 9)), .bl (decide (i = 10)), .bl (decide (i = 11))])) = H4 at ex hF4 s4
    refine ⟨_, rfl, ?_⟩
    refine ⟨_, rfl, a, cs i, fs, .ref (cs 12), .ref (cs 12), _, rfl, ex, J.ec i hi, .own _, J.kit i hi 12 (by decide), ?_⟩
    refine ⟨_, rfl, a, cs i, fs, .ref (cs 13), .ref (cs 13), _, rfl, ex, J.ec i hi, .own _, J.kit i hi 13 (by decide), ?_⟩
    refine ⟨_, rfl, a, cs i, fs, .ref (cs 14), .ref (cs 14), _, rfl, ex, J.ec i hi, .own _, J.kit i hi 14 (by decide), ?_⟩
    refine ⟨by show 3 ≤ sizeLine; decide, fun A4 nA4 => ?_⟩
    have sA4 := same_new (o := .lst [.bl (decide (i = 12)), .bl (decide (i = 13)), .bl (decide (i = 14))]) nA4
    have ex := ex.same sA4
    refine ⟨L4, A4, _, _, rfl, rfl, sA4 _ _ hF4, upd_same, by rw [List.length_map, List.length_range, sizeLine_eq]; show _ + 3 ≤ _; omega, fun L5 nL5 => ?_⟩
    have sL5 := same_new (o := .lst ((List.range 12).map (fun j => V.bl (decide (i = j))) ++ [.bl (decide (i = 12)), .bl (decide (i = 13)), .bl (decide (i = 14))])) nL5
    have ex := ex.same sL5
    have hF5 : upd (upd H4 A4 (.lst [.bl (decide (i = 12)), .bl (decide (i = 13)), .bl (decide (i = 14))])) L5 (.lst ((List.range 12).map (fun j => V.bl (decide (i = j))) ++ [.bl (decide (i = 12)), .bl (decide (i = 13)), .bl (decide (i = 14))])) L5 = some (.lst ((List.range 15).map fun j => V.bl (decide (i = j)))) := upd_same
    have s5 := (s4.trans sA4).trans sL5
    generalize upd (upd H4 A4 (.lst [.bl (decide (i = 12)), .bl (decide (i = 13)), .bl (decide (i = 14))])) L5 (.lst ((List.range 12).map (fun j => V.bl (decide (i = j))) ++ [.bl (decide (i = 12)), .bl (decide (i = 13)), .bl (decide (i = 14))])) = H5 at ex hF5 s5
    refine ⟨_, rfl, ?_⟩
    refine ⟨_, rfl, a, cs i, fs, .ref (cs 15), .ref (cs 15), _, rfl, ex, J.ec i hi, .own _, J.kit i hi 15 (by decide), ?_⟩
    refine ⟨_, rfl, a, cs i, fs, .ref (cs 16), .ref (cs 16), _, rfl, ex, J.ec i hi, .own _, J.kit i hi 16 (by decide), ?_⟩
    refine ⟨_, rfl, a, cs i, fs, .ref (cs 17), .ref (cs 17), _, rfl, ex, J.ec i hi, .own _, J.kit i hi 17 (by decide), ?_⟩
    refine ⟨by show 3 ≤ sizeLine; decide, fun A5 nA5 => ?_⟩
    have sA5 := same_new (o := .lst [.bl (decide (i = 15)), .bl (decide (i = 16)), .bl (decide (i = 17))]) nA5
    have ex := ex.same sA5
    refine ⟨L5, A5, _, _, rfl, rfl, sA5 _ _ hF5, upd_same, by rw [List.length_map, List.length_range, sizeLine_eq]; show _ + 3 ≤ _; omega, fun L6 nL6 => ?_⟩
    have sL6 := same_new (o := .lst ((List.range 15).map (fun j => V.bl (decide (i = j))) ++ [.bl (decide (i = 15)), .bl (decide (i = 16)), .bl (decide (i = 17))])) nL6
    have ex := ex.same sL6
    have hF6 : upd (upd H5 A5 (.lst [.bl (decide (i = 15)), .bl (decide (i = 16)), .bl (decide (i = 17))])) L6 (.lst ((List.range 15).map (fun j => V.bl (decide (i = j))) ++ [.bl (decide (i = 15)), .bl (decide (i = 16)), .bl (decide (i = 17))])) L6 = some (.lst ((List.range 18).map fun j => V.bl (decide (i = j)))) := upd_same
    have s6 := (s5.trans sA5).trans sL6
    generalize upd (upd H5 A5 (.lst [.bl (decide (i = 15)), .bl (decide (i = 16)), .bl (decide (i = 17))])) L6 (.lst ((List.range 15).map (fun j => V.bl (decide (i = j))) ++ [.bl (decide (i = 15)), .bl (decide (i = 16)), .bl (decide (i = 17))])) = H6 at ex hF6 s6
    refine ⟨_, rfl, ?_⟩
    refine ⟨_, rfl, a, cs i, fs, .ref (cs 18), .ref (cs 18), _, rfl, ex, J.ec i hi, .own _, J.kit i hi 18 (by decide), ?_⟩
    refine ⟨_, rfl, a, cs i, fs, .ref (cs 19), .ref (cs 19), _, rfl, ex, J.ec i hi, .own _, J.kit i hi 19 (by decide), ?_⟩
    refine ⟨_, rfl, a, cs i, fs, .ref (cs 20), .ref (cs 20), _, rfl, ex, J.ec i hi, .own _, J.kit i hi 20 (by decide), ?_⟩
    refine ⟨by show 3 ≤ sizeLine; decide, fun A6 nA6 => ?_⟩
    have sA6 := same_new (o := .lst [.bl (decide (i = 18)), .bl (decide (i = 19)), .bl (decide (i = 20))]) nA6
    have ex := ex.same sA6
    refine ⟨L6, A6, _, _, rfl, rfl, sA6 _ _ hF6, upd_same, by rw [List.length_map, List.length_range, sizeLine_eq]; show _ + 3 ≤ _; omega, fun L7 nL7 => ?_⟩
    have sL7 := same_new (o := .lst ((List.range 18).map (fun j => V.bl (decide (i = j))) ++ [.bl (decide (i = 18)), .bl (decide (i = 19)), .bl (decide (i = 20))])) nL7
    have ex := ex.same sL7
    have hF7 : upd (upd H6 A6 (.lst [.bl (decide (i = 18)), .bl (decide (i = 19)), .bl (decide (i = 20))])) L7 (.lst ((List.range 18).map (fun j => V.bl (decide (i = j))) ++ [.bl (decide (i = 18)), .bl (decide (i = 19)), .bl (decide (i = 20))])) L7 = some (.lst ((List.range 21).map fun j => V.bl (decide (i = j)))) := upd_same
    have s7 := (s6.trans sA6).trans sL7
    generalize upd (upd H6 A6 (.lst [.bl (decide (i = 18)), .bl (decide (i = 19)), .bl (decide (i = 20))])) L7 (.lst ((List.range 18).map (fun j => V.bl (decide (i = j))) ++ [.bl (decide (i = 18)), .bl (decide (i = 19)), .bl (decide (i = 20))])) = H7 at ex hF7 s7
    refine ⟨_, rfl, a, cs i, fs, .ref (bs 0), .ref (bs 0), _, rfl, ex, J.ec i hi, .own _, J.kit0 i hi, ?_⟩
    refine ⟨_, rfl, a, cs i, fs, .ref (bs 1), .ref (bs 1), _, rfl, ex, J.ec i hi, .own _, J.kit1 i hi, ?_⟩
    refine ⟨_, rfl, a, cs i, fs, .ref (bs 2), .ref (bs 2), _, rfl, ex, J.ec i hi, .own _, J.kit2 i hi, ?_⟩
    refine ⟨by show 3 ≤ sizeLine; decide, fun B nB => ?_⟩
    have sB := same_new (o := .lst [.bl (decide (i < 14)), .bl (decide (14 ≤ i ∧ i < 19)), .bl (decide (19 ≤ i))]) nB
    have ex := ex.same sB
    refine ⟨_, rfl, a, cs i, fs, .ty "ValueError", .type "ValueError", _, rfl, ex, J.ec i hi, .ty _, J.own0 i hi, ?_⟩
    refine ⟨_, rfl, a, cs i, fs, .ty "LookupError", .type "LookupError", _, rfl, ex, J.ec i hi, .ty _, J.own1 i hi, ?_⟩
    refine ⟨_, rfl, a, cs i, fs, .ty "ArithmeticError", .type "ArithmeticError", _, rfl, ex, J.ec i hi, .ty _, J.own2 i hi, ?_⟩
    refine ⟨by show 3 ≤ sizeLine; decide, fun O nO => ?_⟩
    have sO := same_new (o := .lst [.bl (decide (i < 14)), .bl (decide (14 ≤ i ∧ i < 19)), .bl (decide (19 ≤ i))]) nO
    have hF := sO _ _ (sB _ _ hF7)
    have hB : upd (upd H7 B (.lst [.bl (decide (i < 14)), .bl (decide (14 ≤ i ∧ i < 19)), .bl (decide (19 ≤ i))])) O (.lst [.bl (decide (i < 14)), .bl (decide (14 ≤ i ∧ i < 19)), .bl (decide (19 ≤ i))]) B = some (.lst [.bl (decide (i < 14)), .bl (decide (14 ≤ i ∧ i < 19)), .bl (decide (19 ≤ i))]) := sO _ _ upd_same
    have hO : upd (upd H7 B (.lst [.bl (decide (i < 14)), .bl (decide (14 ≤ i ∧ i < 19)), .bl (decide (19 ≤ i))])) O (.lst [.bl (decide (i < 14)), .bl (decide (14 ≤ i ∧ i < 19)), .bl (decide (19 ≤ i))]) O = some (.lst [.bl (decide (i < 14)), .bl (decide (14 ≤ i ∧ i < 19)), .bl (decide (19 ≤ i))]) := upd_same
    have s9 := (s7.trans sB).trans sO
    generalize upd (upd H7 B (.lst [.bl (decide (i < 14)), .bl (decide (14 ≤ i ∧ i < 19)), .bl (decide (19 ≤ i))])) O (.lst [.bl (decide (i < 14)), .bl (decide (14 ≤ i ∧ i < 19)), .bl (decide (19 ≤ i))]) = H9 at hF hB hO s9
    refine ⟨_, rfl, .inl ⟨rfl, _, SqL.of hF⟩, L7, _, (List.range 21).map fun j => PyData.bool (decide (i = j)), .bl true, .bool true, rfl, rfl, SqL.of hF, ?_, .bl true, kd_plain i hi, rfl, by decide, ?_⟩
    · have := dp_bls (K := K) (H := H9) ((List.range 21).map fun j => decide (i = j))
      rw [List.map_map, List.map_map] at this
      exact this
    rw [kd_count i hi]
    refine ⟨rfl, _, rfl, iteF ?_⟩
    refine ⟨_, rfl, _, rfl, .list [.bool (decide (i < 14)), .bool (decide (14 ≤ i ∧ i < 19)), .bool (decide (19 ≤ i))], .list [.bool (decide (i < 14)), .bool (decide (14 ≤ i ∧ i < 19)), .bool (decide (19 ≤ i))], .lst (SqL.of hO) (dp_bls [decide (i < 14), decide (14 ≤ i ∧ i < 19), decide (19 ≤ i)]), .lst (SqL.of hB) (dp_bls [decide (i < 14), decide (14 ≤ i ∧ i < 19), decide (19 ≤ i)]), kd_shape _ _ _, kd_shape _ _ _, _, rfl, ?_⟩
    rw [kd_eqv]
    refine iteF ?_
    refine ⟨_, rfl, .inl ⟨rfl, _, SqL.of hF⟩, L7, _, .bl true, i, .bl true, rfl, rfl, SqL.of hF, rfl, kd_flat i hi, kd_at i hi, rfl, fun m z hm hz => ?_, ?_⟩
    · rw [kd_before i hi m hm] at hz
      cases hz
      rfl
    have e1 : decide ((i : Int) < 14) = decide (i < 14) := by
      by_cases c : i < 14
      · rw [decide_eq_true c, decide_eq_true (by omega)]
      · rw [decide_eq_false c, decide_eq_false (by omega)]
    have e3 : decide ((18 : Int) < (i : Int)) = decide (19 ≤ i) := by
      by_cases c : 19 ≤ i
      · rw [decide_eq_true c, decide_eq_true (by omega)]
      · rw [decide_eq_false c, decide_eq_false (by omega)]
    refine ⟨_, rfl, _, rfl, _, _, rfl, rfl, ?_⟩
    refine ⟨_, rfl, _, _, rfl, rfl, decide ((13 : Int) < (i : Int)), rfl, ?_⟩
    cases c13 : decide ((13 : Int) < (i : Int)) with
    | true =>
      have h13 := of_decide_eq_true c13
      refine iteT ?_
      refine ⟨_, _, rfl, rfl, ?_⟩
      have e2 : decide ((i : Int) < 19) = decide (14 ≤ i ∧ i < 19) := by
        by_cases c : i < 19
        · rw [decide_eq_true (show 14 ≤ i ∧ i < 19 by omega), decide_eq_true (by omega)]
        · rw [decide_eq_false (show ¬(14 ≤ i ∧ i < 19) by omega), decide_eq_false (by omega)]
      refine ⟨_, rfl, _, _, rfl, rfl, ?_⟩
      dsimp only []
      rw [e1, e3, e2]
      refine ⟨by show 3 ≤ sizeLine; decide, fun Z nZ => ?_⟩
      have sZ := same_new (o := .lst [.bl (decide (i < 14)), .bl (decide (14 ≤ i ∧ i < 19)), .bl (decide (19 ≤ i))]) nZ
      refine ⟨.list [.bool (decide (i < 14)), .bool (decide (14 ≤ i ∧ i < 19)), .bool (decide (19 ≤ i))], .list [.bool (decide (i < 14)), .bool (decide (14 ≤ i ∧ i < 19)), .bool (decide (19 ≤ i))], .lst (SqL.of (sZ _ _ hB)) (dp_bls [decide (i < 14), decide (14 ≤ i ∧ i < 19), decide (19 ≤ i)]), .lst (SqL.of upd_same) (dp_bls [decide (i < 14), decide (14 ≤ i ∧ i < 19), decide (19 ≤ i)]), kd_shape _ _ _, kd_shape _ _ _, _, rfl, ?_⟩
      rw [kd_eqv]
      refine iteT ?_
      exact ⟨_, rfl, q _ (s9.trans sZ)⟩
    | false =>
      have h13 := of_decide_eq_false c13
      refine iteF ?_
      have e2 : false = decide (14 ≤ i ∧ i < 19) := (decide_eq_false (by omega)).symm
      refine ⟨_, rfl, _, _, rfl, rfl, ?_⟩
      dsimp only []
      rw [e1, e3, show V.bl false = V.bl (decide (14 ≤ i ∧ i < 19)) from congrArg V.bl e2]
      refine ⟨by show 3 ≤ sizeLine; decide, fun Z nZ => ?_⟩
      have sZ := same_new (o := .lst [.bl (decide (i < 14)), .bl (decide (14 ≤ i ∧ i < 19)), .bl (decide (19 ≤ i))]) nZ
      refine ⟨.list [.bool (decide (i < 14)), .bool (decide (14 ≤ i ∧ i < 19)), .bool (decide (19 ≤ i))], .list [.bool (decide (i < 14)), .bool (decide (14 ≤ i ∧ i < 19)), .bool (decide (19 ≤ i))], .lst (SqL.of (sZ _ _ hB)) (dp_bls [decide (i < 14), decide (14 ≤ i ∧ i < 19), decide (19 ≤ i)]), .lst (SqL.of upd_same) (dp_bls [decide (i < 14), decide (14 ≤ i ∧ i < 19), decide (19 ≤ i)]), kd_shape _ _ _, kd_shape _ _ _, _, rfl, ?_⟩
      rw [kd_eqv]
      refine iteT ?_
      exact ⟨_, rfl, q _ (s9.trans sZ)⟩
end
end KS
namespace KS
open PySem PySem.Spec PyProof.Rows L2
/-! ### t[::-1], t a tuple -/
section
variable {prog : Program} {w : World} {A : Around} {E : Value → Shared → Prop} {s : Shared}
theorem adjust_rev (n : Nat) : Builtin.Slice.sliceAdjust none none (-1) (n : Int) = ((n : Int) - 1, -1) := by
  first
  | rfl
  | simp [Builtin.Slice.sliceAdjust]
theorem places_rev (n : Nat) : Builtin.Slice.slicePlaces ((n : Int) - 1) (-1) (-1) = n := by
  unfold Builtin.Slice.slicePlaces
  by_cases h : n = 0
  · subst h
    decide
  · simp
    omega
theorem applied_rev {sl : Addr} {vl vu vs : Value} {n : Nat} {Q : Int × Int × Nat → Shared → Prop} (hs : s.heap.IsSliceOf sl vl vu vs) (pl : IsPart vl none) (pu : IsPart vu none) (ps : IsPart vs (some (-1)))
    (h : Q ((n : Int) - 1, -1, n) s) : wpAny (model prog w) A (Builtin.Slice.sliceApplied (.ref sl) (pure (n : Int))) Q E s := by
  obtain ⟨os, hos, hcs, hds⟩ := id hs
  unfold Builtin.Slice.sliceApplied Builtin.Slice.sliceFields
  refine wpAny_bind (wpAny_bind (wpAny_field hos hds (x := vl) rfl
    (wpAny_bind (wpAny_field hos hds (x := vu) rfl (wpAny_bind (wpAny_field hos hds (x := vs) rfl (wpAny_pure ?_)))))))
  refine wpAny_bind (HT.slicePart_ ps ?_)
  show wpAny _ _ (if ((-1 : Int) == 0) = true then _ else _) _ _ s
  rw [if_neg (by decide)]
  refine wpAny_bind (HT.slicePart_ pl (wpAny_bind (HT.slicePart_ pu (wpAny_bind (wpAny_pure ?_)))))
  show wpAny _ _ (match Builtin.Slice.sliceAdjust none none (-1) (n : Int) with | (lo, hi) => pure (lo, (-1 : Int), Builtin.Slice.slicePlaces lo hi (-1))) _ _ s
  rw [adjust_rev n]
  show wpAny _ _ (pure ((n : Int) - 1, (-1 : Int), Builtin.Slice.slicePlaces ((n : Int) - 1) (-1) (-1))) _ _ s
  rw [places_rev]
  exact wpAny_pure h
theorem pick_rev (xs : Array Value) : ((List.range xs.size).filterMap fun (k : Nat) => xs[(((xs.size : Int) - 1) + (k : Int) * (-1)).toNat]?).toArray = xs.toList.reverse.toArray := by
  have e : (fun (k : Nat) => xs[(((xs.size : Int) - 1) + (k : Int) * (-1)).toNat]?) = (xs[·]?) ∘ fun k => xs.size - 1 - k := by
    funext k
    show xs[(((xs.size : Int) - 1) + (k : Int) * (-1)).toNat]? = xs[xs.size - 1 - k]?
    have z : (((xs.size : Int) - 1) + (k : Int) * (-1)).toNat = xs.size - 1 - k := by omega
    rw [z]
  rw [e, ← List.filterMap_map, PySem.W.krv_range, List.filterMap_reverse, PySem.W.krv_all]
theorem getItem_tuple_rev {t sl : Addr} {items : Array Value} {vl vu vs : Value} {Q : Value → Shared → Prop} (ht : IsTup s.heap t items) (hs : s.heap.IsSliceOf sl vl vu vs) (pl : IsPart vl none) (pu : IsPart vu none)
    (ps : IsPart vs (some (-1))) (h : Q (.ref s.heap.objs.size) { s with heap := s.heap.push { cls := .type "tuple", data := .seq items.toList.reverse.toArray } }) (hsz : items.size ≤ sizeLine) :
    wpAny (model prog w) A (getItem (.ref t) (.ref sl)) Q E s := by
  have htake : sizeOk (.seq items.toList.reverse.toArray) := by
    show items.toList.reverse.toArray.size ≤ sizeLine
    rw [List.size_toArray, List.length_reverse, Array.length_toList]
    exact hsz
  obtain ⟨os, hos, hcs, hds⟩ := id hs
  have hTs : s.TypeIs (.ref sl) "slice" := ⟨os, hos, hcs⟩
  unfold getItem
  try with_reducible refine wpAny_holding ?_
  first | refine wpAny_bind (wpAny_pure ?_) | skip
  refine wpAny_bind (wpAny_sequenceKey ht.typeIs (by decide) ?_)
  refine wpAny_bind (wpAny_callSpecial?_slot (name := Str.ofString "__getitem__") ht.typeIs PyProof.Rows.slot_tuple_getitem (wpAny_call_entry PyProof.Rows.slot_tuple_getitem ht.typeIs entry_tuple_getitem ?_ (args_tuple_getitem _ _)))
  show wpAny _ _ (Builtin.Tuple.tupleItemsOf (.ref t) >>= _) _ _ s
  refine wpAny_bind (tupleItemsOf_ ht (wpAny_bind (wpAny_typeOf hTs ?_)))
  rw [if_pos (by decide)]
  refine wpAny_bind (applied_rev hs pl pu ps ?_)
  have hno : ¬ ((((items.size : Int) - 1) == 0 && (-1 : Int) == 1 && items.size == items.size) = true) := by
    simp
  show wpAny _ _ (if (((items.size : Int) - 1) == 0 && (-1 : Int) == 1 && items.size == items.size) = true then _ else _) _ _ s
  rw [if_neg hno, pick_rev]
  first
    | exact wpAny_bind (m := Builtin.Tuple.tupleExact _) (wpAny_newObj_type (wpAny_pure ⟨_, rfl, wpAny_pure h⟩) htake)
    | exact wpAny_bind (m := Builtin.Tuple.tupleExact _) (wpAny_newObj_type (wpAny_bind (wpAny_pure (wpAny_pure ⟨_, rfl, wpAny_pure h⟩))) htake)
    | exact wpAny_bind (wpAny_bind (m := Builtin.Tuple.tupleExact _) (wpAny_newObj_type (wpAny_pure (wpAny_pure ⟨_, rfl, wpAny_pure h⟩)) htake))
    | exact wpAny_bind (wpAny_bind (m := Builtin.Tuple.tupleExact _) (wpAny_newObj_type (wpAny_pure ⟨_, rfl, wpAny_pure h⟩) htake))
end
def tRevT (K : PySem.W.Frag) (te : TE) : TE := fun σ H Q => te σ H fun x H1 => ∃ a xs, x = .ref a ∧ SqT K H1 a xs ∧ ∀ p, H1 p = none → Q (.ref p) (upd H1 p (.tup xs.reverse))
theorem pe_revT {X : Cx} {e : Expr} {te : TE} {k : Nat} {p1 p2 p3 pos : Pos} (he : PE X e te) :
    PE X (.Subscript e (.Slice none none (some (.UnaryOp .USub (.Constant (.int 1) k p1) p2)) p3) pos) (tRevT X.K te) := by
  refine ⟨fun pins s σ H Q I h => Subscript_ (thn (he.run pins s σ H _ I h) fun v s1 hh => ?_)⟩
  obtain ⟨x, H1, I1, r1, a, xs, ex, hx, q⟩ := hh
  subst ex
  cases r1
  have hst : PO X (some (.UnaryOp .USub (.Constant (.int 1) k p1) p2)) (tPart (tUn (rU fun i => .int (-i)) (tC (.int 1)))) := po_some (pe_un un_neg pe_int)
  refine wpAny_Slice (thn (po_none.run pins s1 σ H1 (fun o H2 => o = none ∧ H2 = H1) I1 ⟨rfl, rfl⟩) fun vl s2 h2 => ?_)
  obtain ⟨l, H2, I2, pl, el, e2⟩ := h2
  subst el e2
  refine thn (po_none.run pins s2 σ H2 (fun o H3 => o = none ∧ H3 = H2) I2 ⟨rfl, rfl⟩) fun vu s3 h3 => ?_
  obtain ⟨u, H3, I3, pu, eu, e3⟩ := h3
  subst eu e3
  refine thn (hst.run pins s3 σ H3 (fun o H4 => o = some (-1) ∧ H4 = H3) I3 ⟨1, rfl, -1, rfl, rfl, rfl⟩) fun vs s4 h4 => ?_
  obtain ⟨o, H4, I4, ps, eo, e4⟩ := h4
  subst eo e4
  have I5 : Inv X pins σ H4 { s4 with heap := s4.heap.push { cls := .type "slice", data := .fields #[vl, vu, vs] } } :=
    I4.kept (t' := s4.toks) fun b ob q => Heap.get?_push_of_some _ q
  obtain ⟨its, r, ht, hz⟩ := I5.tuple hx
  have hlen := r.length
  show wpAny (model X.prog X.w) X.A (subscriptTail e (.Slice none none (some (.UnaryOp .USub (.Constant (.int 1) k p1) p2)) p3) (.ref a) (.ref s4.heap.objs.size)) (EP X pins σ Q) X.xe
    { s4 with heap := s4.heap.push { cls := .type "slice", data := .fields #[vl, vu, vs] } }
  refine tail_any (ops := [.ref a, .ref s4.heap.objs.size]) ht.typeIs PyProof.Rows.slot_tuple_getitem.lookup ?_ (by with_unfolding_all rfl)
  refine getItem_tuple_rev ht (Heap.IsSliceOf.new _ vl vu vs) pl pu ps ?_ (by rw [List.size_toArray]; omega)
  refine ⟨.ref _, _, I5.laid (t' := s4.toks) (o := .tup xs.reverse) (fun b ob q => Heap.get?_push_of_some _ q) (Nat.le_refl _) ?_, rfl, q _ (I5.hok.fresh (Nat.le_refl _))⟩
  exact ⟨by rw [List.length_reverse]; exact hz, _, r.reverse, IsTup.new _ _⟩
end KS
namespace PySem
namespace XInvalidPlan
open PySem.W PySem.Calls PyProof.Rows PySem.HandSPX
/-! ### the text of __init__ -/
def iA (p1 p2 : Pos) : Arguments := { posonlyargs := [], args := [{ arg := "self", annotation := none, pos := p1 }, { arg := "index", annotation := none, pos := p2 }], vararg := none, kwonlyargs := [], kw_defaults := [], kwarg := none, defaults := [] }
def iB (q1 q2 q3 q4 : Pos) : List Stmt := [.Assign [.Attribute (.Name "self" q1) "index" q2] (.Name "index" q3) q4]
def iS : Scope := { kind := .function, names := [(PySem.Str.ofString "self", .local), (PySem.Str.ofString "index", .local)], isGenerator := false, isCoroutine := false, more := [] }
/-- what the written part says of Low, at C, and of its __init__, at fI -/
structure InvalidPlanTxt (K : Frag) (mg : Str → Option Value) (C fI : Addr) : Prop where
  gC : mg "InvalidPlan" = some (.ref C)
  cls : ∃ nm q N bs bm sn sub ab col dd k0 k1 k2 k3 k5, K.lookup C = some (excClassObj nm q C N bs bm true sn sub ab col dd k0 k1 k2 k3 k5 "ValueError.__new__") ∧ refsVE bm = true
  sa : findIn K (.ref C) "__setattr__" = some (some (.builtin "object.__setattr__"))
  ga : findIn K (.ref C) "__getattribute__" = some (some (.builtin "BaseException.__getattribute__"))
  gg : findIn K (.ref C) "__getattr__" = some none
  noN : findIn K (.ref C) "index" = some none
  iC : findIn K (.ref C) "__init__" = some (some (.ref fI))
  tC : typeIn K (.ref fI) = some (.type "function")
  kC : keepIn K (.ref C) = true
  exC : subIn K (.ref C) (.type "BaseException") = some true
  tyC : typeIn K (.ref C) = some (.type "type")
  hdC : hasDictIn K C = true
  te : exmOne K (.ref C) (.ref C) = some true
  fn : ∃ (oc : Value) (od : Option Addr) (doc pm : Value) (an : Option Addr) (cdv ct : Value) (osl : Array (Option Value)) (p1 p2 q1 q2 q3 q4 : Pos),
    K.lookup fI = some ⟨oc, od, .func (fnOf "__init__" "InvalidPlan.__init__" (iA p1 p2) (iB q1 q2 q3 q4) iS .none .none doc pm an cdv ct), osl⟩ ∧ codeIn K cdv "InvalidPlan.__init__" = true
theorem one_size (v : Value) : [v].length ≤ sizeLine := by
  rw [sizeLine_eq]
  exact (by decide : 1 ≤ 16777216)
theorem kept_but {K : Frag} {h h' : Heap} {x : Addr} (X : K.In h) (hx : K.lookup x = none) (k : ∀ b o, b ≠ x → h.get? b = some o → h'.get? b = some o) : K.In h' := fun a o e =>
  k a o (fun z => by rw [z, hx] at e; cases e) (X a o e)
theorem ldC {M : Model} {s : Shared} {name : Str} {scope : Scope} {L a : Addr} {cd : Value} {m : Str → Option Value} {x : Str} {pos : Pos} {v : Value} {Q : Value → Shared → Prop} {A : Around} {E : Value → Shared → Prop} (hn : s.heap.Ns L m) (hv : m x = some v) (h : Q v s)
    (hk : scope.kind = .function := by rfl) (hl : (envOfC name scope L a cd).kindOf x = some .local := by rfl) (hd : (x == ("__debug__" : Str)) = false := by decide) :
    wpAny M A (eval (.Name x pos) (envOfC name scope L a cd)) Q E s := wpAny_Name (wpAny_loadName_local hk hl hn hv h) hd
/-- what __init__ leaves of a fresh exception at x -/
structure InitEnd (h h' : Heap) (x C dx t1 : Addr) (v : Value) : Prop where
  keep : ∀ b o, b ≠ x → h.get? b = some o → h'.get? b = some o
  obj : h'.get? x = some { cls := .ref C, dict := some dx, data := .fields #[.ref t1, .none, .none, .none, .bool false, .none] }
  dbig : h.objs.size ≤ dx
  dne : dx ≠ x
  ns : h'.Ns1 dx (fun y => if y = "index" then some v else none)
/-- made -/
structure OwnMade (h h' : Heap) (e C d : Addr) (v : Value) : Prop where
  keep : ∀ b o, h.get? b = some o → h'.get? b = some o
  new : h.objs.size ≤ e
  obj : ∃ oe vs, h'.get? e = some oe ∧ oe.cls = .ref C ∧ oe.dict = some d ∧ oe.data = .fields vs ∧ vs[1]? = some .none
  dbig : h.objs.size ≤ d
  dne : d ≠ e
  ns : h'.Ns1 d (fun y => if y = "index" then some v else none)
section
variable {prog : Program} {w : World} {A : Around} {E : Value → Shared → Prop} {R : Result → Shared → Prop} {s : Shared} {K : Frag} {mg : Str → Option Value} {C fI : Addr}
theorem _initInvalidPlan (T : InvalidPlanTxt K mg C fI) {x t0 : Addr} {v : Value} (X : K.In s.heap) (hlim : s.heap.NoLimit) (hx : s.heap.get? x = some (excO C t0)) (hnx : K.lookup x = none) (hroom : A.depth < recursionLimit)
    (hq : ∀ h' tk dx, InitEnd s.heap h' x C dx t0 v → R (.ok (.ret .none)) { s with heap := h', toks := tk }) :
    codeAny (model prog w) A (.call (.ref fI) ⟨[.ref x, v], []⟩) R s := by
  obtain ⟨oc, od, doc, pm, an, cdv, ct, osl, p1, p2, q1, q2, q3, q4, ho, hcd⟩ := T.fn
  obtain ⟨nm, q, N, bs, bm, sn, sub, ab, col, dd, k0, k1, k2, k3, k5, hC, hbm⟩ := T.cls
  have hcl : clsIn K C = some { name := nm, bases := bs, mro := .ref C :: bm, ns := N, qualname := q, hasDict := true, slotNames := sn, subclasses := sub, abstract := ab, collection := col, hasDel := false } := by unfold clsIn; rw [hC] <;> rfl
  refine Att.call_fn (binds := [("self", .ref x), ("index", v)]) X hlim ho hcd hroom (BindsTo.of_eq (by first | rfl | with_unfolding_all rfl)) (by first | rfl | decide | with_unfolding_all rfl) (fun s₁ IC => ?_) rfl rfl rfl
  obtain ⟨h₁, tk₁, rfl⟩ := IC.toInCall.same
  have k : ∀ b o, s.heap.get? b = some o → h₁.get? b = some o := IC.toInCall.keep
  have hn := IC.toInCall.ns
  have hxL : s.heap.objs.size ≠ x := Nat.ne_of_gt (Heap.lt_size hx)
  have X₁ : K.In h₁ := X.keeps k
  have hx₁ := k _ _ hx
  -- self.f = f
  show wpAny _ _ (execs _ _) _ _ _
  refine wpAny_execs_cons (plainObj_wpAny_Assign_Attribute ?_)
  refine ldC (v := v) hn (by first | rfl | with_unfolding_all rfl | kernel_rfl) (ldC (v := .ref x) hn (by first | rfl | with_unfolding_all rfl | kernel_rfl) ?_)
  refine set_plain X₁ (ox := excO C t0) (od := none) ⟨hx₁, rfl, rfl, trivial⟩ T.sa ?_
  refine exc_osa X₁ hx₁ hcl (show refsVE (.ref C :: bm) = true from hbm) rfl T.noN (fun h₃ tk₃ dx k₃ dn dne hx₃ hn₃ => ?_)
  show wpAny _ _ (execs _ _) _ _ _
  have z : s.heap.objs.size < h₁.objs.size := hn.lt
  exact wpAny_execs_nil (hq h₃ tk₃ dx ⟨fun b o hb e => k₃ b o hb (k b o e), hx₃, Nat.le_of_lt (Nat.lt_of_lt_of_le z dn), dne, hn₃⟩)
theorem _madeInvalidPlan (T : InvalidPlanTxt K mg C fI) {v : Value} (X : K.In s.heap) (hlim : s.heap.NoLimit) (hroom : A.depth + 1 < recursionLimit)
    (hq : ∀ h' tk e d, OwnMade s.heap h' e C d v → R (.ok (.ret (.ref e))) { s with heap := h', toks := tk }) :
    codeAny (model prog w) A (.call (.ref C) ⟨[v], []⟩) R s := by
  obtain ⟨nm, q, N, bs, bm, sn, sub, ab, col, dd, k0, k1, k2, k3, k5, hC, hbm⟩ := T.cls
  obtain ⟨hp, g, dr, tk, os⟩ := s
  have k : ∀ b o, hp.get? b = some o → ((hp.push (kdv_tup [v])).push (excO C hp.objs.size)).get? b = some o := fun b o e => Heap.get?_push_of_some _ (Heap.get?_push_of_some _ e)
  have hget : ((hp.push (kdv_tup [v])).push (excO C hp.objs.size)).get? (hp.objs.size + 1) = some (excO C hp.objs.size) := by heap_get
  have hnx : K.lookup (hp.objs.size + 1) = none := by
    cases e : K.lookup (hp.objs.size + 1) with
    | none => rfl
    | some o =>
      have z : hp.get? (hp.objs.size + 1) = some o := X _ _ e
      exact absurd (Nat.lt_of_succ_lt (Heap.lt_size z)) (Nat.lt_irrefl _)
  refine call_own F.excBase_ValueError (fun X => refsVE_contains X bm hbm) (X _ _ hC) (looks_findIn X T.iC) (fun self => bind_fn X self T.tC) (one_size v) ?_
  refine _initInvalidPlan (s := ⟨(hp.push (kdv_tup [v])).push (excO C hp.objs.size), g, dr, tk, os⟩) T (X.keeps k) (hlim.keeps k) hget hnx ?_ fun h' tk' dx ⟨k', hx, dn, dne, hns⟩ => ?_
  · show A.depth + 1 < recursionLimit
    exact hroom
  · have old : ∀ b o, hp.get? b = some o → h'.get? b = some o := fun b o e => k' b o (Nat.ne_of_lt (Nat.lt_succ_of_lt (Heap.lt_size e))) (k b o e)
    have z : hp.objs.size + 1 + 1 ≤ dx := by
      first
        | (simpa only [Heap.size_push] using dn)
        | exact dn
        | (have q := dn; rw [Heap.size_push, Heap.size_push] at q; exact q)
    exact ⟨rfl, hq h' tk' (hp.objs.size + 1) dx ⟨old, Nat.le_succ _, ⟨_, _, hx, rfl, rfl, rfl, rfl⟩, Nat.le_trans (Nat.le_trans (Nat.le_succ _) (Nat.le_succ _)) z, dne, hns⟩⟩
end
end XInvalidPlan
end PySem
namespace L2
open PySem PySem.Spec PyProof.Rows
theorem relO_InvalidPlan {v : V} {v' : Value} (r : RelV v v') (f : Str) : RelO (List.lookup f [(("index" : Str), v)]) (if f = "index" then some v' else none) := by
  by_cases hw : f = "index"
  · subst hw
    rw [if_pos rfl]
    have q : List.lookup ("index" : Str) [(("index" : Str), v)] = some v := by simp [List.lookup]
    rw [q]
    exact r
  · rw [if_neg hw]
    have qw : (f == ("index" : Str)) = false := by simpa using hw
    have q2 : List.lookup f [(("index" : Str), v)] = none := by simp [List.lookup, qw]
    rw [q2]
    trivial
section
variable {X : Cx} {C fI : Addr}
/-- Low(e) -/
def tMkInvalidPlan (C : Addr) (ta : TA) : St → Hp → XK → Prop := fun σ H Q => ta σ H fun vs H1 => ∃ v, vs = [v] ∧ ∀ d, H1 d = none → Q (.ref C) (some d) (upd H1 d (.xd [(("index" : Str), v)]))
theorem pmk_InvalidPlan {a : Expr} {ta : TA} {p pos : Pos} {k : Nat} (T : PySem.XInvalidPlan.InvalidPlanTxt X.K X.mg C fI) (hr : Room k X.A) (ha : PA X [a] ta) (hg : Gl X "InvalidPlan" := by rfl)
    (he : starEach (a :: []) X.env = (false, eval a X.env) :: starEach [] X.env := by rfl) (hpl : (backTo pos (starEach [] X.env)).any (·.1) = false := by rfl) :
    PMk X (.Call (.Name "InvalidPlan" p) [a] [] pos) (tMkInvalidPlan C ta) := by
  intro pins s σ H Q I h
  refine wpAny_Call_Name_kw (ld_glob I hg T.gC ?_)
  refine PySem.W.callWith_K (h₀ := X.base) I.ok.mod.kin T.kC (thn (ha.run pos pins s σ H _ I h) fun us s1 hh => ?_) he hpl
  obtain ⟨vs, H1, I1, r1, v, ev, q1⟩ := hh
  subst ev
  refine ⟨I1.kIn, ?_⟩
  cases r1 with
  | cons rv rn =>
    rename_i v' us'
    cases rn
    show wpAny _ _ (call (.ref C) [v']) _ _ _
    have hlim := I1.nolimit
    obtain ⟨hp, g, dr, tk, os⟩ := s1
    refine wpAny_call (PySem.XInvalidPlan._madeInvalidPlan T I1.kIn hlim (by have := hr.dp; omega) fun h' tk' e d M => ?_)
    show MkP X pins σ Q (.ref e) ⟨h', g, dr, tk', os⟩
    obtain ⟨oe, fv, hoe, hc, hd, hdat, h1⟩ := M.obj
    have hns := M.ns
    obtain ⟨G', g1, g2⟩ := restrict h' fun b => decide (b ≠ e)
    have gk : ∀ b, b ≠ e → G'.get? b = h'.get? b := fun b hb => g1 b (decide_eq_true hb)
    have ge : G'.get? e = none := g2 e (by simp)
    have old : ∀ b o, hp.get? b = some o → G'.get? b = some o := fun b o q => (gk b (Nat.ne_of_lt (Nat.lt_of_lt_of_le (Heap.lt_size q) M.new))).trans (M.keep b o q)
    have ob : ObjOk X.prog X.w (upd H1 d (.xd [(("index" : Str), v)])) G' d (.xd [(("index" : Str), v)]) :=
      ⟨_, hns.at (fun o q => (gk d M.dne).trans q), fun f => relO_InvalidPlan rv f⟩
    have J : Inv X pins σ (upd H1 d (.xd [(("index" : Str), v)])) ⟨G', g, dr, tk', os⟩ := I1.laid (t' := tk') old M.dbig ob
    refine ⟨e, oe, fv, ⟨G', g, dr, tk', os⟩, _, .ref C, some d, rfl, J, fun b o q => ?_, ge, hoe, ⟨hc, hd⟩, hdat, h1, ?_, rfl, I1.bare, raises_own T.exC T.tyC, q1 d (I1.hok.fresh M.dbig)⟩
    · by_cases hb : b = e
      · have q' : G'.get? b = some o := q
        rw [hb, ge] at q'; cases q'
      · exact (gk b hb).symm.trans q
    · rw [upd_ne (Ne.symm M.dne)]
      exact I1.hok.fresh M.new
/-- raise C(e) -/
def tRaiseInvalidPlan (C : Addr) (W : WX) (ta : TA) : TS := fun _ σ H => tMkInvalidPlan C ta σ H fun cls d H' => W cls d σ H'
theorem ps_raiseInvalidPlan {a : Expr} {ta : TA} {W : WX} {p pos pos2 : Pos} {k : Nat} (hc : X.calm = true) (T : PySem.XInvalidPlan.InvalidPlanTxt X.K X.mg C fI) (hr : Room k X.A) (tk : Takes X W) (ha : PA X [a] ta) (hg : Gl X "InvalidPlan" := by rfl)
    (he : starEach (a :: []) X.env = (false, eval a X.env) :: starEach [] X.env := by rfl) (hpl : (backTo pos (starEach [] X.env)).any (·.1) = false := by rfl) :
    PS X (.Raise (some (.Call (.Name "InvalidPlan" p) [a] [] pos)) none pos2) (tRaiseInvalidPlan C W ta) := ps_raise hc tk (pmk_InvalidPlan T hr ha hg he hpl)
/-- x.f, low the exception that the suite holds (at a; its class cls, its dict d) -/
def tByInvalidPlan (C : Addr) (a : Addr) (cls : Value) (d : Option Addr) (te : TE) : TE := fun σ H Q => te σ H fun x H1 => x = .ref a ∧ cls = .ref C ∧ ∃ (dd : Addr) (v : V), d = some dd ∧ H1 dd = some (.xd [(("index" : Str), v)]) ∧ Q v H1
theorem pe_byInvalidPlan {a : Addr} {oe : Obj} {cls : Value} {d : Option Addr} {pn : List (Addr × Obj)} {e : Expr} {te : TE} {pos : Pos} (T : PySem.XInvalidPlan.InvalidPlanTxt X.K X.mg C fI) (hz : Zc cls d oe) (hf : ∃ vs, oe.data = .fields vs) (he : PE (X.suite a ((a, oe) :: pn)) e te)
    (hb : attributeBase e "index" X.env (eval e X.env) = eval e X.env := by rfl) :
    PE (X.suite a ((a, oe) :: pn)) (.Attribute e "index" pos) (tByInvalidPlan C a cls d te) := by
  refine ⟨fun pins s σ H Q I h => ?_⟩
  refine attr_of hb (thn (he.run pins s σ H _ I h) fun u s1 hh => ?_)
  obtain ⟨x, H1, I1, rx, ex, ec, dd, v, ed, ea, q⟩ := hh
  subst ex
  obtain rfl : u = Value.ref a := rx
  subst ec
  subst ed
  obtain ⟨ha, _⟩ := I1.pin (a, oe) (List.mem_append_left _ List.mem_cons_self)
  obtain ⟨vs, hd⟩ := hf
  have hx : ObjOk X.prog X.w H1 s1.heap dd (.xd [(("index" : Str), v)]) := I1.hok dd _ ea
  obtain ⟨mA, hns, hr⟩ := hx
  obtain ⟨od, ho, hl⟩ := lookIn_ns hns
  have l : List.lookup ("index" : Str) [(("index" : Str), v)] = some v := by simp [List.lookup]
  obtain ⟨u, hu, ru⟩ := RelO.some_of (v := v) (o := mA "index") (by rw [← l]; exact hr "index")
  have J : PySem.W.InstAt s1.heap a oe C (some od) := ⟨ha, hz.1, by unfold PySem.W.notCls; rw [hd] <;> rfl, by rw [hz.2]; exact ho⟩
  exact HandSPX.exc_get I1.kIn J T.ga T.gg T.exC (PySem.W.findObj_own T.hdC T.noN rfl (by rw [hl, hu])) (handed_of ru) ⟨v, H1, I1.tok _, ru, q⟩
end
end L2

namespace KS
open PySem PySem.Spec PyProof.Rows L2
theorem exm_self {K : PySem.W.Frag} {S : Addr} (h1 : PySem.W.subIn K (.ref S) (.type "BaseException") = some true) (h2 : PySem.W.isClsIn K S = true) (h3 : PySem.W.typeIn K (.ref S) = some (.type "type")) (h4 : PySem.W.subIn K (.ref S) (.ref S) = some true) :
    PySem.W.exmOne K (.ref S) (.ref S) = some true := by
  have e1 : (PySem.W.subIn K (.ref S) (.type "BaseException") == some true) = true := by rw [h1] <;> rfl
  have e2 : ((PySem.W.clsIn K S).isSome && PySem.W.typeIn K (.ref S) == some (.type "type")) = true := by
    have h2' : (PySem.W.clsIn K S).isSome = true := h2
    rw [h2', h3] <;> rfl
  show (if (PySem.W.subIn K (.ref S) (.type "BaseException") == some true) = true then (if ((PySem.W.clsIn K S).isSome && PySem.W.typeIn K (.ref S) == some (.type "type")) = true then PySem.W.subIn K (.ref S) (.ref S) else none) else none) = some true
  rw [if_pos e1, if_pos e2]
  exact h4
end KS
namespace KS
open PySem PySem.Spec PyProof.Rows L2
/-! ### things of any kind, as is_plan and its law look at them -/
inductive Oth (K : PySem.W.Frag) (H : Hp) : V → String → Prop
  | non : Oth K H .non "NoneType"
  | bl (b : Bool) : Oth K H (.bl b) "bool"
  | int (i : Int) : Oth K H (.int i) "int"
  | str (x : Str) : Oth K H (.str x) "str"
  | lst {a : Addr} {xs : List V} : H a = some (.lst xs) → Oth K H (.ref a) "list"
  | dct {a : Addr} {kvs : List (Key × V)} : H a = some (.dK kvs) → Oth K H (.ref a) "dict"
  | tup {a : Addr} {xs : List V} : SqT K H a xs → Oth K H (.ref a) "tuple"
theorem Oth.ty {K : PySem.W.Frag} {H : Hp} {v : V} {t : String} (h : Oth K H v t) : TyX K H v (.type t) := by
  cases h with
  | non => exact .base .non
  | bl b => exact .base (.bl b)
  | int i => exact .base (.int i)
  | str x => exact .base (.str x)
  | lst e => exact .base (.lst e)
  | dct e => exact .base (.dK e)
  | tup e => exact tyx_tup e
/-- a number of a row or column (true), or a known other thing -/
def PlR (K : PySem.W.Frag) (H : Hp) (v : V) : Bool → Prop
  | true => ∃ i, v = .int i ∧ 0 ≤ i ∧ i ≤ 7
  | false => (∃ i, v = .int i ∧ ¬ (0 ≤ i ∧ i ≤ 7)) ∨ ∃ t, Oth K H v t ∧ t ≠ "int"
/-- an int between bounds (true), or a known other thing -/
def BwR (K : PySem.W.Frag) (H : Hp) (v : V) (lo hi : Int) : Bool → Prop
  | true => ∃ i, v = .int i ∧ lo ≤ i ∧ i ≤ hi
  | false => (∃ i, v = .int i ∧ ¬ (lo ≤ i ∧ i ≤ hi)) ∨ ∃ t, Oth K H v t ∧ t ≠ "int"
def spBetweenG (K : PySem.W.Frag) : Sp := fun vs H Q _ => ∃ (v : V) (lo hi : Int) (b : Bool), vs = [v, .int lo, .int hi] ∧ BwR K H v lo hi b ∧ Q (.bl b) H
theorem bw_of_pl {K : PySem.W.Frag} {H : Hp} {v : V} {b : Bool} (h : PlR K H v b) : BwR K H v 0 7 b := by
  cases b <;> exact h
/-- a cell, or a known other thing -/
def ElR (K : PySem.W.Frag) (H : Hp) (x : V) : Option Cell → Prop
  | some c => CellAt K H x c ∧ InGrid c
  | none => (∃ t, Oth K H x t ∧ t ≠ "tuple") ∨ (∃ t ys, x = .ref t ∧ SqT K H t ys ∧ ys.length ≠ 2) ∨
      ∃ t y0 y1 b0 b1, x = .ref t ∧ SqT K H t [y0, y1] ∧ PlR K H y0 b0 ∧ PlR K H y1 b1 ∧ (b0 && b1) = false
abbrev Els (K : PySem.W.Frag) (H : Hp) : List V → List (Option Cell) → Prop := Paired (ElR K H)
/-- the first i elements are cells that ascend -/
def OkTo (rs : List (Option Cell)) (i : Nat) : Prop := ∀ j, j < i → ∃ c, rs[j]? = some (some c) ∧ ∀ k, j = k + 1 → ∃ c', rs[k]? = some (some c') ∧ lt2 c' c
def BadAt (rs : List (Option Cell)) (i : Nat) : Prop := rs[i]? = some none ∨ ∃ c c' k, rs[i]? = some (some c) ∧ i = k + 1 ∧ rs[k]? = some (some c') ∧ ¬ lt2 c' c
inductive Verd | ok | non | at (i : Nat)
/-- what a thing is worth as a plan -/
def PlanV (K : PySem.W.Frag) (H : Hp) (v : V) : Verd → Prop
  | .ok => ∃ a xs rs, v = .ref a ∧ SqT K H a xs ∧ 1 ≤ xs.length ∧ xs.length ≤ 24 ∧ Els K H xs rs ∧ OkTo rs rs.length
  | .non => (∃ t, Oth K H v t ∧ t ≠ "tuple") ∨ ∃ a xs, v = .ref a ∧ SqT K H a xs ∧ (xs.length = 0 ∨ 24 < xs.length)
  | .at i => ∃ a xs rs, v = .ref a ∧ SqT K H a xs ∧ 1 ≤ xs.length ∧ xs.length ≤ 24 ∧ Els K H xs rs ∧ OkTo rs i ∧ BadAt rs i
def Verd.good : Verd → Bool
  | .ok => true
  | _ => false
theorem lt2_dec (a b : Cell) : lt2 a b ∨ ¬ lt2 a b := Classical.em _
/-- each list of verdicts has a first fault, or none -/
theorem first_bad (rs : List (Option Cell)) : ∀ n, n ≤ rs.length → OkTo rs n ∨ ∃ i, i < n ∧ OkTo rs i ∧ BadAt rs i
  | 0, _ => .inl fun j hj => absurd hj (Nat.not_lt_zero _)
  | n + 1, h => by
    rcases first_bad rs n (by omega) with ok | ⟨i, h1, h2, h3⟩
    · have hn : n < rs.length := by omega
      cases e : rs[n]? with
      | none =>
        have := List.getElem?_eq_none_iff.mp e
        omega
      | some o =>
        cases o with
        | none => exact .inr ⟨n, by omega, ok, .inl e⟩
        | some c =>
          have fin : (∀ k, n = k + 1 → ∃ c', rs[k]? = some (some c') ∧ lt2 c' c) → OkTo rs (n + 1) := fun q j hj => by
            by_cases z : j < n
            · exact ok j z
            · have : j = n := by omega
              subst this
              exact ⟨c, e, q⟩
          cases n with
          | zero => exact .inl (fin fun k z => by omega)
          | succ m =>
            obtain ⟨c', e', _⟩ := ok m (by omega)
            rcases lt2_dec c' c with z | z
            · exact .inl (fin fun k hk => by
                have : k = m := by omega
                subst this
                exact ⟨c', e', z⟩)
            · exact .inr ⟨m + 1, by omega, ok, .inr ⟨c, c', m, e, rfl, e', z⟩⟩
    · exact .inr ⟨i, by omega, h2, h3⟩
/-- a tuple whose elements are known has a worth -/
theorem planV_of {K : PySem.W.Frag} {H : Hp} {a : Addr} {xs : List V} {rs : List (Option Cell)} (h : SqT K H a xs) (e : Els K H xs rs) : ∃ v, PlanV K H (.ref a) v := by
  by_cases c : xs.length = 0 ∨ 24 < xs.length
  · exact ⟨.non, .inr ⟨a, xs, rfl, h, c⟩⟩
  · have hl := Paired.length e
    rcases first_bad rs rs.length (Nat.le_refl _) with ok | ⟨i, _, h2, h3⟩
    · exact ⟨.ok, a, xs, rs, rfl, h, by omega, by omega, e, ok⟩
    · exact ⟨.at i, a, xs, rs, rfl, h, by omega, by omega, e, h2, h3⟩
theorem els_cells {K : PySem.W.Frag} {H : Hp} : ∀ {xs : List V} {cs : List Cell}, CellsAt K H xs cs → (∀ c ∈ cs, InGrid c) → Els K H xs (cs.map some)
  | _, _, .nil, _ => .nil
  | _, _, .cons r t, g => .cons ⟨r, g _ List.mem_cons_self⟩ (els_cells t fun c hc => g c (List.mem_cons_of_mem _ hc))
theorem okTo_good {cs : List Cell} (h : cs.Pairwise lt2) : OkTo (cs.map some) (cs.map some).length := by
  intro j hj
  rw [List.length_map] at hj
  refine ⟨cs[j], by rw [List.getElem?_map, List.getElem?_eq_getElem hj]; rfl, fun k hk => ?_⟩
  subst hk
  have hk : k < cs.length := by omega
  exact ⟨cs[k], by rw [List.getElem?_map, List.getElem?_eq_getElem hk]; rfl, (List.pairwise_iff_getElem.mp h) k (k + 1) hk hj (by omega)⟩
theorem planV_good {K : PySem.W.Frag} {H : Hp} {a : Addr} {cs : List Cell} (h : PlanAt K H a cs) (g : Good cs) (hl : cs.length ≤ 24) : PlanV K H (.ref a) .ok := by
  obtain ⟨xs, h1, h2⟩ := h
  have hlen := Paired.length h2
  have hpos : 0 < cs.length := by
    rcases Nat.eq_zero_or_pos cs.length with z | z
    · exact absurd (List.eq_nil_of_length_eq_zero z) g.ne
    · exact z
  exact ⟨a, xs, cs.map some, rfl, h1, by omega, by omega, els_cells h2 g.grid, okTo_good g.asc⟩
/-! ### what stays -/
theorem Oth.same {K : PySem.W.Frag} {H H' : Hp} {v : V} {t : String} (s : Same H H') (h : Oth K H v t) : Oth K H' v t := by
  cases h with
  | non => exact .non
  | bl b => exact .bl b
  | int i => exact .int i
  | str x => exact .str x
  | lst e => exact .lst (s _ _ e)
  | dct e => exact .dct (s _ _ e)
  | tup e => exact .tup (same_seqT s e)
theorem PlR.same {K : PySem.W.Frag} {H H' : Hp} {v : V} {b : Bool} (s : Same H H') (h : PlR K H v b) : PlR K H' v b := by
  cases b with
  | true => exact h
  | false =>
    rcases h with h | ⟨t, h, n⟩
    · exact .inl h
    · exact .inr ⟨t, h.same s, n⟩
theorem ElR.same {K : PySem.W.Frag} {H H' : Hp} {x : V} {o : Option Cell} (s : Same H H') (h : ElR K H x o) : ElR K H' x o := by
  cases o with
  | some c => exact ⟨h.1.kt (.of_same s), h.2⟩
  | none =>
    rcases h with ⟨t, h, n⟩ | ⟨t, ys, e, h, n⟩ | ⟨t, y0, y1, b0, b1, e, h, p0, p1, n⟩
    · exact .inl ⟨t, h.same s, n⟩
    · exact .inr (.inl ⟨t, ys, e, same_seqT s h, n⟩)
    · exact .inr (.inr ⟨t, y0, y1, b0, b1, e, same_seqT s h, p0.same s, p1.same s, n⟩)
theorem els_same {K : PySem.W.Frag} {H H' : Hp} (s : Same H H') {xs : List V} {rs : List (Option Cell)} (h : Els K H xs rs) : Els K H' xs rs := Paired.mono (fun _ _ q => q.same s) h
theorem PlanV.same {K : PySem.W.Frag} {H H' : Hp} {v : V} {b : Verd} (s : Same H H') (h : PlanV K H v b) : PlanV K H' v b := by
  cases b with
  | ok =>
    obtain ⟨a, xs, rs, e, h1, h2, h3, h4, h5⟩ := h
    exact ⟨a, xs, rs, e, same_seqT s h1, h2, h3, els_same s h4, h5⟩
  | non =>
    rcases h with ⟨t, h, n⟩ | ⟨a, xs, e, h, n⟩
    · exact .inl ⟨t, h.same s, n⟩
    · exact .inr ⟨a, xs, e, same_seqT s h, n⟩
  | «at» i =>
    obtain ⟨a, xs, rs, e, h1, h2, h3, h4, h5⟩ := h
    exact ⟨a, xs, rs, e, same_seqT s h1, h2, h3, els_same s h4, h5⟩
/-! ### the promises -/
def spWholeG (K : PySem.W.Frag) : Sp := fun vs H Q _ => ∃ (v : V) (t : String), vs = [v] ∧ Oth K H v t ∧ Q (.bl (decide (t = "int"))) H
def spPlaceG (K : PySem.W.Frag) : Sp := fun vs H Q _ => ∃ (v : V) (b : Bool), vs = [v] ∧ PlR K H v b ∧ Q (.bl b) H
def spIsCellG (K : PySem.W.Frag) : Sp := fun vs H Q _ => ∃ (v : V) (o : Option Cell), vs = [v] ∧ ElR K H v o ∧ ∀ H', Same H H' → Q (.bl o.isSome) H'
def vIdx : Verd → V
  | .at i => .int (i : Nat)
  | _ => .non
def spCheckG (K : PySem.W.Frag) (C : Addr) : Sp := fun vs H Q E => ∃ (v : V) (b : Verd), vs = [v] ∧ PlanV K H v b ∧ (b.good = true → ∀ H', Same H H' → Q .non H') ∧
  (b.good = false → ∀ H' d, Same H H' → H d = none → H' d = some (.xd [(("index" : Str), vIdx b)]) → E (.ref C) (some d) H')
def spIsPlan (K : PySem.W.Frag) : Sp := fun vs H Q _ => ∃ (v : V) (b : Verd), vs = [v] ∧ PlanV K H v b ∧ ∀ H', Same H H' → Q (.bl b.good) H'
theorem le2_iff {a b : Cell} : Ob.lexAt (fun j => decide (([b.1, b.2] : List Int).getD j 0 = ([a.1, a.2] : List Int).getD j 0)) (fun j => decide (([b.1, b.2] : List Int).getD j 0 ≤ ([a.1, a.2] : List Int).getD j 0)) (decide (([b.1, b.2] : List Int).length ≤ ([a.1, a.2] : List Int).length)) 0 (min ([b.1, b.2] : List Int).length ([a.1, a.2] : List Int).length) = true ↔ ¬ lt2 a b := by
  constructor
  · intro h z
    rw [not_le2 z] at h
    cases h
  · intro h
    show Ob.lexAt _ _ _ 0 2 = true
    rw [Ob.lexAt_succ, Ob.lexAt_succ]
    show (if decide (b.1 = a.1) = true then (if decide (b.2 = a.2) = true then _ else decide (b.2 ≤ a.2)) else decide (b.1 ≤ a.1)) = true
    unfold lt2 at h
    by_cases e1 : b.1 = a.1
    · rw [if_pos (by simpa using e1)]
      by_cases e2 : b.2 = a.2
      · rw [if_pos (by simpa using e2)]
        rfl
      · rw [if_neg (by simpa using e2)]
        simp
        omega
    · rw [if_neg (by simpa using e1)]
      simp
      omega
/-- isinstance's answers -/
theorem kit_int {K : PySem.W.Frag} {H : Hp} {v : V} {t : String} (h : Oth K H v t) : PySem.W.kitOne K (.type t) (.type "int") = some (decide (t = "int" ∨ t = "bool")) := by
  cases h <;> exact kit_ty (by decide +kernel)
theorem kit_bool {K : PySem.W.Frag} {H : Hp} {v : V} {t : String} (h : Oth K H v t) : PySem.W.kitOne K (.type t) (.type "bool") = some (decide (t = "bool")) := by
  cases h <;> exact kit_ty (by decide +kernel)
theorem kit_tuple {K : PySem.W.Frag} {H : Hp} {v : V} {t : String} (h : Oth K H v t) : PySem.W.kitOne K (.type t) (.type "tuple") = some (decide (t = "tuple")) := by
  cases h <;> exact kit_ty (by decide +kernel)
end KS
namespace KS
open PySem PySem.Spec PyProof.Rows L2
theorem ok_notBad {rs : List (Option Cell)} {n i : Nat} (h : OkTo rs n) (hi : i < n) : ¬ BadAt rs i := by
  obtain ⟨c, e, k⟩ := h i hi
  rintro (z | ⟨c1, c2, j, e1, e2, e3, e4⟩)
  · rw [e] at z
    cases z
  · rw [e] at e1
    cases e1
    obtain ⟨c3, e5, e6⟩ := k j e2
    rw [e3] at e5
    cases e5
    exact e4 e6
theorem bad_lt {rs : List (Option Cell)} {i : Nat} (h : BadAt rs i) : i < rs.length := by
  rcases h with z | ⟨c1, c2, j, e1, _⟩
  · exact (List.getElem?_eq_some_iff.mp z).1
  · exact (List.getElem?_eq_some_iff.mp e1).1
/-- the two ways of a tuple of a right length -/
def TwoWays (rs : List (Option Cell)) (b : Verd) : Prop := (b.good = true ∧ OkTo rs rs.length) ∨ ∃ i, b = .at i ∧ OkTo rs i ∧ BadAt rs i
theorem TwoWays.bad {rs : List (Option Cell)} {b : Verd} {i : Nat} (h : TwoWays rs b) (ok : OkTo rs i) (bad : BadAt rs i) : b = .at i := by
  rcases h with ⟨_, h⟩ | ⟨j, e, h1, h2⟩
  · exact absurd bad (ok_notBad h (bad_lt bad))
  · have : i = j := by
      rcases Nat.lt_trichotomy i j with z | z | z
      · exact absurd bad (ok_notBad h1 z)
      · exact z
      · exact absurd h2 (ok_notBad ok z)
    rw [this]
    exact e
theorem TwoWays.ok {rs : List (Option Cell)} {b : Verd} (h : TwoWays rs b) (ok : OkTo rs rs.length) : b.good = true := by
  rcases h with ⟨h, _⟩ | ⟨j, e, h1, h2⟩
  · exact h
  · exact absurd h2 (ok_notBad ok (bad_lt h2))
theorem PlanV.split {K : PySem.W.Frag} {H : Hp} {v : V} {b : Verd} (h : PlanV K H v b) : (b = .non ∧ ((∃ t, Oth K H v t ∧ t ≠ "tuple") ∨ ∃ a xs, v = .ref a ∧ SqT K H a xs ∧ (xs.length = 0 ∨ 24 < xs.length))) ∨
    ∃ a xs rs, v = .ref a ∧ SqT K H a xs ∧ 1 ≤ xs.length ∧ xs.length ≤ 24 ∧ Els K H xs rs ∧ TwoWays rs b := by
  cases b with
  | ok =>
    obtain ⟨a, xs, rs, e, h1, h2, h3, h4, h5⟩ := h
    exact .inr ⟨a, xs, rs, e, h1, h2, h3, h4, .inl ⟨rfl, h5⟩⟩
  | non => exact .inl ⟨rfl, h⟩
  | «at» i =>
    obtain ⟨a, xs, rs, e, h1, h2, h3, h4, h5, h6⟩ := h
    exact .inr ⟨a, xs, rs, e, h1, h2, h3, h4, .inr ⟨i, rfl, h5, h6⟩⟩
theorem okTo_succ {rs : List (Option Cell)} {i : Nat} {c : Cell} (h : OkTo rs i) (e : rs[i]? = some (some c)) (k : ∀ j, i = j + 1 → ∃ c', rs[j]? = some (some c') ∧ lt2 c' c) : OkTo rs (i + 1) := fun j hj => by
  by_cases z : j < i
  · exact h j z
  · have : j = i := by omega
    subst this
    exact ⟨c, e, k⟩
end KS
namespace KS
open PySem PySem.Spec PyProof.Rows L2
section
variable {K : PySem.W.Frag} {H H' : Hp} {p : Addr}
theorem Oth.keepX {v : V} {t : String} (hp : PoolO (H p)) (hp' : PoolO (H' p)) (k : KeepX p H H') (h : Oth K H v t) : Oth K H' v t := by
  obtain ⟨x1, x2, x3, e1, _⟩ := hp
  cases h with
  | non => exact .non
  | bl b => exact .bl b
  | int i => exact .int i
  | str x => exact .str x
  | @lst a xs e =>
    by_cases z : a = p
    · subst z
      obtain ⟨y1, y2, y3, e2, _⟩ := hp'
      exact .lst e2
    · exact .lst (k _ _ z e)
  | @dct a kvs e => exact .dct (k _ _ (ne_of e e1 (by intro q; cases q)) e)
  | tup e => exact .tup (keepX_seqT ⟨x1, x2, x3, e1, by assumption⟩ k e)
theorem PlR.keepX {v : V} {b : Bool} (hp : PoolO (H p)) (hp' : PoolO (H' p)) (k : KeepX p H H') (h : PlR K H v b) : PlR K H' v b := by
  cases b with
  | true => exact h
  | false =>
    rcases h with h | ⟨t, h, n⟩
    · exact .inl h
    · exact .inr ⟨t, h.keepX hp hp' k, n⟩
theorem ElR.keepX {x : V} {o : Option Cell} (hp : PoolO (H p)) (hp' : PoolO (H' p)) (k : KeepX p H H') (h : ElR K H x o) : ElR K H' x o := by
  cases o with
  | some c => exact ⟨h.1.kt (.of_keepX hp k), h.2⟩
  | none =>
    rcases h with ⟨t, h, n⟩ | ⟨t, ys, e, h, n⟩ | ⟨t, y0, y1, b0, b1, e, h, p0, p1, n⟩
    · exact .inl ⟨t, h.keepX hp hp' k, n⟩
    · exact .inr (.inl ⟨t, ys, e, keepX_seqT hp k h, n⟩)
    · exact .inr (.inr ⟨t, y0, y1, b0, b1, e, keepX_seqT hp k h, p0.keepX hp hp' k, p1.keepX hp hp' k, n⟩)
theorem PlanV.keepX {v : V} {b : Verd} (hp : PoolO (H p)) (hp' : PoolO (H' p)) (k : KeepX p H H') (h : PlanV K H v b) : PlanV K H' v b := by
  have lift : ∀ {xs : List V} {rs : List (Option Cell)}, Els K H xs rs → Els K H' xs rs := fun h => Paired.mono (fun _ _ q => q.keepX hp hp' k) h
  cases b with
  | ok =>
    obtain ⟨a, xs, rs, e, h1, h2, h3, h4, h5⟩ := h
    exact ⟨a, xs, rs, e, keepX_seqT hp k h1, h2, h3, lift h4, h5⟩
  | non =>
    rcases h with ⟨t, h, n⟩ | ⟨a, xs, e, h, n⟩
    · exact .inl ⟨t, h.keepX hp hp' k, n⟩
    · exact .inr ⟨a, xs, e, keepX_seqT hp k h, n⟩
  | «at» i =>
    obtain ⟨a, xs, rs, e, h1, h2, h3, h4, h5⟩ := h
    exact ⟨a, xs, rs, e, keepX_seqT hp k h1, h2, h3, lift h4, h5⟩
/-- odd things -/
theorem odd2 {t : Addr} {y0 y1 : V} {b0 b1 : Bool} (h : H t = some (.tup [y0, y1])) (p0 : PlR K H y0 b0) (p1 : PlR K H y1 b1) (n : (b0 && b1) = false) : ElR K H (.ref t) none :=
  .inr (.inr ⟨t, y0, y1, b0, b1, rfl, SqT.of h, p0, p1, n⟩)
theorem oddN {t : Addr} {ys : List V} (h : SqT K H t ys) (n : ys.length ≠ 2) : ElR K H (.ref t) none := .inr (.inl ⟨t, ys, rfl, h, n⟩)
theorem oddO {x : V} {t : String} (h : Oth K H x t) (n : t ≠ "tuple") : ElR K H x none := .inl ⟨t, h, n⟩
theorem pl_yes {i : Int} (h : 0 ≤ i ∧ i ≤ 7) : PlR K H (.int i) true := ⟨i, rfl, h.1, h.2⟩
theorem pl_no {i : Int} (h : ¬ (0 ≤ i ∧ i ≤ 7)) : PlR K H (.int i) false := .inl ⟨i, rfl, h⟩
theorem pl_oth {x : V} {t : String} (h : Oth K H x t) (n : t ≠ "int") : PlR K H x false := .inr ⟨t, h, n⟩
theorem odd_plan {a : Addr} {cs : List Cell} (h : PlanAt K H a cs) : ElR K H (.ref a) none := by
  obtain ⟨xs, h1, h2⟩ := h
  by_cases c : xs.length = 2
  · cases h2 with
    | nil => cases c
    | @cons x c0 xs1 cs1 r0 h3 =>
      cases h3 with
      | nil => cases c
      | @cons y c1 xs2 cs2 r1 h4 =>
        cases h4 with
        | cons _ _ =>
          simp at c
        | nil =>
          obtain ⟨t0, e0, q0⟩ := r0
          obtain ⟨t1, e1, q1⟩ := r1
          subst e0
          subst e1
          exact .inr (.inr ⟨a, _, _, false, false, rfl, h1, pl_oth (.tup q0) (by decide), pl_oth (.tup q1) (by decide), rfl⟩)
  · exact oddN h1 c
end
def spBent (K : PySem.W.Frag) : Sp := fun vs H Q _ => ∃ (p a : Addr) (cs : List Cell), vs = [.ref p, .ref a] ∧ PoolO (H p) ∧ PlanAt K H a cs ∧ Good cs ∧ cs.length ≤ 24 ∧
  ∀ H' v b, KeepX p H H' → PoolO (H' p) → PlanV K H' v b → Q v H'
end KS
namespace KS
open PySem PySem.Spec PyProof.Rows L2
section
variable {K : PySem.W.Frag} {σ : L2.St} {H : Hp} {Q : VK} {ta : TA}
/-- a display of values that are at hand: a new object -/
theorem tup_ok (vs : List V) (h : ∀ R : List V → Hp → Prop, R vs H → ta σ H R) (hl : vs.length ≤ 64) (k : ∀ H' t, Same H H' → H' t = some (.tup vs) → H t = none → Q (.ref t) H') : tTup ta σ H Q :=
  h _ ⟨Nat.le_of_lt (small64 hl), fun p np => k _ p (same_new np) upd_same np⟩
theorem lst_ok (vs : List V) (h : ∀ R : List V → Hp → Prop, R vs H → ta σ H R) (hl : vs.length ≤ 64) (k : ∀ H' t, Same H H' → H' t = some (.lst vs) → H t = none → Q (.ref t) H') : tLst ta σ H Q :=
  h _ ⟨Nat.le_of_lt (small64 hl), fun p np => k _ p (same_new np) upd_same np⟩
theorem dnew_ok (k : ∀ H' t, Same H H' → H' t = some (.dK []) → H t = none → Q (.ref t) H') : tDNewK σ H Q :=
  fun p np => k _ p (same_new np) upd_same np
theorem catA_ok {a b : Addr} {xs ys : List V} (ha : SqT K H a xs) (hb : SqT K H b ys) (hl : xs.length + ys.length ≤ 64)
    (k : ∀ H' u, Same H H' → SqT K H' u (xs ++ ys) → Q (.ref u) H') : rCatA K (.ref a) (.ref b) H Q := by
  refine ⟨a, b, xs, ys, rfl, rfl, ha, hb, Nat.le_of_lt (small64 hl), fun e => ?_, fun _ e => ?_, fun _ _ p np => ?_⟩
  · subst e
    exact k H b (Same.refl _) hb
  · subst e
    exact k H a (Same.refl _) (by rw [List.append_nil]; exact ha)
  · exact k _ p (same_new np) (SqT.of upd_same)
theorem cut_to {xs : List V} {k : Nat} (h : k ≤ xs.length) : cutV xs none (some (k : Int)) = xs.take k := by
  unfold cutV
  rw [HT.sIx_none, HT.sIx_nat, Nat.min_eq_left h]
  simp
theorem cut_from {xs : List V} {k : Nat} (h : k ≤ xs.length) : cutV xs (some (k : Int)) none = xs.drop k := by
  unfold cutV
  rw [HT.sIx_none, HT.sIx_nat, Nat.min_eq_left h]
  exact List.take_of_length_le (by rw [List.length_drop]; exact Nat.le_refl _)
/-- t[:k], t[k:], whatever object comes -/
theorem slTo_ok {a : Addr} {xs : List V} {n : Nat} (ha : SqT K H a xs) (hn : n ≤ xs.length) (k : ∀ H' u, Same H H' → SqT K H' u (xs.take n) → Q (.ref u) H') : rSlA K (.ref a) none (some (n : Int)) H Q := by
  refine ⟨a, xs, rfl, ha, fun z => ?_, fun _ p np => ?_⟩
  · obtain ⟨_, z2⟩ := z
    rw [show HT.sIx xs.length xs.length (some (n : Int)) = min n xs.length from HT.sIx_nat _ _ n] at z2
    have e : n = xs.length := by omega
    refine k H a (Same.refl _) ?_
    rw [e, List.take_length]
    exact ha
  · refine k _ p (same_new np) (SqT.of ?_)
    rw [upd_same, cut_to hn]
theorem slFrom_ok {a : Addr} {xs : List V} {n : Nat} (ha : SqT K H a xs) (hn : n ≤ xs.length) (k : ∀ H' u, Same H H' → SqT K H' u (xs.drop n) → Q (.ref u) H') : rSlA K (.ref a) (some (n : Int)) none H Q := by
  refine ⟨a, xs, rfl, ha, fun z => ?_, fun _ p np => ?_⟩
  · obtain ⟨z1, _⟩ := z
    rw [show HT.sIx xs.length 0 (some (n : Int)) = min n xs.length from HT.sIx_nat _ _ n] at z1
    refine k H a (Same.refl _) ?_
    rcases Nat.eq_zero_or_pos n with e | e
    · subst e
      exact ha
    · have e2 : xs.length = 0 := by omega
      have e3 := List.eq_nil_of_length_eq_zero e2
      subst e3
      simpa using ha
  · refine k _ p (same_new np) (SqT.of ?_)
    rw [upd_same, cut_from hn]
theorem paired_take {α β : Type} {F : α → β → Prop} : ∀ {l₁ : List α} {l₂ : List β} (i : Nat), Paired F l₁ l₂ → Paired F (l₁.take i) (l₂.take i)
  | _, _, 0, _ => .nil
  | _, _, _ + 1, .nil => .nil
  | _, _, i + 1, .cons r t => .cons r (paired_take i t)
theorem paired_drop {α β : Type} {F : α → β → Prop} : ∀ {l₁ : List α} {l₂ : List β} (i : Nat), Paired F l₁ l₂ → Paired F (l₁.drop i) (l₂.drop i)
  | _, _, 0, h => h
  | _, _, _ + 1, .nil => .nil
  | _, _, i + 1, .cons _ t => paired_drop i t
theorem paired_rev {α β : Type} {F : α → β → Prop} : ∀ {l₁ : List α} {l₂ : List β}, Paired F l₁ l₂ → Paired F l₁.reverse l₂.reverse
  | _, _, .nil => .nil
  | _, _, .cons r t => by
    rw [List.reverse_cons, List.reverse_cons]
    exact paired_append (paired_rev t) (.cons r .nil)
end
end KS
namespace KS
open PySem PySem.Spec PyProof.Rows L2
theorem new_ok {H : Hp} {o : HO} {Q : VK} (k : ∀ H' t, Same H H' → H' t = some o → H t = none → Q (.ref t) H') : ∀ p, H p = none → Q (.ref p) (upd H p o) := fun p np => k _ p (same_new np) upd_same np
theorem pick_ok {items : List V} {r : Int} (h0 : 0 ≤ r) (h1 : r < (items.length : Int)) : ∃ x, x ∈ items ∧ atI items r = some x := by
  obtain ⟨n, rfl⟩ := Int.eq_ofNat_of_zero_le h0
  have hn : n < items.length := by omega
  exact ⟨items[n], List.getElem_mem hn, atI_nat (List.getElem?_eq_getElem hn)⟩
end KS
namespace KS
open PySem PySem.Spec PyProof.Rows L2
/-! ### anything held against a text by != -/
theorem dct_ne_txt {prog : Program} {w : World} {A : Around} {E : Value → Shared → Prop} {s : Shared} {d : Addr} {z : Str} {u : Tok} {od : Option Addr} {es : Array DictEntry} {ep : Nat} {sl : Array (Option Value)} (ho : s.heap.get? d = some { cls := .type "dict", dict := od, data := .dict es ep, slots := sl }) (hu : A.units < cLine) {Q : Value → Shared → Prop} (h : Q (.bool true) s) :
    wpAny (model prog w) A (compareOp .NotEq (.ref d) (.str z u)) Q E s := by
  have hd : s.TypeIs (.ref d) "dict" := ⟨_, ho, rfl⟩
  refine SeqAt.rc_ne_decline_or (k := false) hd (typeIs_str s z u) (by decide) PySem.F.sub_str_dict PySem.F.slot_dict_ne PySem.F.slot_str_ne_refl (fun Q' hq => ?_) (fun Q' hq => ?_)
    (fun Q' hq => wpAny_of_eq (rfl : isSame (.ref d) (.str z u) = pure false) hq) (.inr hu) h
  · refine wpAny_call_entry PySem.F.slot_dict_ne hd PySem.F.entry_dict_ne ?_ (PySem.F.args_dict_ne_2 _ _)
    show wpAny _ _ (Builtin.Dict.dictSlotArgs "__ne__" ⟨[.ref d, .str z u], []⟩ >>= _) _ _ s
    refine wpAny_bind ?_
    unfold Builtin.Dict.dictSlotArgs
    refine wpAny_bind (wpAny_notOrdered_dict hd ?_)
    show wpAny _ _ (pure (Value.ref d, Value.str z u)) _ _ s
    refine wpAny_pure ?_
    refine wpAny_bind (wpAny_isInstance (T := "str") (typeIs_str s z u) PySem.F.sub_str_dict ?_)
    simp only [Bool.not_false, if_true]
    exact wpAny_bind (wpAny_rule (wpAny_pure ⟨_, rfl, hq⟩))
  · have hs : Meets (Builtin.«str.__ne__» ⟨[.str z u, .ref d], []⟩) (fun _ R s => s.heap.get? d = some { cls := .type "dict", dict := od, data := .dict es ep, slots := sl } ∧ R (.ok (.ret .notImplemented)) s) :=
      .of_wp fun prog w A R s h => by
        obtain ⟨hp, g, dd, tk, os⟩ := s
        obtain ⟨hl, h⟩ := h
        wp_walk using wpAny_load hl
        exact ⟨_, rfl, h⟩
    exact call_meets PySem.F.slot_str_ne_refl (typeIs_str s z u) PySem.F.entry_str_ne (PySem.F.args_str_ne_2 _ _) hs ⟨ho, hq⟩
def rNeA (K : PySem.W.Frag) : R2 := fun x y H Q => ∃ (t : String) (z : Str), y = .str z ∧ Oth K H x t ∧ Q (.bl (!decide (x = .str z))) H
theorem op_neA {X : Cx} (hu : X.A.units < cLine) : OpR X (compareOp .NotEq) (rNeA X.K) := by
  intro pins s σ H x y v u Q I rx ry h
  obtain ⟨t, z, rfl, ho, q⟩ := h
  have sc : ∀ {x : V}, scal x (.str z) = true → RelV x v → Q (.bl (!decide (x = .str z))) H → wpAny (model X.prog X.w) X.A (compareOp .NotEq v u) (EP X pins σ Q) X.xe s := fun {x} hs r q => op_ne pins s σ H x (.str z) v u Q I r ry ⟨hs, q⟩
  have rf : ∀ a : Addr, decide (V.ref a = V.str z) = false := fun a => decide_eq_false (fun e => by cases e)
  cases ho with
  | non => exact sc rfl rx q
  | bl b => exact sc rfl rx q
  | int i => exact sc rfl rx q
  | str w => exact sc rfl rx q
  | lst e =>
    rw [rf] at q
    obtain ⟨tk, rfl⟩ := ry
    cases rx
    obtain ⟨its, r, ⟨o, n, ho, hc, _, hd⟩, _⟩ := I.list (SqL.of e)
    exact SeqAt.RcNeAt.list_str z tk ⟨o, ho, hc, n, hd⟩ hu _ _ _ _ ⟨.bl true, H, I, rfl, q⟩
  | tup e =>
    rw [rf] at q
    obtain ⟨tk, rfl⟩ := ry
    cases rx
    obtain ⟨its, r, ⟨o, ho, hc, n, hd⟩, _⟩ := I.tuple e
    exact SeqAt.RcNeAt.tuple_str z tk ⟨o, ho, hc, n, hd⟩ hu _ _ _ _ ⟨.bl true, H, I, rfl, q⟩
  | dct e =>
    rw [rf] at q
    obtain ⟨tk, rfl⟩ := ry
    cases rx
    obtain ⟨_, _, _, _, ⟨cls, dd, data, sl⟩, _, _, e1, ex, dat, _⟩ := I.hok _ _ e
    have hc := ex.1
    simp only at hc dat
    subst hc dat
    exact dct_ne_txt e1 hu ⟨.bl true, H, I, rfl, q⟩
/-! ### the tuple without elements, times a number -/
theorem tup0_mul (l : Addr) (n : Nat) (dd : Option Addr) (sl : Array (Option Value)) (x : Int) (u : Tok) (c0 : (decide (x < -(2 ^ 63)) || decide (x ≥ 2 ^ 63)) = false) :
    Meets (Builtin.«tuple.__mul__» ⟨[.ref l, .int x u], []⟩) (fun _ R s => s.heap.get? l = some { cls := .type "tuple", dict := dd, data := .seq #[] n, slots := sl } ∧ R (.ok (.ret (Value.ref l))) s) :=
  .of_wp fun prog w A R s h => by
    obtain ⟨hp, g, d, tk, os⟩ := s
    obtain ⟨hl, h⟩ := h
    have f1 := AutoSeq1.idx_int
    wp_walk using wpAny_loadPart' hl
    repeat (first
      | (refine wpAny_ite_false (decide_eq_false (by rw [c0]; exact Bool.false_ne_true)) ?_; wp_walk using wpAny_loadPart' hl)
      | (refine wpAny_ite_true (by first | rfl | decide) ?_; wp_walk using wpAny_loadPart' hl))
    exact ⟨_, rfl, h⟩
def rRepA (K : PySem.W.Frag) : R2 := fun x y H Q => ∃ l k xs, x = .ref l ∧ y = .int k ∧ SqT K H l xs ∧ 2 ≤ k ∧ k ≤ 1000 ∧ xs.length ≤ 1000 ∧ (xs = [] → Q (.ref l) H) ∧ (xs ≠ [] → ∀ p, H p = none → Q (.ref p) (upd H p (.tup (List.replicate k.toNat xs).flatten)))
theorem op_repA {X : Cx} : OpR X (binaryOp .Mult) (rRepA X.K) := by
  intro pins s σ H x y v u Q I rx ry h
  obtain ⟨l, k, xs, rfl, rfl, hT, h1, h2, hz, q0, q1⟩ := h
  by_cases he : xs = []
  · subst he
    have q := q0 rfl
    cases rx
    obtain ⟨t, rfl⟩ := ry
    obtain ⟨its, r, ⟨⟨cls, dd, data, sl⟩, ho, hc, n, hd⟩, hs⟩ := I.tuple hT
    simp only at hc hd
    subst hc hd
    have e0 : its = [] := by
      have := r.length
      exact List.eq_nil_of_length_eq_zero this.symm
    subst e0
    have c0 : (decide (k < -(2 ^ 63)) || decide (k ≥ 2 ^ 63)) = false := by
      rw [decide_eq_false (by omega), decide_eq_false (by omega)] <;> rfl
    exact wpAny_binaryOp_repeat_ref (T := "tuple") (U := "int") (by decide) ⟨_, ho, rfl⟩ (fun s' => typeIs_int s' k t) noFill_tuple_mul F.fills_int_mul F.slot_int_rmul repeat_tuple F.slot_int_index.lookup
      (call_meets F.slot_int_rmul (typeIs_int s k t) F.entry_int_rmul (F.args_int_rmul_2 _ _) (int_rmul_tuple k t l #[] n dd sl)
        ⟨ho, rfl, ⟨_, ho, rfl⟩, call_meets F.slot_tuple_mul ⟨_, ho, rfl⟩ F.entry_tuple_mul (F.args_tuple_mul_2 _ _) (tup0_mul l n dd sl k t c0) ⟨ho, .ref l, H, I, rfl, q⟩⟩)
  · exact op_repT pins s σ H _ _ v u Q I rx ry ⟨l, k, xs, rfl, rfl, hT, he, h1, h2, hz, q1 he⟩
end KS
namespace KS
open PySem PySem.Spec PyProof.Rows L2
/-! ### repr of things -/
mutual
theorem dp_same {K : PySem.W.Frag} {H H' : Hp} (s : Same H H') : ∀ (d : PyData) (v : V), Dp K H v d → Dp K H' v d
  | .none, _, h => by cases h; exact .non
  | .bool b, _, h => by cases h; exact .bl b
  | .int i, _, h => by cases h; exact .int i
  | .str x, _, h => by cases h; exact .str x
  | .list ds, _, h => by
    cases h with
    | lst h1 h2 => exact .lst (s.seq h1) (dpAll_same s ds _ h2)
  | .tuple ds, _, h => by
    cases h with
    | tup h1 h2 => exact .tup (same_seqT s h1) (dpAll_same s ds _ h2)
  | .dict kvs, _, h => by cases h
theorem dpAll_same {K : PySem.W.Frag} {H H' : Hp} (s : Same H H') : ∀ (ds : List PyData) (vs : List V), DpAll K H vs ds → DpAll K H' vs ds
  | [], _, h => by cases h; exact .nil
  | d :: ds, _, h => by
    cases h with
    | cons h1 h2 => exact .cons (dp_same s d _ h1) (dpAll_same s ds _ h2)
end
inductive Rep (K : PySem.W.Frag) (H : Hp) : V → Str → Prop
  | non : Rep K H .non "None"
  | bl (b : Bool) : Rep K H (.bl b) (if b then "True" else "False")
  | int (i : Int) (h : i.natAbs.log2 < 1920) : Rep K H (.int i) (toString i)
  | str (y : Str) (h : (reprText y).length ≤ sizeLine) : Rep K H (.str y) (reprText y)
  | ref {a : Addr} {d : PyData} (h : Dp K H (.ref a) d) (h1 : d.showable = true) (h2 : d.hasDict = false) (h3 : d.shown.length ≤ sizeLine) (h4 : d.depth ≤ 64) : Rep K H (.ref a) d.shown
  | dict {a : Addr} (h : H a = some (.dT [])) : Rep K H (.ref a) (PyData.shown (.dict []))
theorem Rep.same {K : PySem.W.Frag} {H H' : Hp} (s : Same H H') {v : V} {x : Str} (h : Rep K H v x) : Rep K H' v x := by
  cases h with
  | non => exact .non
  | bl b => exact .bl b
  | int i h => exact .int i h
  | str y h => exact .str y h
  | ref h h1 h2 h3 h4 => exact .ref (dp_same s _ _ h) h1 h2 h3 h4
  | dict h => exact .dict (s _ _ h)
def rReprA (K : PySem.W.Frag) : List V → Hp → VK → Prop := fun xs H Q => ∃ v x, xs = [v] ∧ Rep K H v x ∧ Q (.str x) H
theorem call_reprA {X : Cx} (hgd : X.A.guards = some []) (hu : X.A.units + 100 < cLine) : CallR X (.builtin "repr") (rReprA X.K) := by
  intro pins s σ H xs us Q I r h
  obtain ⟨v, x, rfl, h, q⟩ := h
  cases h with
  | non =>
    cases r with
    | cons r rr =>
      cases rr
      cases r
      exact P.repr_of_none ⟨.str "None", H, I.tok _, ⟨_, rfl⟩, q⟩
  | bl b =>
    cases r with
    | cons r rr =>
      cases rr
      cases r
      exact P.repr_of_bool ⟨.str _, H, I.tok _, ⟨_, rfl⟩, q⟩
  | int i hz =>
    obtain ⟨u, rfl, t, rfl⟩ := vals1 r
    exact PySem.P.repr_of_int hz ⟨.str _, H, I.tok _, ⟨_, rfl⟩, q⟩
  | str y hz =>
    obtain ⟨u, rfl, t, rfl⟩ := vals1 r
    exact PySem.P.repr_of_str ⟨.str _, H, I.tok _, ⟨_, rfl⟩, q⟩ hz
  | ref h h1 h2 h3 h4 => exact call_reprD hgd hu pins s σ H _ us Q I r ⟨_, _, rfl, h, h1, h2, h3, h4, q⟩
  | @dict a h =>
    rw [Vals.ref1 r]
    obtain ⟨z0, hd, ys, rel, dd⟩ := dt_of I.hok h
    obtain ⟨o, es, ep, hq, c2, c3, c4, _⟩ := dd
    have l0 : es.size = 0 := by
      rw [size_of_entries c4, ← Paired.length rel]
      rfl
    have e0 : es = #[] := Array.size_eq_zero_iff.mp l0
    subst e0
    have rd : Reads s.heap (.ref a) (.dict []) [a] := by
      have z : Reads s.heap (.ref a) (.dict []) (a :: [] ++ []) := .dict hq c2.1 c3 .nil .nil
      exact z
    exact repr_of_reads' rd (by decide) (fun _ hm => by
      rw [List.mem_singleton] at hm
      rw [hm] at hd
      simp at hd) hgd (by show X.A.units + (1 + 1) < cLine; omega) (fun _ _ e => e) (fun h' u tk hk => ⟨.str _, H, I.kept hk, ⟨u, rfl⟩, q⟩) (by decide +kernel)
end KS
namespace KS
open PySem PySem.Spec PyProof.Rows L2
/-- the name of the field of each class -/
def atN : Nat → Option Str
  | 0 => some "index" | 1 => some "kind" | 2 => some "index" | 3 => some "number" | 4 => some "index" | 5 => some "index" | 6 => some "text" | 7 => some "index" | 8 => some "index" | 9 => some "index"
  | 10 => some "cell" | 11 => some "value" | 12 => some "index" | 13 => some "line" | 15 => some "name" | 17 => some "value" | 19 => some "count" | 20 => some "count" | _ => none
def XTh (cs : Nat → Addr) (v : V) (H : Hp) (x : V) (i : Nat) : Prop := ∃ a f, x = .ref a ∧ atN i = some f ∧ ExAt H a (cs i) (some [(f, v)])
theorem XTh.same {cs : Nat → Addr} {v : V} {H H' : Hp} (s : Same H H') {x : V} {i : Nat} (h : XTh cs v H x i) : XTh cs v H' x i := by
  obtain ⟨a, f, e, hf, h⟩ := h
  exact ⟨a, f, e, hf, h.same s⟩
theorem xths_same {cs : Nat → Addr} {v : V} {H H' : Hp} (s : Same H H') {xs : List V} {ids : List Nat} (h : Paired (XTh cs v H) xs ids) : Paired (XTh cs v H') xs ids := Paired.mono (fun _ _ h => h.same s) h
/-- errors that are made side by side -/
def tMks (cs : Nat → Addr) (ids : List Nat) : TA := fun σ H Q => ∃ v, σ[0]? = some (some v) ∧ ∀ H' xs, Same H H' → Paired (XTh cs v H') xs ids → Q xs H'
theorem pa_wkX {X : Cx} {es : List Expr} {t t' : TA} (h : PA X es t) (k : ∀ σ H Q, t' σ H Q → t σ H Q) : PA X es t' := ⟨fun pos pins s σ H Q I q => h.run pos pins s σ H Q I (k σ H Q q)⟩
section
variable {X : Cx} {cs : Nat → Addr} {x f : Str} {p pos : Pos} {e : Expr} {es : List Expr} {i : Nat} {ids : List Nat}
theorem mks_nil : PA X [] (tMks cs []) := pa_wkX pa_nil fun σ H Q ⟨v, _, q⟩ => q H [] (Same.refl _) .nil
theorem mk_same {H : Hp} {a d C : Addr} {o o' : HO} (na : H a = none) (nd : H d = none) : Same H (upd (upd H d o) a o') := fun b u e => by
  rw [upd_ne (ne_of_none e na), upd_ne (ne_of_none e nd)]
  exact e
theorem mk_at {cs : Nat → Addr} {v : V} {H : Hp} {a d : Addr} (hf : atN i = some f) (ne : d ≠ a) : XTh cs v (upd (upd H d (exd d [(f, v)])) a (exo a (cs i) (some d))) (.ref a) i :=
  ⟨a, f, rfl, hf, .full upd_same (by rw [upd_ne ne, upd_same])⟩
theorem mks_cons (J : XIni X.prog X.w X.K X.mg X.base x f (cs i)) (hr : Room 2 X.A) (hg : Gl X x) (hf : atN i = some f) (he : PE X e (tVar 0)) (r : PA X es (tMks cs ids)) (hs : starEach [e] X.env = (false, eval e X.env) :: starEach [] X.env := by rfl)
    (hs2 : starEach (.Call (.Name x p) [e] [] pos :: es) X.env = (false, eval (.Call (.Name x p) [e] [] pos) X.env) :: starEach es X.env := by rfl) (hdb : (x == ("__debug__" : Str)) = false := by decide) : PA X (.Call (.Name x p) [e] [] pos :: es) (tMks cs (i :: ids)) :=
  pa_wkX (pa_cons (pe_mk1 (p := p) (pos := pos) J hr hg he hs hdb) r hs2) fun σ H Q ⟨v, hv, q⟩ => ⟨v, hv, fun a d na nd ne => ⟨v, hv, fun H' xs s h => q H' _ ((mk_same (C := a) na nd).trans s) (.cons ((mk_at hf ne).same s) h)⟩⟩
theorem mks_consK {kpos : Pos} {nm : Option Str} (J : XIni X.prog X.w X.K X.mg X.base x f (cs i)) (hr : Room 2 X.A) (hg : Gl X x) (hf : atN i = some f) (he : PE X e (tVar 0)) (r : PA X es (tMks cs ids))
    (hall : (backToKw pos (keywordEach [⟨nm, e, kpos⟩] X.env)).all (·.1.isSome) = true := by rfl) (hks : (backToKw pos (keywordEach [⟨nm, e, kpos⟩] X.env)).filterMap (·.1) = [f] := by rfl)
    (hpl : ((backTo pos (starEach [] X.env)).any (·.1) || (backToKw pos (keywordEach [⟨nm, e, kpos⟩] X.env)).any (·.1.isNone)) = false := by rfl)
    (hs2 : starEach (.Call (.Name x p) [] [⟨nm, e, kpos⟩] pos :: es) X.env = (false, eval (.Call (.Name x p) [] [⟨nm, e, kpos⟩] pos) X.env) :: starEach es X.env := by rfl) (hdb : (x == ("__debug__" : Str)) = false := by decide) :
    PA X (.Call (.Name x p) [] [⟨nm, e, kpos⟩] pos :: es) (tMks cs (i :: ids)) :=
  pa_wkX (pa_cons (pe_mk1k (p := p) (pos := pos) J hr hg (pk_cons he pk_nil) hall hks hdb hpl) r hs2) fun σ H Q ⟨v, hv, q⟩ => ⟨v, hv, v, rfl, fun a d na nd ne => ⟨v, hv, fun H' xs s h => q H' _ ((mk_same (C := a) na nd).trans s) (.cons ((mk_at hf ne).same s) h)⟩⟩
end
theorem pe_exfK {X : Cx} {K : PySem.W.Frag} {e : Expr} {te : TE} {pos : Pos} {n : Str} (hK : X.K = K) (he : PE X e te) (hb : attributeBase e n X.env (eval e X.env) = eval e X.env := by rfl) : PE X (.Attribute e n pos) (tExf K n te) := by
  subst hK
  exact pe_exf he hb
theorem pi_listX {X : Cx} {K : PySem.W.Frag} {tg l : Expr} {tl : TE} (hK : X.K = K) (hl : PE X l tl) : PI X tg l (iList K tl) := by
  subst hK
  exact pi_list hl
/-- [x.f for x in l] -/
theorem attr_line {K : PySem.W.Frag} {cs : Nat → Addr} {v : V} {σ : L2.St} {H : Hp} {Q : VK} {te : TE} {xs : List V} {ids : List Nat} {f : Str} {oi : Nat} (hte : ∀ R : VK, (∀ H' L, Same H H' → H' L = some (.lst xs) → R (.ref L) H') → te σ H R) (hx : Paired (XTh cs v H) xs ids)
    (hf : ∀ i ∈ ids, atN i = some f ∧ XfC K (cs i) ∧ PySem.W.findIn K (.ref (cs i)) f = some none) (h5 : oi < σ.length) (hn : xs.length ≤ 64) (k : ∀ D G, Same H G → G D = some (.lst (List.replicate ids.length v)) → Q (.ref D) G) :
    tLc (iList K te) (gName oi) tYes (tExf K f (tVar oi)) [oi] σ H Q := by
  refine hte _ fun H1 L s1 hL => ⟨L, rfl, ⟨_, SqL.of hL⟩, fun D nD => ?_⟩
  have nLD : L ≠ D := ne_of_none hL nD
  have hx1 := xths_same s1 hx
  refine lc_list (K := K) (a := L) (xs := xs) (fun j G => G D = some (.lst (List.replicate j v)) ∧ (∀ b o, b ≠ D → H1 b = some o → G b = some o)) ?_ ?_ ?_ ?_
  · exact ⟨upd_same, fun b o n e => by rw [upd_ne n]; exact e⟩
  · rintro j G _ ⟨_, a2⟩
    exact SqL.of (a2 _ _ nLD hL)
  · rintro j x G hj ⟨a1, a2⟩
    have sG : Same H1 G := fun b o e => a2 b o (ne_of_none e nD) e
    obtain ⟨i, hi, a, f', rfl, hf', ha⟩ := paired_get hx1 hj
    obtain ⟨e1, e2, e3⟩ := hf i (List.mem_of_getElem? hi)
    rw [e1] at hf'
    cases hf'
    have jl := (List.getElem?_eq_some_iff.mp hj).1
    have ha2 := ha.same sG
    refine ⟨?_, .ref a, ?_, ?_⟩
    · show ((σ.set oi none).set oi _).set oi none = σ.set oi none
      rw [List.set_set, List.set_set]
    · show ((σ.set oi none).set oi _)[oi]? = _
      rw [List.set_set, List.getElem?_set_self h5]
    cases ha2 with
    | full ea ed =>
      refine ⟨a, cs i, _, _, v, rfl, ea, ed, e2, e3, ?_, ?_⟩
      · show ((f, v) :: []).lookup f = some v
        simp [List.lookup]
      refine ⟨_, a1, ?_, ?_, fun b o n e => ?_⟩
      · rw [List.length_replicate]
        exact small64 (by omega)
      · rw [upd_same, List.replicate_succ']
      · rw [upd_ne n]
        exact a2 b o n e
  · rintro G ⟨a1, a2⟩
    have sG : Same H1 G := fun b o e => a2 b o (ne_of_none e nD) e
    rw [Paired.length hx] at a1
    exact k D G (s1.trans sG) a1
/-- l[i:j] -/
theorem cutV_nat {xs : List V} {i j : Nat} (hj : j ≤ xs.length) (hij : i ≤ j) : cutV xs (some (i : Int)) (some (j : Int)) = (xs.take j).drop i := by
  have e1 : HT.sIx xs.length 0 (some (i : Int)) = min i xs.length := HT.sIx_nat _ _ i
  have e2 : HT.sIx xs.length xs.length (some (j : Int)) = min j xs.length := HT.sIx_nat _ _ j
  unfold cutV
  rw [e1, e2, Nat.min_eq_left hj, Nat.min_eq_left (show i ≤ xs.length by omega), List.drop_take]
theorem cutV_to {xs : List V} {j : Nat} (hj : j ≤ xs.length) : cutV xs none (some (j : Int)) = xs.take j := by
  have e1 : HT.sIx xs.length 0 none = 0 := rfl
  have e2 : HT.sIx xs.length xs.length (some (j : Int)) = min j xs.length := HT.sIx_nat _ _ j
  unfold cutV
  rw [e1, e2, Nat.min_eq_left hj, List.drop_zero, Nat.sub_zero]
theorem cutV_from {xs : List V} {i : Nat} (hi : i ≤ xs.length) : cutV xs (some (i : Int)) none = xs.drop i := by
  have e1 : HT.sIx xs.length 0 (some (i : Int)) = min i xs.length := HT.sIx_nat _ _ i
  have e2 : HT.sIx xs.length xs.length none = xs.length := rfl
  unfold cutV
  rw [e1, e2, Nat.min_eq_left hi, List.take_of_length_le (by rw [List.length_drop]; exact Nat.le_refl _)]
theorem paired_takeX {α β : Type} {F : α → β → Prop} : ∀ {l : List α} {m : List β} (n : Nat), Paired F l m → Paired F (l.take n) (m.take n)
  | _, _, 0, _ => .nil
  | _, _, n + 1, .nil => .nil
  | _, _, n + 1, .cons h t => .cons h (paired_takeX n t)
theorem paired_dropX {α β : Type} {F : α → β → Prop} : ∀ {l : List α} {m : List β} (n : Nat), Paired F l m → Paired F (l.drop n) (m.drop n)
  | _, _, 0, h => h
  | _, _, n + 1, .nil => .nil
  | _, _, n + 1, .cons _ t => paired_dropX n t
end KS
namespace KS
open PySem PySem.Spec PyProof.Rows L2
structure XCls (P : Program) (w : World) (K : PySem.W.Frag) (mg : Str → Option Value) (base : Heap) (cs : Nat → Addr) : Prop where
  x0 : XIni P w K mg base "InvalidPlan" "index" (cs 0)
  x1 : XIni P w K mg base "InvalidKind" "kind" (cs 1)
  x2 : XIni P w K mg base "InvalidFilling" "index" (cs 2)
  x3 : XIni P w K mg base "InvalidNumber" "number" (cs 3)
  x4 : XIni P w K mg base "InvalidWord" "index" (cs 4)
  x5 : XIni P w K mg base "InvalidProgram" "index" (cs 5)
  x6 : XIni P w K mg base "InvalidText" "text" (cs 6)
  x7 : XIni P w K mg base "InvalidLengths" "index" (cs 7)
  x8 : XIni P w K mg base "InvalidTable" "index" (cs 8)
  x9 : XIni P w K mg base "InvalidRecord" "index" (cs 9)
  x10 : XIni P w K mg base "InvalidCell" "cell" (cs 10)
  x11 : XIni P w K mg base "InvalidValue" "value" (cs 11)
  x12 : XIni P w K mg base "InvalidEdit" "index" (cs 12)
  x13 : XIni P w K mg base "InvalidCommand" "line" (cs 13)
  x14 : XBare K mg "OtherValues" (cs 14)
  x15 : XIni P w K mg base "UnknownName" "name" (cs 15)
  x16 : XBare K mg "NoOrder" (cs 16)
  x17 : XIni P w K mg base "ValueTaken" "value" (cs 17)
  x18 : XBare K mg "NothingToUndo" (cs 18)
  x19 : XIni P w K mg base "TooManyCells" "count" (cs 19)
  x20 : XIni P w K mg base "TooManyEdits" "count" (cs 20)
theorem XCls.ok {P : Program} {w : World} {K : PySem.W.Frag} {mg : Str → Option Value} {base : Heap} {cs : Nat → Addr} (J : XCls P w K mg base cs) {f : Str} : ∀ {i : Nat}, atN i = some f → XfC K (cs i) ∧ PySem.W.findIn K (.ref (cs i)) f = some none
  | 0, h => by cases h; exact ⟨J.x0.xf, J.x0.nf⟩
  | 1, h => by cases h; exact ⟨J.x1.xf, J.x1.nf⟩
  | 2, h => by cases h; exact ⟨J.x2.xf, J.x2.nf⟩
  | 3, h => by cases h; exact ⟨J.x3.xf, J.x3.nf⟩
  | 4, h => by cases h; exact ⟨J.x4.xf, J.x4.nf⟩
  | 5, h => by cases h; exact ⟨J.x5.xf, J.x5.nf⟩
  | 6, h => by cases h; exact ⟨J.x6.xf, J.x6.nf⟩
  | 7, h => by cases h; exact ⟨J.x7.xf, J.x7.nf⟩
  | 8, h => by cases h; exact ⟨J.x8.xf, J.x8.nf⟩
  | 9, h => by cases h; exact ⟨J.x9.xf, J.x9.nf⟩
  | 10, h => by cases h; exact ⟨J.x10.xf, J.x10.nf⟩
  | 11, h => by cases h; exact ⟨J.x11.xf, J.x11.nf⟩
  | 12, h => by cases h; exact ⟨J.x12.xf, J.x12.nf⟩
  | 13, h => by cases h; exact ⟨J.x13.xf, J.x13.nf⟩
  | 14, h => by cases h
  | 15, h => by cases h; exact ⟨J.x15.xf, J.x15.nf⟩
  | 16, h => by cases h
  | 17, h => by cases h; exact ⟨J.x17.xf, J.x17.nf⟩
  | 18, h => by cases h
  | 19, h => by cases h; exact ⟨J.x19.xf, J.x19.nf⟩
  | 20, h => by cases h; exact ⟨J.x20.xf, J.x20.nf⟩
  | _ + 21, h => by cases h
def spMade (cs : Nat → Addr) (ids : List Nat) : Sp := fun vs H Q _ => ∃ v, vs = [v] ∧ ∀ H' R M S xs, Same H H' → H' R = some (.lst [.ref M, .ref S]) → H' M = some (.lst xs) → Paired (XTh cs v H') xs ids → H' S = some (.lst (List.replicate ids.length v)) → Q (.ref R) H'
def idsFirst : List Nat := [0, 0, 1, 1, 2, 2, 3, 3, 4, 4, 5, 5, 6, 6]
abbrev sFirst84 : Stmt := topS 37
abbrev nFirst84 : List Str := ["_law_thing", "_law_made", "_law_shown", "_law_one"]
theorem scFirst84 : FnScope nFirst84 ["_law_thing"] (defScope sFirst84) := ⟨rfl, rfl, rfl, by decide +kernel, rfl, by decide +kernel, by decide +kernel⟩
section
variable {P : Program} {w : World} {K : PySem.W.Frag} {mg : Str → Option Value} {base : Heap}
theorem ok_first84 {f : Addr} {fd : FuncData} {cs : Nat → Addr} (F : Fun K "_law_first" "_law_first" sFirst84 f fd) (J : XCls P w K mg base cs) : FnOk P w K mg base CX0 3 f fd ["_law_thing"] (spMade cs idsFirst) := by
  refine F.ok scFirst84 (fun vs H Q E h => ?_) (fun cdv A outer s H vs Q E hr h => ?_)
  · obtain ⟨v, rfl, _⟩ := h
    rfl
  · obtain ⟨v, rfl, q⟩ := h
    have nd := scFirst84.nd
    refine ⟨_, pss_cons (ps_set (i := 1) nd rfl (.inl rfl) (pe_lst (mks_cons J.x0 hr (by rfl) rfl (pv 0) (mks_consK J.x0 hr (by rfl) rfl (pv 0) (mks_cons J.x1 hr (by rfl) rfl (pv 0) (mks_consK J.x1 hr (by rfl) rfl (pv 0) mks_nil))))))
      (pss_cons (ps_set (i := 1) nd rfl (.inl rfl) (pe_op op_cat (pv 1) (pe_lst (mks_cons J.x2 hr (by rfl) rfl (pv 0) (mks_consK J.x2 hr (by rfl) rfl (pv 0) mks_nil)))))
      (pss_cons (ps_set (i := 1) nd rfl (.inl rfl) (pe_op op_cat (pv 1) (pe_lst (mks_cons J.x3 hr (by rfl) rfl (pv 0) (mks_consK J.x3 hr (by rfl) rfl (pv 0) (mks_cons J.x4 hr (by rfl) rfl (pv 0) (mks_consK J.x4 hr (by rfl) rfl (pv 0) mks_nil)))))))
      (pss_cons (ps_set (i := 1) nd rfl (.inl rfl) (pe_op op_cat (pv 1) (pe_lst (mks_cons J.x5 hr (by rfl) rfl (pv 0) (mks_consK J.x5 hr (by rfl) rfl (pv 0) (mks_cons J.x6 hr (by rfl) rfl (pv 0) (mks_consK J.x6 hr (by rfl) rfl (pv 0) mks_nil)))))))
      (pss_cons (ps_set (i := 2) nd rfl (.inl rfl) (pe_op op_cat (pe_lc (own := [("_law_one", 3)]) (g := gName 3) (tt := tYes) rfl nd (pi_listX (K := K) rfl (pe_slice sl_list (pv 1) po_none (po_some pe_int))) (blkOk_by (N := nFirst84) (sc := defScope sFirst84) (by decide +kernel)) (fun _ _ _ _ _ => pg_name (i := 3) nd rfl (Or.inl rfl)) (fun _ _ _ _ _ => pts_nil) (fun _ _ _ _ _ => pe_exfK (K := K) rfl (pv 3))) (pe_lc (own := [("_law_one", 3)]) (g := gName 3) (tt := tYes) rfl nd (pi_listX (K := K) rfl (pe_slice sl_list (pv 1) (po_some pe_int) (po_some pe_int))) (blkOk_by (N := nFirst84) (sc := defScope sFirst84) (by decide +kernel)) (fun _ _ _ _ _ => pg_name (i := 3) nd rfl (Or.inl rfl)) (fun _ _ _ _ _ => pts_nil) (fun _ _ _ _ _ => pe_exfK (K := K) rfl (pv 3)))))
      (pss_cons (ps_set (i := 2) nd rfl (.inl rfl) (pe_op op_cat (pe_op op_cat (pv 2) (pe_lc (own := [("_law_one", 3)]) (g := gName 3) (tt := tYes) rfl nd (pi_listX (K := K) rfl (pe_slice sl_list (pv 1) (po_some pe_int) (po_some pe_int))) (blkOk_by (N := nFirst84) (sc := defScope sFirst84) (by decide +kernel)) (fun _ _ _ _ _ => pg_name (i := 3) nd rfl (Or.inl rfl)) (fun _ _ _ _ _ => pts_nil) (fun _ _ _ _ _ => pe_exfK (K := K) rfl (pv 3)))) (pe_lc (own := [("_law_one", 3)]) (g := gName 3) (tt := tYes) rfl nd (pi_listX (K := K) rfl (pe_slice sl_list (pv 1) (po_some pe_int) (po_some pe_int))) (blkOk_by (N := nFirst84) (sc := defScope sFirst84) (by decide +kernel)) (fun _ _ _ _ _ => pg_name (i := 3) nd rfl (Or.inl rfl)) (fun _ _ _ _ _ => pts_nil) (fun _ _ _ _ _ => pe_exfK (K := K) rfl (pv 3)))))
      (pss_one (ps_ret (pe_lst (pa_cons (pv 1) (pa_cons (pe_op op_cat (pe_op op_cat (pv 2) (pe_lc (own := [("_law_one", 3)]) (g := gName 3) (tt := tYes) rfl nd (pi_listX (K := K) rfl (pe_slice sl_list (pv 1) (po_some pe_int) (po_some pe_int))) (blkOk_by (N := nFirst84) (sc := defScope sFirst84) (by decide +kernel)) (fun _ _ _ _ _ => pg_name (i := 3) nd rfl (Or.inl rfl)) (fun _ _ _ _ _ => pts_nil) (fun _ _ _ _ _ => pe_exfK (K := K) rfl (pv 3)))) (pe_lc (own := [("_law_one", 3)]) (g := gName 3) (tt := tYes) rfl nd (pi_listX (K := K) rfl (pe_slice sl_list (pv 1) (po_some pe_int) po_none)) (blkOk_by (N := nFirst84) (sc := defScope sFirst84) (by decide +kernel)) (fun _ _ _ _ _ => pg_name (i := 3) nd rfl (Or.inl rfl)) (fun _ _ _ _ _ => pts_nil) (fun _ _ _ _ _ => pe_exfK (K := K) rfl (pv 3)))) pa_nil)))))))))), ?_⟩
    refine ⟨v, rfl, fun H1 xs1 s1 p1 => ⟨by rw [Paired.length p1]; show 4 ≤ sizeLine; rw [sizeLine_eq]; omega, fun M1 nM1 => ?_⟩⟩
    have t1 := same_new (o := .lst xs1) nM1
    have p1 := xths_same t1 p1
    have hM1 : upd H1 M1 (.lst xs1) M1 = some (.lst xs1) := upd_same
    have s1 := s1.trans t1
    generalize upd H1 M1 (.lst xs1) = G1 at p1 hM1 s1
    have l1 : xs1.length = 4 := Paired.length p1
    clear t1 nM1
    refine ⟨_, rfl, v, rfl, fun H2 ys2 u2 q2 => ⟨by rw [Paired.length q2]; show 2 ≤ sizeLine; rw [sizeLine_eq]; omega, fun Y2 nY2 => ?_⟩⟩
    have t2 := same_new (o := .lst ys2) nY2
    have k2 : ys2.length = 2 := Paired.length q2
    refine ⟨M1, Y2, xs1, ys2, rfl, rfl, t2 _ _ (u2 _ _ hM1), upd_same, by rw [l1, k2, sizeLine_eq]; omega, fun M2 nM2 => ?_⟩
    have w2 := same_new (o := .lst (xs1 ++ ys2)) nM2
    have p2 := paired_append (xths_same ((u2.trans t2).trans w2) p1) (xths_same (t2.trans w2) q2)
    have hM2 : upd (upd H2 Y2 (.lst ys2)) M2 (.lst (xs1 ++ ys2)) M2 = some (.lst (xs1 ++ ys2)) := upd_same
    have s2 := s1.trans ((u2.trans t2).trans w2)
    generalize upd (upd H2 Y2 (.lst ys2)) M2 (.lst (xs1 ++ ys2)) = G2 at p2 hM2 s2
    have l2 : (xs1 ++ ys2).length = 6 := by rw [List.length_append, l1, k2]
    generalize xs1 ++ ys2 = xs2 at p2 hM2 l2
    clear p1 hM1 w2 t2 u2 q2
    refine ⟨_, rfl, v, rfl, fun H3 ys3 u3 q3 => ⟨by rw [Paired.length q3]; show 4 ≤ sizeLine; rw [sizeLine_eq]; omega, fun Y3 nY3 => ?_⟩⟩
    have t3 := same_new (o := .lst ys3) nY3
    have k3 : ys3.length = 4 := Paired.length q3
    refine ⟨M2, Y3, xs2, ys3, rfl, rfl, t3 _ _ (u3 _ _ hM2), upd_same, by rw [l2, k3, sizeLine_eq]; omega, fun M3 nM3 => ?_⟩
    have w3 := same_new (o := .lst (xs2 ++ ys3)) nM3
    have p3 := paired_append (xths_same ((u3.trans t3).trans w3) p2) (xths_same (t3.trans w3) q3)
    have hM3 : upd (upd H3 Y3 (.lst ys3)) M3 (.lst (xs2 ++ ys3)) M3 = some (.lst (xs2 ++ ys3)) := upd_same
    have s3 := s2.trans ((u3.trans t3).trans w3)
    generalize upd (upd H3 Y3 (.lst ys3)) M3 (.lst (xs2 ++ ys3)) = G3 at p3 hM3 s3
    have l3 : (xs2 ++ ys3).length = 10 := by rw [List.length_append, l2, k3]
    generalize xs2 ++ ys3 = xs3 at p3 hM3 l3
    clear p2 hM2 w3 t3 u3 q3
    refine ⟨_, rfl, v, rfl, fun H4 ys4 u4 q4 => ⟨by rw [Paired.length q4]; show 4 ≤ sizeLine; rw [sizeLine_eq]; omega, fun Y4 nY4 => ?_⟩⟩
    have t4 := same_new (o := .lst ys4) nY4
    have k4 : ys4.length = 4 := Paired.length q4
    refine ⟨M3, Y4, xs3, ys4, rfl, rfl, t4 _ _ (u4 _ _ hM3), upd_same, by rw [l3, k4, sizeLine_eq]; omega, fun M4 nM4 => ?_⟩
    have w4 := same_new (o := .lst (xs3 ++ ys4)) nM4
    have p4 := paired_append (xths_same ((u4.trans t4).trans w4) p3) (xths_same (t4.trans w4) q4)
    have hM4 : upd (upd H4 Y4 (.lst ys4)) M4 (.lst (xs3 ++ ys4)) M4 = some (.lst (xs3 ++ ys4)) := upd_same
    have s4 := s3.trans ((u4.trans t4).trans w4)
    generalize upd (upd H4 Y4 (.lst ys4)) M4 (.lst (xs3 ++ ys4)) = G4 at p4 hM4 s4
    have l4 : (xs3 ++ ys4).length = 14 := by rw [List.length_append, l3, k4]
    generalize xs3 ++ ys4 = xs4 at p4 hM4 l4
    clear p3 hM3 w4 t4 u4 q4
    have pp : Paired (XTh cs v G4) xs4 idsFirst := p4
    clear p4
    try dsimp only [gName, tSeq, tAsg, tOp, tRet, tLst, tCons]
    refine attr_line (K := K) (cs := cs) (v := v) (f := "index") (ids := idsFirst.take 2) (fun R hR => ⟨_, rfl, _, rfl, M4, xs4, rfl, SqL.of hM4, fun p np => hR _ p (same_new np) (by rw [upd_same]; exact congrArg (fun z => some (HO.lst z)) (cutV_to (j := 2) (by omega)))⟩) (paired_takeX 2 pp) (fun i hi => ?_) (by show 3 < 4; decide) (by simp only [List.length_take, List.length_drop]; omega) (fun D1 K1 z1 e1 => ?_)
    · have h0 : atN i = some "index" := (by decide : ∀ i ∈ idsFirst.take 2, atN i = some "index") i hi
      exact ⟨h0, J.ok h0⟩
    have pp1 := xths_same z1 pp
    have hN1 := z1 _ _ hM4
    have ss1 := s4.trans z1
    have hS1 : K1 D1 = some (.lst (List.replicate 2 v)) := e1
    try dsimp only [gName, tSeq, tAsg, tOp, tRet, tLst, tCons]
    refine attr_line (K := K) (cs := cs) (v := v) (f := "kind") (ids := (idsFirst.take 4).drop 2) (fun R hR => ⟨_, rfl, _, rfl, _, rfl, M4, xs4, rfl, SqL.of hN1, fun p np => hR _ p (same_new np) (by rw [upd_same]; exact congrArg (fun z => some (HO.lst z)) (cutV_nat (i := 2) (j := 4) (by omega) (by omega)))⟩) (paired_dropX 2 (paired_takeX 4 pp1)) (fun i hi => ?_) (by show 3 < 4; decide) (by simp only [List.length_take, List.length_drop]; omega) (fun D2 K2 z2 e2 => ?_)
    · have h0 : atN i = some "kind" := (by decide : ∀ i ∈ (idsFirst.take 4).drop 2, atN i = some "kind") i hi
      exact ⟨h0, J.ok h0⟩
    have pp2 := xths_same z2 pp1
    have hN2 := z2 _ _ hN1
    have ss2 := ss1.trans z2
    have hS2 := z2 _ _ hS1
    refine ⟨D1, D2, _, _, rfl, rfl, hS2, e2, by simp only [List.length_replicate, List.length_take, List.length_drop]; rw [sizeLine_eq]; decide, fun E2 nE2 => ?_⟩
    have hT2 : upd K2 E2 (.lst (List.replicate 2 v ++ List.replicate ((idsFirst.take 4).drop 2).length v)) E2 = some (.lst (List.replicate 4 v)) := upd_same
    have y2 := same_new (o := .lst (List.replicate 2 v ++ List.replicate ((idsFirst.take 4).drop 2).length v)) nE2
    have pq2 := xths_same y2 pp2
    have hO2 := y2 _ _ hN2
    have sy2 := ss2.trans y2
    generalize upd K2 E2 (.lst (List.replicate 2 v ++ List.replicate ((idsFirst.take 4).drop 2).length v)) = W2 at hT2 pq2 hO2 sy2
    refine ⟨_, rfl, ?_⟩
    try dsimp only [gName, tSeq, tAsg, tOp, tRet, tLst, tCons]
    refine attr_line (K := K) (cs := cs) (v := v) (f := "index") (ids := (idsFirst.take 6).drop 4) (fun R hR => ⟨_, rfl, _, rfl, _, rfl, M4, xs4, rfl, SqL.of hO2, fun p np => hR _ p (same_new np) (by rw [upd_same]; exact congrArg (fun z => some (HO.lst z)) (cutV_nat (i := 4) (j := 6) (by omega) (by omega)))⟩) (paired_dropX 4 (paired_takeX 6 pq2)) (fun i hi => ?_) (by show 3 < 4; decide) (by simp only [List.length_take, List.length_drop]; omega) (fun D3 K3 z3 e3 => ?_)
    · have h0 : atN i = some "index" := (by decide : ∀ i ∈ (idsFirst.take 6).drop 4, atN i = some "index") i hi
      exact ⟨h0, J.ok h0⟩
    have pp3 := xths_same z3 pq2
    have hN3 := z3 _ _ hO2
    have ss3 := sy2.trans z3
    have hS3 := z3 _ _ hT2
    refine ⟨E2, D3, _, _, rfl, rfl, hS3, e3, by simp only [List.length_replicate, List.length_take, List.length_drop]; rw [sizeLine_eq]; decide, fun E3 nE3 => ?_⟩
    have hT3 : upd K3 E3 (.lst (List.replicate 4 v ++ List.replicate ((idsFirst.take 6).drop 4).length v)) E3 = some (.lst (List.replicate 6 v)) := upd_same
    have y3 := same_new (o := .lst (List.replicate 4 v ++ List.replicate ((idsFirst.take 6).drop 4).length v)) nE3
    have pq3 := xths_same y3 pp3
    have hO3 := y3 _ _ hN3
    have sy3 := ss3.trans y3
    generalize upd K3 E3 (.lst (List.replicate 4 v ++ List.replicate ((idsFirst.take 6).drop 4).length v)) = W3 at hT3 pq3 hO3 sy3
    try dsimp only [gName, tSeq, tAsg, tOp, tRet, tLst, tCons]
    refine attr_line (K := K) (cs := cs) (v := v) (f := "number") (ids := (idsFirst.take 8).drop 6) (fun R hR => ⟨_, rfl, _, rfl, _, rfl, M4, xs4, rfl, SqL.of hO3, fun p np => hR _ p (same_new np) (by rw [upd_same]; exact congrArg (fun z => some (HO.lst z)) (cutV_nat (i := 6) (j := 8) (by omega) (by omega)))⟩) (paired_dropX 6 (paired_takeX 8 pq3)) (fun i hi => ?_) (by show 3 < 4; decide) (by simp only [List.length_take, List.length_drop]; omega) (fun D4 K4 z4 e4 => ?_)
    · have h0 : atN i = some "number" := (by decide : ∀ i ∈ (idsFirst.take 8).drop 6, atN i = some "number") i hi
      exact ⟨h0, J.ok h0⟩
    have pp4 := xths_same z4 pq3
    have hN4 := z4 _ _ hO3
    have ss4 := sy3.trans z4
    have hS4 := z4 _ _ hT3
    refine ⟨E3, D4, _, _, rfl, rfl, hS4, e4, by simp only [List.length_replicate, List.length_take, List.length_drop]; rw [sizeLine_eq]; decide, fun E4 nE4 => ?_⟩
    have hT4 : upd K4 E4 (.lst (List.replicate 6 v ++ List.replicate ((idsFirst.take 8).drop 6).length v)) E4 = some (.lst (List.replicate 8 v)) := upd_same
    have y4 := same_new (o := .lst (List.replicate 6 v ++ List.replicate ((idsFirst.take 8).drop 6).length v)) nE4
    have pq4 := xths_same y4 pp4
    have hO4 := y4 _ _ hN4
    have sy4 := ss4.trans y4
    generalize upd K4 E4 (.lst (List.replicate 6 v ++ List.replicate ((idsFirst.take 8).drop 6).length v)) = W4 at hT4 pq4 hO4 sy4
    refine ⟨_, rfl, _, rfl, ?_⟩
    try dsimp only [gName, tSeq, tAsg, tOp, tRet, tLst, tCons]
    refine attr_line (K := K) (cs := cs) (v := v) (f := "index") (ids := (idsFirst.take 12).drop 8) (fun R hR => ⟨_, rfl, _, rfl, _, rfl, M4, xs4, rfl, SqL.of hO4, fun p np => hR _ p (same_new np) (by rw [upd_same]; exact congrArg (fun z => some (HO.lst z)) (cutV_nat (i := 8) (j := 12) (by omega) (by omega)))⟩) (paired_dropX 8 (paired_takeX 12 pq4)) (fun i hi => ?_) (by show 3 < 4; decide) (by simp only [List.length_take, List.length_drop]; omega) (fun D5 K5 z5 e5 => ?_)
    · have h0 : atN i = some "index" := (by decide : ∀ i ∈ (idsFirst.take 12).drop 8, atN i = some "index") i hi
      exact ⟨h0, J.ok h0⟩
    have pp5 := xths_same z5 pq4
    have hN5 := z5 _ _ hO4
    have ss5 := sy4.trans z5
    have hS5 := z5 _ _ hT4
    refine ⟨E4, D5, _, _, rfl, rfl, hS5, e5, by simp only [List.length_replicate, List.length_take, List.length_drop]; rw [sizeLine_eq]; decide, fun E5 nE5 => ?_⟩
    have hT5 : upd K5 E5 (.lst (List.replicate 8 v ++ List.replicate ((idsFirst.take 12).drop 8).length v)) E5 = some (.lst (List.replicate 12 v)) := upd_same
    have y5 := same_new (o := .lst (List.replicate 8 v ++ List.replicate ((idsFirst.take 12).drop 8).length v)) nE5
    have pq5 := xths_same y5 pp5
    have hO5 := y5 _ _ hN5
    have sy5 := ss5.trans y5
    generalize upd K5 E5 (.lst (List.replicate 8 v ++ List.replicate ((idsFirst.take 12).drop 8).length v)) = W5 at hT5 pq5 hO5 sy5
    try dsimp only [gName, tSeq, tAsg, tOp, tRet, tLst, tCons]
    refine attr_line (K := K) (cs := cs) (v := v) (f := "text") (ids := idsFirst.drop 12) (fun R hR => ⟨_, rfl, _, rfl, M4, xs4, rfl, SqL.of hO5, fun p np => hR _ p (same_new np) (by rw [upd_same]; exact congrArg (fun z => some (HO.lst z)) (cutV_from (i := 12) (by omega)))⟩) (paired_dropX 12 pq5) (fun i hi => ?_) (by show 3 < 4; decide) (by simp only [List.length_take, List.length_drop]; omega) (fun D6 K6 z6 e6 => ?_)
    · have h0 : atN i = some "text" := (by decide : ∀ i ∈ idsFirst.drop 12, atN i = some "text") i hi
      exact ⟨h0, J.ok h0⟩
    have pp6 := xths_same z6 pq5
    have hN6 := z6 _ _ hO5
    have ss6 := sy5.trans z6
    have hS6 := z6 _ _ hT5
    refine ⟨E5, D6, _, _, rfl, rfl, hS6, e6, by simp only [List.length_replicate, List.length_take, List.length_drop]; rw [sizeLine_eq]; decide, fun E6 nE6 => ?_⟩
    have hT6 : upd K6 E6 (.lst (List.replicate 12 v ++ List.replicate (idsFirst.drop 12).length v)) E6 = some (.lst (List.replicate 14 v)) := upd_same
    have y6 := same_new (o := .lst (List.replicate 12 v ++ List.replicate (idsFirst.drop 12).length v)) nE6
    have pq6 := xths_same y6 pp6
    have hO6 := y6 _ _ hN6
    have sy6 := ss6.trans y6
    generalize upd K6 E6 (.lst (List.replicate 12 v ++ List.replicate (idsFirst.drop 12).length v)) = W6 at hT6 pq6 hO6 sy6
    refine ⟨by show 2 ≤ sizeLine; decide, fun R nR => ?_⟩
    have yR := same_new (o := .lst [.ref M4, .ref E6]) nR
    exact q _ R M4 E6 xs4 (sy6.trans yR) upd_same (yR _ _ hO6) (xths_same yR pq6) (yR _ _ hT6)
end
def idsSecond : List Nat := [7, 7, 8, 8, 9, 9, 10, 10, 11, 11, 12, 12, 13, 13]
abbrev sSecond84 : Stmt := topS 38
abbrev nSecond84 : List Str := ["_law_thing", "_law_made", "_law_shown", "_law_one"]
theorem scSecond84 : FnScope nSecond84 ["_law_thing"] (defScope sSecond84) := ⟨rfl, rfl, rfl, by decide +kernel, rfl, by decide +kernel, by decide +kernel⟩
section
variable {P : Program} {w : World} {K : PySem.W.Frag} {mg : Str → Option Value} {base : Heap}
theorem ok_second84 {f : Addr} {fd : FuncData} {cs : Nat → Addr} (F : Fun K "_law_second" "_law_second" sSecond84 f fd) (J : XCls P w K mg base cs) : FnOk P w K mg base CX0 3 f fd ["_law_thing"] (spMade cs idsSecond) := by
  refine F.ok scSecond84 (fun vs H Q E h => ?_) (fun cdv A outer s H vs Q E hr h => ?_)
  · obtain ⟨v, rfl, _⟩ := h
    rfl
  · obtain ⟨v, rfl, q⟩ := h
    have nd := scSecond84.nd
    refine ⟨_, pss_cons (ps_set (i := 1) nd rfl (.inl rfl) (pe_lst (mks_cons J.x7 hr (by rfl) rfl (pv 0) (mks_consK J.x7 hr (by rfl) rfl (pv 0) (mks_cons J.x8 hr (by rfl) rfl (pv 0) (mks_consK J.x8 hr (by rfl) rfl (pv 0) mks_nil))))))
      (pss_cons (ps_set (i := 1) nd rfl (.inl rfl) (pe_op op_cat (pv 1) (pe_lst (mks_cons J.x9 hr (by rfl) rfl (pv 0) (mks_consK J.x9 hr (by rfl) rfl (pv 0) (mks_cons J.x10 hr (by rfl) rfl (pv 0) (mks_consK J.x10 hr (by rfl) rfl (pv 0) mks_nil)))))))
      (pss_cons (ps_set (i := 1) nd rfl (.inl rfl) (pe_op op_cat (pv 1) (pe_lst (mks_cons J.x11 hr (by rfl) rfl (pv 0) (mks_consK J.x11 hr (by rfl) rfl (pv 0) (mks_cons J.x12 hr (by rfl) rfl (pv 0) (mks_consK J.x12 hr (by rfl) rfl (pv 0) mks_nil)))))))
      (pss_cons (ps_set (i := 1) nd rfl (.inl rfl) (pe_op op_cat (pv 1) (pe_lst (mks_cons J.x13 hr (by rfl) rfl (pv 0) (mks_consK J.x13 hr (by rfl) rfl (pv 0) mks_nil)))))
      (pss_cons (ps_set (i := 2) nd rfl (.inl rfl) (pe_op op_cat (pe_lc (own := [("_law_one", 3)]) (g := gName 3) (tt := tYes) rfl nd (pi_listX (K := K) rfl (pe_slice sl_list (pv 1) po_none (po_some pe_int))) (blkOk_by (N := nSecond84) (sc := defScope sSecond84) (by decide +kernel)) (fun _ _ _ _ _ => pg_name (i := 3) nd rfl (Or.inl rfl)) (fun _ _ _ _ _ => pts_nil) (fun _ _ _ _ _ => pe_exfK (K := K) rfl (pv 3))) (pe_lc (own := [("_law_one", 3)]) (g := gName 3) (tt := tYes) rfl nd (pi_listX (K := K) rfl (pe_slice sl_list (pv 1) (po_some pe_int) (po_some pe_int))) (blkOk_by (N := nSecond84) (sc := defScope sSecond84) (by decide +kernel)) (fun _ _ _ _ _ => pg_name (i := 3) nd rfl (Or.inl rfl)) (fun _ _ _ _ _ => pts_nil) (fun _ _ _ _ _ => pe_exfK (K := K) rfl (pv 3)))))
      (pss_cons (ps_set (i := 2) nd rfl (.inl rfl) (pe_op op_cat (pe_op op_cat (pv 2) (pe_lc (own := [("_law_one", 3)]) (g := gName 3) (tt := tYes) rfl nd (pi_listX (K := K) rfl (pe_slice sl_list (pv 1) (po_some pe_int) (po_some pe_int))) (blkOk_by (N := nSecond84) (sc := defScope sSecond84) (by decide +kernel)) (fun _ _ _ _ _ => pg_name (i := 3) nd rfl (Or.inl rfl)) (fun _ _ _ _ _ => pts_nil) (fun _ _ _ _ _ => pe_exfK (K := K) rfl (pv 3)))) (pe_lc (own := [("_law_one", 3)]) (g := gName 3) (tt := tYes) rfl nd (pi_listX (K := K) rfl (pe_slice sl_list (pv 1) (po_some pe_int) (po_some pe_int))) (blkOk_by (N := nSecond84) (sc := defScope sSecond84) (by decide +kernel)) (fun _ _ _ _ _ => pg_name (i := 3) nd rfl (Or.inl rfl)) (fun _ _ _ _ _ => pts_nil) (fun _ _ _ _ _ => pe_exfK (K := K) rfl (pv 3)))))
      (pss_one (ps_ret (pe_lst (pa_cons (pv 1) (pa_cons (pe_op op_cat (pv 2) (pe_lc (own := [("_law_one", 3)]) (g := gName 3) (tt := tYes) rfl nd (pi_listX (K := K) rfl (pe_slice sl_list (pv 1) (po_some pe_int) po_none)) (blkOk_by (N := nSecond84) (sc := defScope sSecond84) (by decide +kernel)) (fun _ _ _ _ _ => pg_name (i := 3) nd rfl (Or.inl rfl)) (fun _ _ _ _ _ => pts_nil) (fun _ _ _ _ _ => pe_exfK (K := K) rfl (pv 3)))) pa_nil)))))))))), ?_⟩
    refine ⟨v, rfl, fun H1 xs1 s1 p1 => ⟨by rw [Paired.length p1]; show 4 ≤ sizeLine; rw [sizeLine_eq]; omega, fun M1 nM1 => ?_⟩⟩
    have t1 := same_new (o := .lst xs1) nM1
    have p1 := xths_same t1 p1
    have hM1 : upd H1 M1 (.lst xs1) M1 = some (.lst xs1) := upd_same
    have s1 := s1.trans t1
    generalize upd H1 M1 (.lst xs1) = G1 at p1 hM1 s1
    have l1 : xs1.length = 4 := Paired.length p1
    clear t1 nM1
    refine ⟨_, rfl, v, rfl, fun H2 ys2 u2 q2 => ⟨by rw [Paired.length q2]; show 4 ≤ sizeLine; rw [sizeLine_eq]; omega, fun Y2 nY2 => ?_⟩⟩
    have t2 := same_new (o := .lst ys2) nY2
    have k2 : ys2.length = 4 := Paired.length q2
    refine ⟨M1, Y2, xs1, ys2, rfl, rfl, t2 _ _ (u2 _ _ hM1), upd_same, by rw [l1, k2, sizeLine_eq]; omega, fun M2 nM2 => ?_⟩
    have w2 := same_new (o := .lst (xs1 ++ ys2)) nM2
    have p2 := paired_append (xths_same ((u2.trans t2).trans w2) p1) (xths_same (t2.trans w2) q2)
    have hM2 : upd (upd H2 Y2 (.lst ys2)) M2 (.lst (xs1 ++ ys2)) M2 = some (.lst (xs1 ++ ys2)) := upd_same
    have s2 := s1.trans ((u2.trans t2).trans w2)
    generalize upd (upd H2 Y2 (.lst ys2)) M2 (.lst (xs1 ++ ys2)) = G2 at p2 hM2 s2
    have l2 : (xs1 ++ ys2).length = 8 := by rw [List.length_append, l1, k2]
    generalize xs1 ++ ys2 = xs2 at p2 hM2 l2
    clear p1 hM1 w2 t2 u2 q2
    refine ⟨_, rfl, v, rfl, fun H3 ys3 u3 q3 => ⟨by rw [Paired.length q3]; show 4 ≤ sizeLine; rw [sizeLine_eq]; omega, fun Y3 nY3 => ?_⟩⟩
    have t3 := same_new (o := .lst ys3) nY3
    have k3 : ys3.length = 4 := Paired.length q3
    refine ⟨M2, Y3, xs2, ys3, rfl, rfl, t3 _ _ (u3 _ _ hM2), upd_same, by rw [l2, k3, sizeLine_eq]; omega, fun M3 nM3 => ?_⟩
    have w3 := same_new (o := .lst (xs2 ++ ys3)) nM3
    have p3 := paired_append (xths_same ((u3.trans t3).trans w3) p2) (xths_same (t3.trans w3) q3)
    have hM3 : upd (upd H3 Y3 (.lst ys3)) M3 (.lst (xs2 ++ ys3)) M3 = some (.lst (xs2 ++ ys3)) := upd_same
    have s3 := s2.trans ((u3.trans t3).trans w3)
    generalize upd (upd H3 Y3 (.lst ys3)) M3 (.lst (xs2 ++ ys3)) = G3 at p3 hM3 s3
    have l3 : (xs2 ++ ys3).length = 12 := by rw [List.length_append, l2, k3]
    generalize xs2 ++ ys3 = xs3 at p3 hM3 l3
    clear p2 hM2 w3 t3 u3 q3
    refine ⟨_, rfl, v, rfl, fun H4 ys4 u4 q4 => ⟨by rw [Paired.length q4]; show 2 ≤ sizeLine; rw [sizeLine_eq]; omega, fun Y4 nY4 => ?_⟩⟩
    have t4 := same_new (o := .lst ys4) nY4
    have k4 : ys4.length = 2 := Paired.length q4
    refine ⟨M3, Y4, xs3, ys4, rfl, rfl, t4 _ _ (u4 _ _ hM3), upd_same, by rw [l3, k4, sizeLine_eq]; omega, fun M4 nM4 => ?_⟩
    have w4 := same_new (o := .lst (xs3 ++ ys4)) nM4
    have p4 := paired_append (xths_same ((u4.trans t4).trans w4) p3) (xths_same (t4.trans w4) q4)
    have hM4 : upd (upd H4 Y4 (.lst ys4)) M4 (.lst (xs3 ++ ys4)) M4 = some (.lst (xs3 ++ ys4)) := upd_same
    have s4 := s3.trans ((u4.trans t4).trans w4)
    generalize upd (upd H4 Y4 (.lst ys4)) M4 (.lst (xs3 ++ ys4)) = G4 at p4 hM4 s4
    have l4 : (xs3 ++ ys4).length = 14 := by rw [List.length_append, l3, k4]
    generalize xs3 ++ ys4 = xs4 at p4 hM4 l4
    clear p3 hM3 w4 t4 u4 q4
    have pp : Paired (XTh cs v G4) xs4 idsSecond := p4
    clear p4
    try dsimp only [gName, tSeq, tAsg, tOp, tRet, tLst, tCons]
    refine attr_line (K := K) (cs := cs) (v := v) (f := "index") (ids := idsSecond.take 6) (fun R hR => ⟨_, rfl, _, rfl, M4, xs4, rfl, SqL.of hM4, fun p np => hR _ p (same_new np) (by rw [upd_same]; exact congrArg (fun z => some (HO.lst z)) (cutV_to (j := 6) (by omega)))⟩) (paired_takeX 6 pp) (fun i hi => ?_) (by show 3 < 4; decide) (by simp only [List.length_take, List.length_drop]; omega) (fun D1 K1 z1 e1 => ?_)
    · have h0 : atN i = some "index" := (by decide : ∀ i ∈ idsSecond.take 6, atN i = some "index") i hi
      exact ⟨h0, J.ok h0⟩
    have pp1 := xths_same z1 pp
    have hN1 := z1 _ _ hM4
    have ss1 := s4.trans z1
    have hS1 : K1 D1 = some (.lst (List.replicate 6 v)) := e1
    try dsimp only [gName, tSeq, tAsg, tOp, tRet, tLst, tCons]
    refine attr_line (K := K) (cs := cs) (v := v) (f := "cell") (ids := (idsSecond.take 8).drop 6) (fun R hR => ⟨_, rfl, _, rfl, _, rfl, M4, xs4, rfl, SqL.of hN1, fun p np => hR _ p (same_new np) (by rw [upd_same]; exact congrArg (fun z => some (HO.lst z)) (cutV_nat (i := 6) (j := 8) (by omega) (by omega)))⟩) (paired_dropX 6 (paired_takeX 8 pp1)) (fun i hi => ?_) (by show 3 < 4; decide) (by simp only [List.length_take, List.length_drop]; omega) (fun D2 K2 z2 e2 => ?_)
    · have h0 : atN i = some "cell" := (by decide : ∀ i ∈ (idsSecond.take 8).drop 6, atN i = some "cell") i hi
      exact ⟨h0, J.ok h0⟩
    have pp2 := xths_same z2 pp1
    have hN2 := z2 _ _ hN1
    have ss2 := ss1.trans z2
    have hS2 := z2 _ _ hS1
    refine ⟨D1, D2, _, _, rfl, rfl, hS2, e2, by simp only [List.length_replicate, List.length_take, List.length_drop]; rw [sizeLine_eq]; decide, fun E2 nE2 => ?_⟩
    have hT2 : upd K2 E2 (.lst (List.replicate 6 v ++ List.replicate ((idsSecond.take 8).drop 6).length v)) E2 = some (.lst (List.replicate 8 v)) := upd_same
    have y2 := same_new (o := .lst (List.replicate 6 v ++ List.replicate ((idsSecond.take 8).drop 6).length v)) nE2
    have pq2 := xths_same y2 pp2
    have hO2 := y2 _ _ hN2
    have sy2 := ss2.trans y2
    generalize upd K2 E2 (.lst (List.replicate 6 v ++ List.replicate ((idsSecond.take 8).drop 6).length v)) = W2 at hT2 pq2 hO2 sy2
    refine ⟨_, rfl, ?_⟩
    try dsimp only [gName, tSeq, tAsg, tOp, tRet, tLst, tCons]
    refine attr_line (K := K) (cs := cs) (v := v) (f := "value") (ids := (idsSecond.take 10).drop 8) (fun R hR => ⟨_, rfl, _, rfl, _, rfl, M4, xs4, rfl, SqL.of hO2, fun p np => hR _ p (same_new np) (by rw [upd_same]; exact congrArg (fun z => some (HO.lst z)) (cutV_nat (i := 8) (j := 10) (by omega) (by omega)))⟩) (paired_dropX 8 (paired_takeX 10 pq2)) (fun i hi => ?_) (by show 3 < 4; decide) (by simp only [List.length_take, List.length_drop]; omega) (fun D3 K3 z3 e3 => ?_)
    · have h0 : atN i = some "value" := (by decide : ∀ i ∈ (idsSecond.take 10).drop 8, atN i = some "value") i hi
      exact ⟨h0, J.ok h0⟩
    have pp3 := xths_same z3 pq2
    have hN3 := z3 _ _ hO2
    have ss3 := sy2.trans z3
    have hS3 := z3 _ _ hT2
    refine ⟨E2, D3, _, _, rfl, rfl, hS3, e3, by simp only [List.length_replicate, List.length_take, List.length_drop]; rw [sizeLine_eq]; decide, fun E3 nE3 => ?_⟩
    have hT3 : upd K3 E3 (.lst (List.replicate 8 v ++ List.replicate ((idsSecond.take 10).drop 8).length v)) E3 = some (.lst (List.replicate 10 v)) := upd_same
    have y3 := same_new (o := .lst (List.replicate 8 v ++ List.replicate ((idsSecond.take 10).drop 8).length v)) nE3
    have pq3 := xths_same y3 pp3
    have hO3 := y3 _ _ hN3
    have sy3 := ss3.trans y3
    generalize upd K3 E3 (.lst (List.replicate 8 v ++ List.replicate ((idsSecond.take 10).drop 8).length v)) = W3 at hT3 pq3 hO3 sy3
    try dsimp only [gName, tSeq, tAsg, tOp, tRet, tLst, tCons]
    refine attr_line (K := K) (cs := cs) (v := v) (f := "index") (ids := (idsSecond.take 12).drop 10) (fun R hR => ⟨_, rfl, _, rfl, _, rfl, M4, xs4, rfl, SqL.of hO3, fun p np => hR _ p (same_new np) (by rw [upd_same]; exact congrArg (fun z => some (HO.lst z)) (cutV_nat (i := 10) (j := 12) (by omega) (by omega)))⟩) (paired_dropX 10 (paired_takeX 12 pq3)) (fun i hi => ?_) (by show 3 < 4; decide) (by simp only [List.length_take, List.length_drop]; omega) (fun D4 K4 z4 e4 => ?_)
    · have h0 : atN i = some "index" := (by decide : ∀ i ∈ (idsSecond.take 12).drop 10, atN i = some "index") i hi
      exact ⟨h0, J.ok h0⟩
    have pp4 := xths_same z4 pq3
    have hN4 := z4 _ _ hO3
    have ss4 := sy3.trans z4
    have hS4 := z4 _ _ hT3
    refine ⟨E3, D4, _, _, rfl, rfl, hS4, e4, by simp only [List.length_replicate, List.length_take, List.length_drop]; rw [sizeLine_eq]; decide, fun E4 nE4 => ?_⟩
    have hT4 : upd K4 E4 (.lst (List.replicate 10 v ++ List.replicate ((idsSecond.take 12).drop 10).length v)) E4 = some (.lst (List.replicate 12 v)) := upd_same
    have y4 := same_new (o := .lst (List.replicate 10 v ++ List.replicate ((idsSecond.take 12).drop 10).length v)) nE4
    have pq4 := xths_same y4 pp4
    have hO4 := y4 _ _ hN4
    have sy4 := ss4.trans y4
    generalize upd K4 E4 (.lst (List.replicate 10 v ++ List.replicate ((idsSecond.take 12).drop 10).length v)) = W4 at hT4 pq4 hO4 sy4
    refine ⟨_, rfl, _, rfl, ?_⟩
    try dsimp only [gName, tSeq, tAsg, tOp, tRet, tLst, tCons]
    refine attr_line (K := K) (cs := cs) (v := v) (f := "line") (ids := idsSecond.drop 12) (fun R hR => ⟨_, rfl, _, rfl, M4, xs4, rfl, SqL.of hO4, fun p np => hR _ p (same_new np) (by rw [upd_same]; exact congrArg (fun z => some (HO.lst z)) (cutV_from (i := 12) (by omega)))⟩) (paired_dropX 12 pq4) (fun i hi => ?_) (by show 3 < 4; decide) (by simp only [List.length_take, List.length_drop]; omega) (fun D5 K5 z5 e5 => ?_)
    · have h0 : atN i = some "line" := (by decide : ∀ i ∈ idsSecond.drop 12, atN i = some "line") i hi
      exact ⟨h0, J.ok h0⟩
    have pp5 := xths_same z5 pq4
    have hN5 := z5 _ _ hO4
    have ss5 := sy4.trans z5
    have hS5 := z5 _ _ hT4
    refine ⟨E4, D5, _, _, rfl, rfl, hS5, e5, by simp only [List.length_replicate, List.length_take, List.length_drop]; rw [sizeLine_eq]; decide, fun E5 nE5 => ?_⟩
    have hT5 : upd K5 E5 (.lst (List.replicate 12 v ++ List.replicate (idsSecond.drop 12).length v)) E5 = some (.lst (List.replicate 14 v)) := upd_same
    have y5 := same_new (o := .lst (List.replicate 12 v ++ List.replicate (idsSecond.drop 12).length v)) nE5
    have pq5 := xths_same y5 pp5
    have hO5 := y5 _ _ hN5
    have sy5 := ss5.trans y5
    generalize upd K5 E5 (.lst (List.replicate 12 v ++ List.replicate (idsSecond.drop 12).length v)) = W5 at hT5 pq5 hO5 sy5
    refine ⟨by show 2 ≤ sizeLine; decide, fun R nR => ?_⟩
    have yR := same_new (o := .lst [.ref M4, .ref E5]) nR
    exact q _ R M4 E5 xs4 (sy5.trans yR) upd_same (yR _ _ hO5) (xths_same yR pq5) (yR _ _ hT5)
end
def idsThird : List Nat := [15, 15, 17, 17, 19, 19, 20, 20]
abbrev sThird84 : Stmt := topS 39
abbrev nThird84 : List Str := ["_law_thing", "_law_made", "_law_shown", "_law_one"]
theorem scThird84 : FnScope nThird84 ["_law_thing"] (defScope sThird84) := ⟨rfl, rfl, rfl, by decide +kernel, rfl, by decide +kernel, by decide +kernel⟩
section
variable {P : Program} {w : World} {K : PySem.W.Frag} {mg : Str → Option Value} {base : Heap}
theorem ok_third84 {f : Addr} {fd : FuncData} {cs : Nat → Addr} (F : Fun K "_law_third" "_law_third" sThird84 f fd) (J : XCls P w K mg base cs) : FnOk P w K mg base CX0 3 f fd ["_law_thing"] (spMade cs idsThird) := by
  refine F.ok scThird84 (fun vs H Q E h => ?_) (fun cdv A outer s H vs Q E hr h => ?_)
  · obtain ⟨v, rfl, _⟩ := h
    rfl
  · obtain ⟨v, rfl, q⟩ := h
    have nd := scThird84.nd
    refine ⟨_, pss_cons (ps_set (i := 1) nd rfl (.inl rfl) (pe_lst (mks_cons J.x15 hr (by rfl) rfl (pv 0) (mks_consK J.x15 hr (by rfl) rfl (pv 0) (mks_cons J.x17 hr (by rfl) rfl (pv 0) (mks_consK J.x17 hr (by rfl) rfl (pv 0) mks_nil))))))
      (pss_cons (ps_set (i := 1) nd rfl (.inl rfl) (pe_op op_cat (pv 1) (pe_lst (mks_cons J.x19 hr (by rfl) rfl (pv 0) (mks_consK J.x19 hr (by rfl) rfl (pv 0) (mks_cons J.x20 hr (by rfl) rfl (pv 0) (mks_consK J.x20 hr (by rfl) rfl (pv 0) mks_nil)))))))
      (pss_cons (ps_set (i := 2) nd rfl (.inl rfl) (pe_op op_cat (pe_lc (own := [("_law_one", 3)]) (g := gName 3) (tt := tYes) rfl nd (pi_listX (K := K) rfl (pe_slice sl_list (pv 1) po_none (po_some pe_int))) (blkOk_by (N := nThird84) (sc := defScope sThird84) (by decide +kernel)) (fun _ _ _ _ _ => pg_name (i := 3) nd rfl (Or.inl rfl)) (fun _ _ _ _ _ => pts_nil) (fun _ _ _ _ _ => pe_exfK (K := K) rfl (pv 3))) (pe_lc (own := [("_law_one", 3)]) (g := gName 3) (tt := tYes) rfl nd (pi_listX (K := K) rfl (pe_slice sl_list (pv 1) (po_some pe_int) (po_some pe_int))) (blkOk_by (N := nThird84) (sc := defScope sThird84) (by decide +kernel)) (fun _ _ _ _ _ => pg_name (i := 3) nd rfl (Or.inl rfl)) (fun _ _ _ _ _ => pts_nil) (fun _ _ _ _ _ => pe_exfK (K := K) rfl (pv 3)))))
      (pss_one (ps_ret (pe_lst (pa_cons (pv 1) (pa_cons (pe_op op_cat (pv 2) (pe_lc (own := [("_law_one", 3)]) (g := gName 3) (tt := tYes) rfl nd (pi_listX (K := K) rfl (pe_slice sl_list (pv 1) (po_some pe_int) po_none)) (blkOk_by (N := nThird84) (sc := defScope sThird84) (by decide +kernel)) (fun _ _ _ _ _ => pg_name (i := 3) nd rfl (Or.inl rfl)) (fun _ _ _ _ _ => pts_nil) (fun _ _ _ _ _ => pe_exfK (K := K) rfl (pv 3)))) pa_nil))))))), ?_⟩
    refine ⟨v, rfl, fun H1 xs1 s1 p1 => ⟨by rw [Paired.length p1]; show 4 ≤ sizeLine; rw [sizeLine_eq]; omega, fun M1 nM1 => ?_⟩⟩
    have t1 := same_new (o := .lst xs1) nM1
    have p1 := xths_same t1 p1
    have hM1 : upd H1 M1 (.lst xs1) M1 = some (.lst xs1) := upd_same
    have s1 := s1.trans t1
    generalize upd H1 M1 (.lst xs1) = G1 at p1 hM1 s1
    have l1 : xs1.length = 4 := Paired.length p1
    clear t1 nM1
    refine ⟨_, rfl, v, rfl, fun H2 ys2 u2 q2 => ⟨by rw [Paired.length q2]; show 4 ≤ sizeLine; rw [sizeLine_eq]; omega, fun Y2 nY2 => ?_⟩⟩
    have t2 := same_new (o := .lst ys2) nY2
    have k2 : ys2.length = 4 := Paired.length q2
    refine ⟨M1, Y2, xs1, ys2, rfl, rfl, t2 _ _ (u2 _ _ hM1), upd_same, by rw [l1, k2, sizeLine_eq]; omega, fun M2 nM2 => ?_⟩
    have w2 := same_new (o := .lst (xs1 ++ ys2)) nM2
    have p2 := paired_append (xths_same ((u2.trans t2).trans w2) p1) (xths_same (t2.trans w2) q2)
    have hM2 : upd (upd H2 Y2 (.lst ys2)) M2 (.lst (xs1 ++ ys2)) M2 = some (.lst (xs1 ++ ys2)) := upd_same
    have s2 := s1.trans ((u2.trans t2).trans w2)
    generalize upd (upd H2 Y2 (.lst ys2)) M2 (.lst (xs1 ++ ys2)) = G2 at p2 hM2 s2
    have l2 : (xs1 ++ ys2).length = 8 := by rw [List.length_append, l1, k2]
    generalize xs1 ++ ys2 = xs2 at p2 hM2 l2
    clear p1 hM1 w2 t2 u2 q2
    have pp : Paired (XTh cs v G2) xs2 idsThird := p2
    clear p2
    try dsimp only [gName, tSeq, tAsg, tOp, tRet, tLst, tCons]
    refine attr_line (K := K) (cs := cs) (v := v) (f := "name") (ids := idsThird.take 2) (fun R hR => ⟨_, rfl, _, rfl, M2, xs2, rfl, SqL.of hM2, fun p np => hR _ p (same_new np) (by rw [upd_same]; exact congrArg (fun z => some (HO.lst z)) (cutV_to (j := 2) (by omega)))⟩) (paired_takeX 2 pp) (fun i hi => ?_) (by show 3 < 4; decide) (by simp only [List.length_take, List.length_drop]; omega) (fun D1 K1 z1 e1 => ?_)
    · have h0 : atN i = some "name" := (by decide : ∀ i ∈ idsThird.take 2, atN i = some "name") i hi
      exact ⟨h0, J.ok h0⟩
    have pp1 := xths_same z1 pp
    have hN1 := z1 _ _ hM2
    have ss1 := s2.trans z1
    have hS1 : K1 D1 = some (.lst (List.replicate 2 v)) := e1
    try dsimp only [gName, tSeq, tAsg, tOp, tRet, tLst, tCons]
    refine attr_line (K := K) (cs := cs) (v := v) (f := "value") (ids := (idsThird.take 4).drop 2) (fun R hR => ⟨_, rfl, _, rfl, _, rfl, M2, xs2, rfl, SqL.of hN1, fun p np => hR _ p (same_new np) (by rw [upd_same]; exact congrArg (fun z => some (HO.lst z)) (cutV_nat (i := 2) (j := 4) (by omega) (by omega)))⟩) (paired_dropX 2 (paired_takeX 4 pp1)) (fun i hi => ?_) (by show 3 < 4; decide) (by simp only [List.length_take, List.length_drop]; omega) (fun D2 K2 z2 e2 => ?_)
    · have h0 : atN i = some "value" := (by decide : ∀ i ∈ (idsThird.take 4).drop 2, atN i = some "value") i hi
      exact ⟨h0, J.ok h0⟩
    have pp2 := xths_same z2 pp1
    have hN2 := z2 _ _ hN1
    have ss2 := ss1.trans z2
    have hS2 := z2 _ _ hS1
    refine ⟨D1, D2, _, _, rfl, rfl, hS2, e2, by simp only [List.length_replicate, List.length_take, List.length_drop]; rw [sizeLine_eq]; decide, fun E2 nE2 => ?_⟩
    have hT2 : upd K2 E2 (.lst (List.replicate 2 v ++ List.replicate ((idsThird.take 4).drop 2).length v)) E2 = some (.lst (List.replicate 4 v)) := upd_same
    have y2 := same_new (o := .lst (List.replicate 2 v ++ List.replicate ((idsThird.take 4).drop 2).length v)) nE2
    have pq2 := xths_same y2 pp2
    have hO2 := y2 _ _ hN2
    have sy2 := ss2.trans y2
    generalize upd K2 E2 (.lst (List.replicate 2 v ++ List.replicate ((idsThird.take 4).drop 2).length v)) = W2 at hT2 pq2 hO2 sy2
    refine ⟨_, rfl, _, rfl, ?_⟩
    try dsimp only [gName, tSeq, tAsg, tOp, tRet, tLst, tCons]
    refine attr_line (K := K) (cs := cs) (v := v) (f := "count") (ids := idsThird.drop 4) (fun R hR => ⟨_, rfl, _, rfl, M2, xs2, rfl, SqL.of hO2, fun p np => hR _ p (same_new np) (by rw [upd_same]; exact congrArg (fun z => some (HO.lst z)) (cutV_from (i := 4) (by omega)))⟩) (paired_dropX 4 pq2) (fun i hi => ?_) (by show 3 < 4; decide) (by simp only [List.length_take, List.length_drop]; omega) (fun D3 K3 z3 e3 => ?_)
    · have h0 : atN i = some "count" := (by decide : ∀ i ∈ idsThird.drop 4, atN i = some "count") i hi
      exact ⟨h0, J.ok h0⟩
    have pp3 := xths_same z3 pq2
    have hN3 := z3 _ _ hO2
    have ss3 := sy2.trans z3
    have hS3 := z3 _ _ hT2
    refine ⟨E2, D3, _, _, rfl, rfl, hS3, e3, by simp only [List.length_replicate, List.length_take, List.length_drop]; rw [sizeLine_eq]; decide, fun E3 nE3 => ?_⟩
    have hT3 : upd K3 E3 (.lst (List.replicate 4 v ++ List.replicate (idsThird.drop 4).length v)) E3 = some (.lst (List.replicate 8 v)) := upd_same
    have y3 := same_new (o := .lst (List.replicate 4 v ++ List.replicate (idsThird.drop 4).length v)) nE3
    have pq3 := xths_same y3 pp3
    have hO3 := y3 _ _ hN3
    have sy3 := ss3.trans y3
    generalize upd K3 E3 (.lst (List.replicate 4 v ++ List.replicate (idsThird.drop 4).length v)) = W3 at hT3 pq3 hO3 sy3
    refine ⟨by show 2 ≤ sizeLine; decide, fun R nR => ?_⟩
    have yR := same_new (o := .lst [.ref M2, .ref E3]) nR
    exact q _ R M2 E3 xs2 (sy3.trans yR) upd_same (yR _ _ hO3) (xths_same yR pq3) (yR _ _ hT3)
end
end KS
namespace KS
open PySem PySem.Spec PyProof.Rows L2
structure Kinds84 (K : PySem.W.Frag) (cs : Nat → Addr) : Prop where
  n0 : ∀ i, i < 21 → PySem.W.kitOne K (.ref (cs i)) (.type "KeyError") = some false
  n1 : ∀ i, i < 21 → PySem.W.kitOne K (.ref (cs i)) (.type "IndexError") = some false
  n2 : ∀ i, i < 21 → PySem.W.kitOne K (.ref (cs i)) (.type "OverflowError") = some false
  n3 : ∀ i, i < 21 → PySem.W.kitOne K (.ref (cs i)) (.type "ZeroDivisionError") = some false
def XW (cs : Nat → Addr) (H : Hp) (x : V) (i : Nat) : Prop := i < 21 ∧ ∃ a fs, x = .ref a ∧ ExAt H a (cs i) fs
theorem XW.same {cs : Nat → Addr} {H H' : Hp} (s : Same H H') {x : V} {i : Nat} (h : XW cs H x i) : XW cs H' x i := by
  obtain ⟨l, a, fs, e, h⟩ := h
  exact ⟨l, a, fs, e, h.same s⟩
theorem atN_lt : ∀ {i : Nat} {f : Str}, atN i = some f → i < 21
  | i, f, h => by
    by_cases c : i < 21
    · exact c
    · obtain ⟨k, rfl⟩ : ∃ k, i = k + 21 := ⟨i - 21, by omega⟩
      cases h
theorem XTh.xw {cs : Nat → Addr} {v : V} {H : Hp} {x : V} {i : Nat} (h : XTh cs v H x i) : XW cs H x i := by
  obtain ⟨a, f, e, hf, h⟩ := h
  exact ⟨atN_lt hf, a, _, e, h⟩
theorem XCls.ec {P : Program} {w : World} {K : PySem.W.Frag} {mg : Str → Option Value} {base : Heap} {cs : Nat → Addr} (J : XCls P w K mg base cs) : ∀ i, i < 21 → ExcC K (cs i)
  | 0, _ => J.x0.ec
  | 1, _ => J.x1.ec
  | 2, _ => J.x2.ec
  | 3, _ => J.x3.ec
  | 4, _ => J.x4.ec
  | 5, _ => J.x5.ec
  | 6, _ => J.x6.ec
  | 7, _ => J.x7.ec
  | 8, _ => J.x8.ec
  | 9, _ => J.x9.ec
  | 10, _ => J.x10.ec
  | 11, _ => J.x11.ec
  | 12, _ => J.x12.ec
  | 13, _ => J.x13.ec
  | 14, _ => J.x14.ec
  | 15, _ => J.x15.ec
  | 16, _ => J.x16.ec
  | 17, _ => J.x17.ec
  | 18, _ => J.x18.ec
  | 19, _ => J.x19.ec
  | 20, _ => J.x20.ec
  | n + 21, h => absurd h (by omega)
def idsW : List Nat := idsFirst ++ idsSecond ++ idsThird ++ [14, 16, 18]
def due84 : List Int := [0, 0, 1, 1, 2, 2, 3, 3, 4, 4, 5, 5, 6, 6, 7, 7, 8, 8, 9, 9, 10, 10, 11, 11, 12, 12, 13, 13, 15, 15, 17, 17, 19, 19, 20, 20]
def ats84 : List Int := [0, 1, 2, 3, 4, 5, 6, 7, 8, 9, 10, 11, 12, 13, 15, 17, 19, 20]
theorem due_step : ∀ j, j < 18 → due84.take (2 * (j + 1)) = due84.take (2 * j) ++ [ats84.getD j 0, ats84.getD j 0] := by decide
abbrev sRight : Stmt := topS 40
abbrev nR84 : List Str := ["_law_pool_here", "_law_things", "_law_thing", "_law_first_here", "_law_second_here", "_law_third_here", "_law_made", "_law_shown", "_law_whole", "_law_due", "_law_at", "_law_one"]
theorem scR84 : FnScope nR84 ["_law_pool_here"] (defScope sRight) := ⟨rfl, rfl, rfl, by decide +kernel, rfl, by decide +kernel, by decide +kernel⟩
section
variable {P : Program} {w : World} {K : PySem.W.Frag} {mg : Str → Option Value} {base : Heap}
theorem ok_right84 {f fD fF fS fT fK : Addr} {fd fdD fdF fdS fdT fdK : FuncData} {cs : Nat → Addr} (F : Fun K "_law_right" "_law_right" sRight f fd)
    (GD : FnOk P w K mg base CX0 1 fD fdD ["_law_pool_here", "_law_most"] spDraw) (bD : Binds K fdD ["_law_pool_here", "_law_most"] []) (gD : mg "_law_draw" = some (.ref fD)) (kD : PySem.W.keepIn K (.ref fD) = true)
    (GF : FnOk P w K mg base CX0 3 fF fdF ["_law_thing"] (spMade cs idsFirst)) (bF : Binds K fdF ["_law_thing"] []) (gF : mg "_law_first" = some (.ref fF)) (kF : PySem.W.keepIn K (.ref fF) = true)
    (GS : FnOk P w K mg base CX0 3 fS fdS ["_law_thing"] (spMade cs idsSecond)) (bS : Binds K fdS ["_law_thing"] []) (gS : mg "_law_second" = some (.ref fS)) (kS : PySem.W.keepIn K (.ref fS) = true)
    (GT : FnOk P w K mg base CX0 3 fT fdT ["_law_thing"] (spMade cs idsThird)) (bT : Binds K fdT ["_law_thing"] []) (gT : mg "_law_third" = some (.ref fT)) (kT : PySem.W.keepIn K (.ref fT) = true)
    (GK : FnOk P w K mg base CX0 1 fK fdK ["_law_e"] (spLKind K cs)) (bK : Binds K fdK ["_law_e"] []) (gK : mg "_law_kind" = some (.ref fK)) (kK : PySem.W.keepIn K (.ref fK) = true)
    (J : XCls P w K mg base cs) (J2 : Kinds84 K cs) (mR : mg "repr" = none) (ml : mg "len" = none) (ma : mg "all" = none) (my : mg "any" = none) (mi : mg "isinstance" = none) (mL : mg "list" = none) (mr : mg "range" = none)
    (e0 : mg "KeyError" = none) (e1 : mg "IndexError" = none) (e2 : mg "OverflowError" = none) (e3 : mg "ZeroDivisionError" = none) : FnG P w K mg base 4 f fd ["_law_pool_here"] spRight := by
  refine okG F scR84 (fun vs H Q E h => ?_) (fun cdv A outer s H vs Q E hr hgd h => ?_)
  · obtain ⟨p, rfl, _⟩ := h
    rfl
  · obtain ⟨p, rfl, po, q⟩ := h
    have nd := scR84.nd
    have hr1 : Room 1 _ := hr.mono (by omega)
    have hr2 : Room 2 _ := hr.mono (by omega)
    have hu : (A.deeper (envOfC "_law_right" (defScope sRight) s.heap.objs.size f cdv)).units + 100 < cLine := by
      have := hr.un
      omega
    refine ⟨_, pss_cons (ps_set (i := 1) nd rfl (.inl rfl) (pe_lst (pa_cons pe_non (pa_cons pe_int (pa_cons pe_bl (pa_cons pe_str (pa_cons (pe_tup (pa_cons pe_int (pa_cons pe_int pa_nil))) (pa_cons (pe_lst (pa_cons pe_int pa_nil)) (pa_cons pe_dnewT (pa_cons (pe_op op_pow pe_int pe_int) (pa_cons (pe_op op_sub pe_int pe_int) (pa_cons (pe_tup (pa_cons pe_str pa_nil)) pa_nil))))))))))))
      (pss_cons (ps_set (i := 2) nd rfl (.inr rfl) (pe_ix ix_list (pv 1) (pe_call GD hr1 (by rfl) gD kD bD .nil pass0 (pa_cons (pv 0) (pa_cons pe_int pa_nil))) (fun _ _ => rfl)))
      (pss_cons (ps_par (i := 3) (j := 4) (by rfl) nd rfl rfl (by decide) rfl rfl (pa_cons (pe_call GF hr (by rfl) gF kF bF .nil pass0 (pa_cons (pv 2) pa_nil)) (pa_cons (pe_call GS hr (by rfl) gS kS bS .nil pass0 (pa_cons (pv 2) pa_nil)) pa_nil)) (by rfl))
      (pss_cons (ps_set (i := 5) nd rfl (.inl rfl) (pe_call GT hr (by rfl) gT kT bT .nil pass0 (pa_cons (pv 2) pa_nil)))
      (pss_cons (ps_for PassesOwn.never rfl (pi_list (pe_lst (pa_cons (pv 3) (pa_cons (pv 4) (pa_cons (pv 5) pa_nil))))) (pg_lst (by rfl) (pgs_cons (pg_name (i := 6) nd rfl (.inl rfl)) (pgs_cons (pg_name (i := 7) nd rfl (.inl rfl)) pgs_nil)))
        (pss_cons (ps_if (pt_cmpR op_ne (pe_callB call_len_seq (by rfl) ml PySem.boot_len (pa_cons (pv 6) pa_nil)) (pe_callB call_len_seq (by rfl) ml PySem.boot_len (pa_cons (pv 7) pa_nil)) (nomark _)) (pss_one (ps_ret pe_bl)) pss_nil)
        (pss_one (ps_if (pt_not (pt_val (pe_callB (cr_all rfl) (by rfl) ma (by decide +kernel) (pa_cons
          (pe_lc (own := [("_law_one", 11)]) (g := gName 11) (tt := tYes) rfl nd (pi_list (pv 7)) (blkOk_by (N := nR84) (sc := defScope sRight) (by decide +kernel)) (fun _ _ _ _ _ => pg_name (i := 11) nd rfl (Or.inl rfl)) (fun _ _ _ _ _ => pts_nil)
            (fun _ _ _ _ _ => pe_cmpR op_eq (pe_callB (id := "repr") (r := rReprA K) (call_reprA hgd hu) (by rfl) mR (by decide +kernel) (pa_cons (pv 11) pa_nil)) (pe_callB (id := "repr") (r := rReprA K) (call_reprA hgd hu) (by rfl) mR (by decide +kernel) (pa_cons (pv 2) pa_nil)) (nomark _))) pa_nil)))) (pss_one (ps_ret pe_bl)) pss_nil))))
      (pss_cons (ps_set (i := 8) nd rfl (.inl rfl) (pe_op op_cat (pe_op op_cat (pe_op op_cat (pe_ix ix_list (pv 3) pe_int (fun _ _ => rfl)) (pe_ix ix_list (pv 4) pe_int (fun _ _ => rfl))) (pe_ix ix_list (pv 5) pe_int (fun _ _ => rfl)))
          (pe_lst (pa_cons (pe_mk0 J.x14 (by rfl)) (pa_cons (pe_mk0 J.x16 (by rfl)) (pa_cons (pe_mk0 J.x18 (by rfl)) pa_nil))))))
      (pss_cons (ps_if (pt_val (pe_callB (cr_any rfl) (by rfl) my (by decide +kernel) (pa_cons
          (pe_lc (own := [("_law_one", 11)]) (g := gName 11) (tt := tYes) rfl nd (pi_list (pv 8)) (blkOk_by (N := nR84) (sc := defScope sRight) (by decide +kernel)) (fun _ _ _ _ _ => pg_name (i := 11) nd rfl (Or.inl rfl)) (fun _ _ _ _ _ => pts_nil)
            (fun _ _ _ _ _ => pe_or (pe_callB (id := "isinstance") (r := rIsX K) call_isX (by rfl) mi (by decide +kernel) (pa_cons (pv 11) (pa_cons (pe_bltn (v := .ty "KeyError") (by rfl) e0 (by decide +kernel) rfl) pa_nil)))
              (pe_one (pe_callB (id := "isinstance") (r := rIsX K) call_isX (by rfl) mi (by decide +kernel) (pa_cons (pv 11) (pa_cons (pe_bltn (v := .ty "IndexError") (by rfl) e1 (by decide +kernel) rfl) pa_nil)))))) pa_nil))) (pss_one (ps_ret pe_bl)) pss_nil)
      (pss_cons (ps_if (pt_val (pe_callB (cr_any rfl) (by rfl) my (by decide +kernel) (pa_cons
          (pe_lc (own := [("_law_one", 11)]) (g := gName 11) (tt := tYes) rfl nd (pi_list (pv 8)) (blkOk_by (N := nR84) (sc := defScope sRight) (by decide +kernel)) (fun _ _ _ _ _ => pg_name (i := 11) nd rfl (Or.inl rfl)) (fun _ _ _ _ _ => pts_nil)
            (fun _ _ _ _ _ => pe_or (pe_callB (id := "isinstance") (r := rIsX K) call_isX (by rfl) mi (by decide +kernel) (pa_cons (pv 11) (pa_cons (pe_bltn (v := .ty "OverflowError") (by rfl) e2 (by decide +kernel) rfl) pa_nil)))
              (pe_one (pe_callB (id := "isinstance") (r := rIsX K) call_isX (by rfl) mi (by decide +kernel) (pa_cons (pv 11) (pa_cons (pe_bltn (v := .ty "ZeroDivisionError") (by rfl) e3 (by decide +kernel) rfl) pa_nil)))))) pa_nil))) (pss_one (ps_ret pe_bl)) pss_nil)
      (pss_cons (ps_set (i := 9) nd rfl (.inl rfl) (pe_lst pa_nil))
      (pss_cons (ps_for PassesOwn.never rfl (pi_list (pe_op op_cat (pe_listRg rfl (by rfl) mL (prg_1 (by rfl) mr pe_int)) (pe_lst (pa_cons pe_int (pa_cons pe_int (pa_cons pe_int (pa_cons pe_int pa_nil))))))) (pg_name (i := 10) nd rfl (.inl rfl))
        (pss_one (ps_set (i := 9) nd rfl (.inl rfl) (pe_op op_cat (pv 9) (pe_lst (pa_cons (pv 10) (pa_cons (pv 10) pa_nil)))))))
      (pss_one (ps_ret (pe_cmpR (op_eqD hr.units)
          (pe_lc (own := [("_law_one", 11)]) (g := gName 11) (tt := tYes) rfl nd (pi_list (pv 8)) (blkOk_by (N := nR84) (sc := defScope sRight) (by decide +kernel)) (fun _ _ _ _ _ => pg_name (i := 11) nd rfl (Or.inl rfl)) (fun _ _ _ _ _ => pts_nil)
            (fun _ _ _ _ _ => pe_call GK hr1 (by rfl) gK kK bK .nil pass0 (pa_cons (pv 11) pa_nil)))
          (pe_op op_cat (pv 9) (pe_lst (pa_cons pe_int (pa_cons pe_int (pa_cons pe_int pa_nil))))) (nomark _))))))))))))), ?_⟩
    refine ⟨by show 2 ≤ sizeLine; decide, fun T1 nT1 => ?_⟩
    have s1 := same_new (o := .tup [.int 1, .int 2]) nT1
    have hT1 : upd H T1 (.tup [.int 1, .int 2]) T1 = some (.tup (([1, 2] : List Int).map V.int)) := upd_same
    have po1 := po.same s1
    have nT1p : T1 ≠ p := Ne.symm (po.ne nT1)
    generalize upd H T1 (.tup [.int 1, .int 2]) = G1 at s1 hT1 po1
    refine ⟨by show 1 ≤ sizeLine; decide, fun L1 nL1 => ?_⟩
    have s2 := same_new (o := .lst [.int 3]) nL1
    have hL1 : upd G1 L1 (.lst [.int 3]) L1 = some (.lst (([3] : List Int).map V.int)) := upd_same
    have nL1p : L1 ≠ p := Ne.symm (po1.ne nL1)
    have hT1 := s2 _ _ hT1
    have po2 := po1.same s2
    have s12 := s1.trans s2
    generalize upd G1 L1 (.lst [.int 3]) = G2 at s12 hT1 hL1 po2
    clear s1 s2 po1 nL1 nT1
    refine fun D1 nD1 => ?_
    have s3 := same_new (o := .dT []) nD1
    have hD1 : upd G2 D1 (.dT []) D1 = some (.dT []) := upd_same
    have nD1p : D1 ≠ p := Ne.symm (po2.ne nD1)
    have hT1 := s3 _ _ hT1
    have hL1 := s3 _ _ hL1
    have po3 := po2.same s3
    have s13 := s12.trans s3
    generalize upd G2 D1 (.dT []) = G3 at s13 hT1 hL1 hD1 po3
    clear s12 s3 po2 nD1
    refine ⟨_, _, rfl, rfl, ⟨by omega, by omega, by decide⟩, _, _, rfl, rfl, by show 1 ≤ sizeLine; decide, fun T2 nT2 => ?_⟩
    have s4 := same_new (o := .tup [.str "R"]) nT2
    have hT2 : upd G3 T2 (.tup [.str "R"]) T2 = some (.tup [.str "R"]) := upd_same
    have nT2p : T2 ≠ p := Ne.symm (po3.ne nT2)
    have hT1 := s4 _ _ hT1
    have hL1 := s4 _ _ hL1
    have hD1 := s4 _ _ hD1
    have po4 := po3.same s4
    have s14 := s13.trans s4
    generalize upd G3 T2 (.tup [.str "R"]) = G4 at s14 hT1 hL1 hD1 hT2 po4
    clear s13 s4 po3 nT2
    refine ⟨by show 10 ≤ sizeLine; decide, fun A1 nA1 => ?_⟩
    dsimp only []
    have e30 : (10 : Int) ^ (30 : Int).toNat = 10 ^ 30 := rfl
    rw [e30]
    have s5 := same_new (o := .lst [.non, .int 0, .bl true, .str "index", .ref T1, .ref L1, .ref D1, .int (10 ^ 30), .int (0 - 5), .ref T2]) nA1
    have hA1 : upd G4 A1 (.lst [.non, .int 0, .bl true, .str "index", .ref T1, .ref L1, .ref D1, .int (10 ^ 30), .int (0 - 5), .ref T2]) A1 = some (.lst [.non, .int 0, .bl true, .str "index", .ref T1, .ref L1, .ref D1, .int (10 ^ 30), .int (0 - 5), .ref T2]) := upd_same
    have nA1p : A1 ≠ p := Ne.symm (po4.ne nA1)
    have hT1 := s5 _ _ hT1
    have hL1 := s5 _ _ hL1
    have hD1 := s5 _ _ hD1
    have hT2 := s5 _ _ hT2
    have po5 := po4.same s5
    have s15 := s14.trans s5
    generalize upd G4 A1 (.lst [.non, .int 0, .bl true, .str "index", .ref T1, .ref L1, .ref D1, .int (10 ^ 30), .int (0 - 5), .ref T2]) = G5 at s15 hT1 hL1 hD1 hT2 hA1 po5
    clear s14 s5 po4 nA1
    -- the thing
    refine ⟨_, rfl, _, rfl, p, 10, rfl, po5, by decide, by decide, fun H2 r k2 po6 r0 r1 => ?_⟩
    have hA1 := k2 _ _ nA1p hA1
    have hT1 := k2 _ _ nT1p hT1
    have hL1 := k2 _ _ nL1p hL1
    have hD1 := k2 _ _ nD1p hD1
    have hT2 := k2 _ _ nT2p hT2
    have kx0 := (KeepX.of_same (p := p) s15).trans k2
    obtain ⟨v, x, hv, hrep⟩ : ∃ v x, atI [V.non, .int 0, .bl true, .str "index", .ref T1, .ref L1, .ref D1, .int (10 ^ 30), .int (0 - 5), .ref T2] r = some v ∧ Rep K H2 v x := by
      have : r = 0 ∨ r = 1 ∨ r = 2 ∨ r = 3 ∨ r = 4 ∨ r = 5 ∨ r = 6 ∨ r = 7 ∨ r = 8 ∨ r = 9 := by omega
      rcases this with z | z | z | z | z | z | z | z | z | z <;> subst z
      · exact ⟨_, _, rfl, .non⟩
      · exact ⟨_, _, rfl, .int 0 (by decide)⟩
      · exact ⟨_, _, rfl, .bl true⟩
      · exact ⟨_, _, rfl, .str "index" (by decide +kernel)⟩
      · exact ⟨_, _, rfl, .ref (.tup (SqT.of hT1) (dp_ints [1, 2])) (by decide +kernel) (by decide +kernel) (by decide +kernel) (by decide +kernel)⟩
      · exact ⟨_, _, rfl, .ref (.lst (SqL.of hL1) (dp_ints [3])) (by decide +kernel) (by decide +kernel) (by decide +kernel) (by decide +kernel)⟩
      · exact ⟨_, _, rfl, .dict hD1⟩
      · exact ⟨_, _, rfl, .int _ (by decide +kernel)⟩
      · exact ⟨_, _, rfl, .int _ (by decide +kernel)⟩
      · exact ⟨_, _, rfl, .ref (.tup (SqT.of hT2) (.cons (.str "R") .nil)) (by decide +kernel) (by decide +kernel) (by decide +kernel) (by decide +kernel)⟩
    refine ⟨A1, _, r, v, rfl, rfl, SqL.of hA1, hv, ?_⟩
    clear hA1 hT1 hL1 hD1 hT2 hv k2 po5 s15
    -- the errors
    refine ⟨_, rfl, v, rfl, fun H3 R1 M1 S1 xs1 u1 hR1 hM1 hx1 hS1 => ?_⟩
    refine ⟨_, rfl, v, rfl, fun H4 R2 M2 S2 xs2 u2 hR2 hM2 hx2 hS2 => ?_⟩
    refine ⟨_, _, rfl, ?_⟩
    refine ⟨_, rfl, v, rfl, fun H5 R3 M3 S3 xs3 u3 hR3 hM3 hx3 hS3 => ?_⟩
    have u23 := u2.trans u3
    have hR1 := u23 _ _ hR1
    have hM1 := u23 _ _ hM1
    have hS1 := u23 _ _ hS1
    have hx1 := xths_same u23 hx1
    have hR2 := u3 _ _ hR2
    have hM2 := u3 _ _ hM2
    have hS2 := u3 _ _ hS2
    have hx2 := xths_same u3 hx2
    have hrep := hrep.same (u1.trans u23)
    have kx1 := kx0.trans (.of_same (u1.trans u23))
    have l1 := Paired.length hx1
    have l2 := Paired.length hx2
    have l3 := Paired.length hx3
    clear u1 u2 u3 u23 kx0 po6
    refine ⟨_, rfl, _, rfl, _, rfl, by show 3 ≤ sizeLine; decide, fun Z nZ => ?_⟩
    have sZ := same_new (o := .lst [.ref R1, .ref R2, .ref R3]) nZ
    have hZ : upd H5 Z (.lst [.ref R1, .ref R2, .ref R3]) Z = some (.lst [.ref R1, .ref R2, .ref R3]) := upd_same
    have each : ∀ y ∈ [V.ref R1, V.ref R2, V.ref R3], ∃ (R M S : Addr) (xs : List V) (n : Nat), y = .ref R ∧ upd H5 Z (.lst [.ref R1, .ref R2, .ref R3]) R = some (.lst [.ref M, .ref S]) ∧ upd H5 Z (.lst [.ref R1, .ref R2, .ref R3]) M = some (.lst xs) ∧ xs.length = n ∧ n ≤ 60 ∧
        upd H5 Z (.lst [.ref R1, .ref R2, .ref R3]) S = some (.lst (List.replicate n v)) := by
      intro y hy
      rcases (by simpa using hy : y = .ref R1 ∨ y = .ref R2 ∨ y = .ref R3) with z | z | z <;> subst z
      · exact ⟨R1, M1, S1, xs1, _, rfl, sZ _ _ hR1, sZ _ _ hM1, l1, by decide, sZ _ _ hS1⟩
      · exact ⟨R2, M2, S2, xs2, _, rfl, sZ _ _ hR2, sZ _ _ hM2, l2, by decide, sZ _ _ hS2⟩
      · exact ⟨R3, M3, S3, xs3, _, rfl, sZ _ _ hR3, sZ _ _ hM3, l3, by decide, sZ _ _ hS3⟩
    have hR1 := sZ _ _ hR1
    have hM1 := sZ _ _ hM1
    have hx1 := xths_same sZ hx1
    have hR2 := sZ _ _ hR2
    have hM2 := sZ _ _ hM2
    have hx2 := xths_same sZ hx2
    have hR3 := sZ _ _ hR3
    have hM3 := sZ _ _ hM3
    have hx3 := xths_same sZ hx3
    have hS1 := sZ _ _ hS1
    have hS2 := sZ _ _ hS2
    have hS3 := sZ _ _ hS3
    have hrep := hrep.same sZ
    have kx2 := kx1.trans (KeepX.of_same (p := p) sZ)
    generalize upd H5 Z (.lst [.ref R1, .ref R2, .ref R3]) = H6 at hZ each hR1 hM1 hx1 hR2 hM2 hx2 hR3 hM3 hx3 hS1 hS2 hS3 hrep kx2
    clear sZ nZ kx1
    refine ⟨Z, rfl, ⟨_, SqL.of hZ⟩, for_list (K := K) (a := Z) (xs := [.ref R1, .ref R2, .ref R3]) (fun j σ G => ∃ y6 y7 : Option V, σ = [some (.ref p), some (.ref A1), some v, some (.ref R1), some (.ref R2), some (.ref R3), y6, y7, none, none, none, none] ∧ Same H6 G) ?_ ?_ ?_ ?_⟩
    · exact ⟨none, none, rfl, Same.refl _⟩
    · rintro j σ G _ ⟨_, _, _, sG⟩
      exact SqL.of (sG _ _ hZ)
    · rintro j y σ G hj ⟨y6, y7, rfl, sG⟩
      obtain ⟨R, M, S, xs, n, rfl, hR, hM, hl, hn, hS⟩ := each y (List.mem_of_getElem? hj)
      have hR := sG _ _ hR
      have hM := sG _ _ hM
      have hS := sG _ _ hS
      refine ⟨R, _, rfl, SqL.of hR, rfl, _, _, rfl, _, _, rfl, rfl, ?_⟩
      refine ⟨_, rfl, M, _, rfl, .inl (SqL.of hM), _, rfl, S, _, rfl, .inl (SqL.of hS), rfl, _, rfl, ?_⟩
      rw [hl, List.length_replicate, decide_eq_true rfl]
      refine iteF ?_
      refine ⟨_, rfl, S, rfl, ⟨_, SqL.of hS⟩, fun D nD => ?_⟩
      have nSD : S ≠ D := ne_of_none hS nD
      refine lc_list (K := K) (a := S) (xs := List.replicate n v) (fun k G2 => G2 D = some (.lst ((List.replicate k true).map V.bl)) ∧ (∀ b o, b ≠ D → G b = some o → G2 b = some o)) ?_ ?_ ?_ ?_
      · exact ⟨upd_same, fun b o n e => by rw [upd_ne n]; exact e⟩
      · rintro k G2 _ ⟨_, a2⟩
        exact SqL.of (a2 _ _ nSD hS)
      · rintro k y G2 hk ⟨a1, a2⟩
        have s2 : Same G G2 := fun b o e => a2 b o (ne_of_none e nD) e
        have kl := (List.getElem?_eq_some_iff.mp hk).1
        rw [List.length_replicate] at kl
        have ey : y = v := List.eq_of_mem_replicate (List.mem_of_getElem? hk)
        subst ey
        have hr2 := hrep.same (sG.trans s2)
        refine ⟨rfl, _, rfl, _, x, rfl, hr2, _, rfl, _, x, rfl, hr2, rfl, ?_⟩
        rw [decide_eq_true rfl]
        refine ⟨_, a1, ?_, ?_, fun b o n e => by rw [upd_ne n]; exact a2 b o n e⟩
        · rw [List.length_map, List.length_replicate]
          exact small64 (by omega)
        · rw [upd_same, List.replicate_succ', List.map_append]
          rfl
      · rintro G2 ⟨a1, a2⟩
        have s2 : Same G G2 := fun b o e => a2 b o (ne_of_none e nD) e
        refine ⟨D, _, rfl, SqL.of a1, ?_⟩
        rw [show (List.replicate (List.replicate n v).length true).all id = true by simp]
        refine ⟨_, rfl, iteF ?_⟩
        exact ⟨_, _, rfl, sG.trans s2⟩
    rintro σ G ⟨y6, y7, rfl, sG⟩
    have hR1 := sG _ _ hR1
    have hM1 := sG _ _ hM1
    have hx1 := xths_same sG hx1
    have hR2 := sG _ _ hR2
    have hM2 := sG _ _ hM2
    have hx2 := xths_same sG hx2
    have hR3 := sG _ _ hR3
    have hM3 := sG _ _ hM3
    have hx3 := xths_same sG hx3
    have kx3 := kx2.trans (KeepX.of_same (p := p) sG)
    clear hS1 hS2 hS3 each hZ hrep sG kx2
    -- all errors
    have l1 : xs1.length = 14 := l1
    have l2 : xs2.length = 14 := l2
    have l3 : xs3.length = 8 := l3
    refine ⟨_, rfl, R1, _, 0, .ref M1, rfl, rfl, SqL.of hR1, rfl, ?_⟩
    refine ⟨_, rfl, R2, _, 0, .ref M2, rfl, rfl, SqL.of hR2, rfl, ?_⟩
    refine ⟨M1, M2, xs1, xs2, rfl, rfl, hM1, hM2, by rw [sizeLine_eq]; omega, fun C1 nC1 => ?_⟩
    have c1 := same_new (o := .lst (xs1 ++ xs2)) nC1
    refine ⟨_, rfl, R3, _, 0, .ref M3, rfl, rfl, SqL.of (c1 _ _ hR3), rfl, ?_⟩
    refine ⟨C1, M3, _, _, rfl, rfl, upd_same, c1 _ _ hM3, by rw [List.length_append, sizeLine_eq]; omega, fun C2 nC2 => ?_⟩
    have c2 := same_new (o := .lst (xs1 ++ xs2 ++ xs3)) nC2
    refine fun a1 na1 => fun a2 na2 => fun a3 na3 => ⟨by show 3 ≤ sizeLine; decide, fun Y nY => ?_⟩
    have c3 := same_new (o := exo a1 (cs 14) none) na1
    have c4 := same_new (o := exo a2 (cs 16) none) na2
    have c5 := same_new (o := exo a3 (cs 18) none) na3
    have c6 := same_new (o := .lst [.ref a1, .ref a2, .ref a3]) nY
    refine ⟨C2, Y, _, _, rfl, rfl, c6 _ _ (c5 _ _ (c4 _ _ (c3 _ _ upd_same))), upd_same, by rw [List.length_append, List.length_append, sizeLine_eq]; show _ + 3 ≤ _; omega, fun W nW => ?_⟩
    have c7 := same_new (o := .lst (xs1 ++ xs2 ++ xs3 ++ [.ref a1, .ref a2, .ref a3])) nW
    have cA := (((((c1.trans c2).trans c3).trans c4).trans c5).trans c6).trans c7
    have hws := paired_append (paired_append (paired_append (Paired.mono (fun _ _ h => (XTh.xw h).same cA) hx1) (Paired.mono (fun _ _ h => (XTh.xw h).same cA) hx2)) (Paired.mono (fun _ _ h => (XTh.xw h).same cA) hx3))
      (Paired.cons (⟨by decide, a1, none, rfl, .bare (c7 _ _ (c6 _ _ (c5 _ _ (c4 _ _ upd_same))))⟩ : XW cs _ (.ref a1) 14) (Paired.cons (⟨by decide, a2, none, rfl, .bare (c7 _ _ (c6 _ _ (c5 _ _ upd_same)))⟩ : XW cs _ (.ref a2) 16) (Paired.cons (⟨by decide, a3, none, rfl, .bare (c7 _ _ (c6 _ _ upd_same))⟩ : XW cs _ (.ref a3) 18) .nil)))
    have kx7 := kx3.trans (KeepX.of_same (p := p) cA)
    have hW := @upd_same (upd (upd (upd (upd (upd (upd G C1 (.lst (xs1 ++ xs2))) C2 (.lst (xs1 ++ xs2 ++ xs3))) a1 (exo a1 (cs 14) none)) a2 (exo a2 (cs 16) none)) a3 (exo a3 (cs 18) none)) Y (.lst [.ref a1, .ref a2, .ref a3])) W (.lst (xs1 ++ xs2 ++ xs3 ++ [.ref a1, .ref a2, .ref a3]))
    generalize upd (upd (upd (upd (upd (upd (upd G C1 (.lst (xs1 ++ xs2))) C2 (.lst (xs1 ++ xs2 ++ xs3))) a1 (exo a1 (cs 14) none)) a2 (exo a2 (cs 16) none)) a3 (exo a3 (cs 18) none)) Y (.lst [.ref a1, .ref a2, .ref a3])) W (.lst (xs1 ++ xs2 ++ xs3 ++ [.ref a1, .ref a2, .ref a3])) = G7 at hW hws kx7
    clear cA c7 c6 c5 c4 c3 c2 c1 nW nY na1 na2 na3 nC1 nC2 hx1 hx2 hx3
    have lw : (xs1 ++ xs2 ++ xs3 ++ [V.ref a1, .ref a2, .ref a3]).length = 39 := by rw [List.length_append, List.length_append, List.length_append, l1, l2, l3]; rfl
    generalize xs1 ++ xs2 ++ xs3 ++ [V.ref a1, .ref a2, .ref a3] = ws at hW hws lw
    have hws : Paired (XW cs G7) ws idsW := hws
    refine ⟨_, rfl, W, rfl, ⟨_, SqL.of hW⟩, fun D3 nD3 => ?_⟩
    have nWD3 : W ≠ D3 := ne_of_none hW nD3
    refine lc_list (K := K) (a := W) (xs := ws) (fun k G2 => G2 D3 = some (.lst ((List.replicate k false).map V.bl)) ∧ (∀ b o, b ≠ D3 → G7 b = some o → G2 b = some o)) ?_ ?_ ?_ ?_
    · exact ⟨upd_same, fun b o n e => by rw [upd_ne n]; exact e⟩
    · rintro k G2 _ ⟨_, a2⟩
      exact SqL.of (a2 _ _ nWD3 hW)
    · rintro k y G2 hk ⟨a1, a2⟩
      have s2 : Same G7 G2 := fun b o e => a2 b o (ne_of_none e nD3) e
      have kl := (List.getElem?_eq_some_iff.mp hk).1
      obtain ⟨i, hi, h21, a, fs, rfl, hex⟩ := paired_get hws hk
      have hex := hex.same s2
      refine ⟨rfl, _, rfl, a, cs i, fs, .ty "KeyError", .type "KeyError", false, rfl, hex, J.ec i h21, .ty _, J2.n0 i h21, false, rfl, iteF ?_⟩
      refine ⟨_, rfl, a, cs i, fs, .ty "IndexError", .type "IndexError", false, rfl, hex, J.ec i h21, .ty _, J2.n1 i h21, ?_⟩
      refine ⟨_, a1, ?_, ?_, fun b o n e => by rw [upd_ne n]; exact a2 b o n e⟩
      · rw [List.length_map, List.length_replicate]
        exact small64 (by omega)
      · rw [upd_same, List.replicate_succ', List.map_append]
        rfl
    rintro G8 ⟨a1, a2⟩
    have s8 : Same G7 G8 := fun b o e => a2 b o (ne_of_none e nD3) e
    refine ⟨D3, _, rfl, SqL.of a1, ?_⟩
    rw [show (List.replicate ws.length false).any id = false by simp]
    refine ⟨_, rfl, iteF ?_⟩
    have hW := s8 _ _ hW
    have hws : Paired (XW cs G8) ws idsW := Paired.mono (fun _ _ h => h.same s8) hws
    have kx7 := kx7.trans (KeepX.of_same (p := p) s8)
    clear s8 a1 a2 nD3 nWD3
    refine ⟨_, rfl, W, rfl, ⟨_, SqL.of hW⟩, fun D4 nD4 => ?_⟩
    have nWD4 : W ≠ D4 := ne_of_none hW nD4
    refine lc_list (K := K) (a := W) (xs := ws) (fun k G2 => G2 D4 = some (.lst ((List.replicate k false).map V.bl)) ∧ (∀ b o, b ≠ D4 → G8 b = some o → G2 b = some o)) ?_ ?_ ?_ ?_
    · exact ⟨upd_same, fun b o n e => by rw [upd_ne n]; exact e⟩
    · rintro k G2 _ ⟨_, a2⟩
      exact SqL.of (a2 _ _ nWD4 hW)
    · rintro k y G2 hk ⟨a1, a2⟩
      have s2 : Same G8 G2 := fun b o e => a2 b o (ne_of_none e nD4) e
      have kl := (List.getElem?_eq_some_iff.mp hk).1
      obtain ⟨i, hi, h21, a, fs, rfl, hex⟩ := paired_get hws hk
      have hex := hex.same s2
      refine ⟨rfl, _, rfl, a, cs i, fs, .ty "OverflowError", .type "OverflowError", false, rfl, hex, J.ec i h21, .ty _, J2.n2 i h21, false, rfl, iteF ?_⟩
      refine ⟨_, rfl, a, cs i, fs, .ty "ZeroDivisionError", .type "ZeroDivisionError", false, rfl, hex, J.ec i h21, .ty _, J2.n3 i h21, ?_⟩
      refine ⟨_, a1, ?_, ?_, fun b o n e => by rw [upd_ne n]; exact a2 b o n e⟩
      · rw [List.length_map, List.length_replicate]
        exact small64 (by omega)
      · rw [upd_same, List.replicate_succ', List.map_append]
        rfl
    rintro G9 ⟨a1, a2⟩
    have s9 : Same G8 G9 := fun b o e => a2 b o (ne_of_none e nD4) e
    refine ⟨D4, _, rfl, SqL.of a1, ?_⟩
    rw [show (List.replicate ws.length false).any id = false by simp]
    refine ⟨_, rfl, iteF ?_⟩
    have hW := s9 _ _ hW
    have hws : Paired (XW cs G9) ws idsW := Paired.mono (fun _ _ h => h.same s9) hws
    have kx7 := kx7.trans (KeepX.of_same (p := p) s9)
    clear s9 a1 a2 nD4 nWD4
    refine ⟨by show 0 ≤ sizeLine; decide, fun U nU => ?_⟩
    have sU := same_new (o := .lst []) nU
    refine ⟨14, rfl, ⟨by omega, by omega, by omega, by omega, by omega⟩, fun Rg nRg => ?_⟩
    have sR := same_new (o := .lst (rgV 0 14)) nRg
    refine ⟨by show 4 ≤ sizeLine; decide, fun V4 nV4 => ?_⟩
    have sV := same_new (o := .lst [.int 15, .int 17, .int 19, .int 20]) nV4
    refine ⟨Rg, V4, _, _, rfl, rfl, sV _ _ upd_same, upd_same, by rw [rgV_length, sizeLine_eq]; decide, fun Z2 nZ2 => ?_⟩
    have sZ2 := same_new (o := .lst (rgV 0 14 ++ [.int 15, .int 17, .int 19, .int 20])) nZ2
    have sAll := ((sU.trans sR).trans sV).trans sZ2
    have hU := sZ2 _ _ (sV _ _ (sR _ _ (@upd_same G9 U (.lst []))))
    have hZ2 := @upd_same (upd (upd (upd G9 U (.lst [])) Rg (.lst (rgV 0 14))) V4 (.lst [.int 15, .int 17, .int 19, .int 20])) Z2 (.lst (rgV 0 14 ++ [.int 15, .int 17, .int 19, .int 20]))
    have hW := sAll _ _ hW
    have hws : Paired (XW cs _) ws idsW := Paired.mono (fun _ _ h => h.same sAll) hws
    have kx7 := kx7.trans (KeepX.of_same (p := p) sAll)
    have eats : rgV 0 14 ++ [V.int 15, V.int 17, V.int 19, V.int 20] = ats84.map V.int := rfl
    rw [eats] at hZ2 hU hW hws kx7 ⊢
    generalize upd (upd (upd (upd G9 U (.lst [])) Rg (.lst (rgV 0 14))) V4 (.lst [.int 15, .int 17, .int 19, .int 20])) Z2 (.lst (ats84.map V.int)) = G10 at hZ2 hU hW hws kx7 ⊢
    clear sAll sZ2 sV sR sU nU nRg nV4 nZ2 eats
    refine ⟨Z2, rfl, ⟨_, SqL.of hZ2⟩, for_list (K := K) (a := Z2) (xs := ats84.map V.int) (fun j σ G' => ∃ (U : Addr) (y10 : Option V), σ = [some (.ref p), some (.ref A1), some v, some (.ref R1), some (.ref R2), some (.ref R3), y6, y7, some (.ref W), some (.ref U), y10, none] ∧ Same G10 G' ∧ G' U = some (.lst ((due84.take (2 * j)).map V.int))) ?_ ?_ ?_ ?_⟩
    · exact ⟨U, none, rfl, Same.refl _, hU⟩
    · rintro j σ G' _ ⟨_, _, _, sG, _⟩
      exact SqL.of (sG _ _ hZ2)
    · rintro j x' σ G' hj ⟨U', y10, rfl, sG, hU'⟩
      have jl := (List.getElem?_eq_some_iff.mp hj).1
      have jl : j < 18 := jl
      rw [List.getElem?_map] at hj
      cases ek : ats84[j]? with
      | none =>
        rw [ek] at hj
        cases hj
      | some k =>
        rw [ek] at hj
        cases hj
        have st := due_step j jl
        have ek' : ats84.getD j 0 = k := by rw [List.getD_eq_getElem?_getD, ek]; rfl
        rw [ek'] at st
        refine ⟨_, rfl, _, rfl, _, rfl, by show 2 ≤ sizeLine; decide, fun B nB => ?_⟩
        have sB := same_new (o := .lst [.int k, .int k]) nB
        refine ⟨U', B, _, _, rfl, rfl, sB _ _ hU', upd_same, by rw [List.length_map, List.length_take, sizeLine_eq]; show min _ 36 + 2 ≤ _; omega, fun U2 nU2 => ?_⟩
        have sU2 := same_new (o := .lst ((due84.take (2 * j)).map V.int ++ [.int k, .int k])) nU2
        refine ⟨U2, _, rfl, (sG.trans sB).trans sU2, ?_⟩
        rw [upd_same, st, List.map_append]
        rfl
    rintro σ G11 ⟨U', y10, rfl, sG, hU'⟩
    have hU' : G11 U' = some (.lst (due84.map V.int)) := hU'
    have hW := sG _ _ hW
    have hws : Paired (XW cs G11) ws idsW := Paired.mono (fun _ _ h => h.same sG) hws
    have kx8 := kx7.trans (KeepX.of_same (p := p) sG)
    refine ⟨_, rfl, W, rfl, ⟨_, SqL.of hW⟩, fun D nD => ?_⟩
    have nWD : W ≠ D := ne_of_none hW nD
    refine lc_list (K := K) (a := W) (xs := ws) (fun k G2 => G2 D = some (.lst (((idsW.take k).map fun i : Nat => (i : Int)).map V.int)) ∧ (∀ b o, b ≠ D → G11 b = some o → G2 b = some o)) ?_ ?_ ?_ ?_
    · exact ⟨upd_same, fun b o n e => by rw [upd_ne n]; exact e⟩
    · rintro k G2 _ ⟨_, a2⟩
      exact SqL.of (a2 _ _ nWD hW)
    · rintro k y G2 hk ⟨a1, a2⟩
      have s2 : Same G11 G2 := fun b o e => a2 b o (ne_of_none e nD) e
      have kl := (List.getElem?_eq_some_iff.mp hk).1
      obtain ⟨i, hi, h21, a, fs, rfl, hex⟩ := paired_get hws hk
      refine ⟨rfl, _, rfl, a, i, fs, rfl, h21, hex.same s2, fun G3 s3 => ?_⟩
      refine ⟨_, s3 _ _ a1, ?_, ?_, fun b o n e => by rw [upd_ne n]; exact s3 _ _ (a2 b o n e)⟩
      · rw [List.length_map, List.length_map, List.length_take]
        exact small64 (by omega)
      · rw [upd_same, List.take_add_one, hi, List.map_append, List.map_append]
        rfl
    rintro G12 ⟨a1, a2⟩
    have s12 : Same G11 G12 := fun b o e => a2 b o (ne_of_none e nD) e
    rw [lw] at a1
    refine ⟨_, rfl, by show 3 ≤ sizeLine; decide, fun B nB => ?_⟩
    have sB := same_new (o := .lst [.int 14, .int 16, .int 18]) nB
    refine ⟨U', B, _, _, rfl, rfl, sB _ _ (s12 _ _ hU'), upd_same, by rw [List.length_map, sizeLine_eq]; decide, fun E2 nE2 => ?_⟩
    have sE := same_new (o := .lst (due84.map V.int ++ [.int 14, .int 16, .int 18])) nE2
    refine ⟨.list (((idsW.take 39).map fun i : Nat => (i : Int)).map PyData.int), .list ((due84 ++ [14, 16, 18]).map PyData.int), .lst (SqL.of (sE _ _ (sB _ _ a1))) (dp_ints _), .lst (xs := (due84 ++ [14, 16, 18]).map V.int) (SqL.of upd_same) (dp_ints _), ints_shaped _, ints_shaped _, ?_⟩
    rw [ints_eqvL, show decide (((idsW.take 39).map fun i : Nat => (i : Int)) = due84 ++ [14, 16, 18]) = true by decide]
    exact q _ (kx8.trans (.of_same ((s12.trans sB).trans sE)))
end
end KS
namespace KS
open PySem PySem.Spec PyProof.Rows L2
/-! ### what the written part says of the classes -/
def ecB (K : PySem.W.Frag) (D : Addr) : Bool :=
  decide (PySem.W.findIn K (.ref D) "__getattribute__" = some (some (.builtin "BaseException.__getattribute__"))) && decide (PySem.W.findIn K (.ref D) "__getattr__" = some none) &&
  decide (PySem.W.subIn K (.ref D) (.type "BaseException") = some true) && PySem.W.hasDictIn K D && decide (PySem.W.findIn K (.ref D) "__class__" = some (some (.builtin "object.__class__"))) &&
  decide (PySem.W.specialIn K (.builtin "object.__class__") "__get__" = some (some (.builtin "getset_descriptor.__get__"))) && decide (PySem.W.takesIn K (.builtin "object.__class__") = some true) && decide (PySem.W.mroIn K D (.type "object") = some true)
theorem ecB_ok {K : PySem.W.Frag} {D : Addr} (h : ecB K D = true) : ExcC K D := by
  unfold ecB at h
  simp only [Bool.and_eq_true, decide_eq_true_eq] at h
  obtain ⟨⟨⟨⟨⟨⟨⟨h1, h2⟩, h3⟩, h4⟩, h5⟩, h6⟩, h7⟩, h8⟩ := h
  exact ⟨h1, h2, h3, h4, h5, h6, h7, h8⟩
theorem exc_xf {K : PySem.W.Frag} {D : Addr} (h : ExcC K D) : XfC K D := ⟨h.hg, h.hk, h.hs, h.hd⟩
def kitB (K : PySem.W.Frag) (cl bl : List Addr) : Bool := (List.range 21).all fun i =>
  ecB K (cl.getD i 0) && ((List.range 21).all fun j => decide (PySem.W.kitOne K (.ref (cl.getD i 0)) (.ref (cl.getD j 0)) = some (decide (i = j)))) &&
  decide (PySem.W.kitOne K (.ref (cl.getD i 0)) (.ref (bl.getD 0 0)) = some (decide (i < 14))) && decide (PySem.W.kitOne K (.ref (cl.getD i 0)) (.ref (bl.getD 1 0)) = some (decide (14 ≤ i ∧ i < 19))) && decide (PySem.W.kitOne K (.ref (cl.getD i 0)) (.ref (bl.getD 2 0)) = some (decide (19 ≤ i))) &&
  decide (PySem.W.kitOne K (.ref (cl.getD i 0)) (.type "ValueError") = some (decide (i < 14))) && decide (PySem.W.kitOne K (.ref (cl.getD i 0)) (.type "LookupError") = some (decide (14 ≤ i ∧ i < 19))) && decide (PySem.W.kitOne K (.ref (cl.getD i 0)) (.type "ArithmeticError") = some (decide (19 ≤ i)))
theorem kitB_at {K : PySem.W.Frag} {cl bl : List Addr} (h : kitB K cl bl = true) {i : Nat} (hi : i < 21) : ExcC K (cl.getD i 0) ∧ (∀ j, j < 21 → PySem.W.kitOne K (.ref (cl.getD i 0)) (.ref (cl.getD j 0)) = some (decide (i = j))) ∧
    PySem.W.kitOne K (.ref (cl.getD i 0)) (.ref (bl.getD 0 0)) = some (decide (i < 14)) ∧ PySem.W.kitOne K (.ref (cl.getD i 0)) (.ref (bl.getD 1 0)) = some (decide (14 ≤ i ∧ i < 19)) ∧ PySem.W.kitOne K (.ref (cl.getD i 0)) (.ref (bl.getD 2 0)) = some (decide (19 ≤ i)) ∧
    PySem.W.kitOne K (.ref (cl.getD i 0)) (.type "ValueError") = some (decide (i < 14)) ∧ PySem.W.kitOne K (.ref (cl.getD i 0)) (.type "LookupError") = some (decide (14 ≤ i ∧ i < 19)) ∧ PySem.W.kitOne K (.ref (cl.getD i 0)) (.type "ArithmeticError") = some (decide (19 ≤ i)) := by
  unfold kitB at h
  have h := List.all_eq_true.mp h i (List.mem_range.mpr hi)
  rw [Bool.and_eq_true, Bool.and_eq_true, Bool.and_eq_true, Bool.and_eq_true, Bool.and_eq_true, Bool.and_eq_true, Bool.and_eq_true] at h
  obtain ⟨⟨⟨⟨⟨⟨⟨h1, h2⟩, h3⟩, h4⟩, h5⟩, h6⟩, h7⟩, h8⟩ := h
  exact ⟨ecB_ok h1, fun j hj => of_decide_eq_true (List.all_eq_true.mp h2 j (List.mem_range.mpr hj)), of_decide_eq_true h3, of_decide_eq_true h4, of_decide_eq_true h5, of_decide_eq_true h6, of_decide_eq_true h7, of_decide_eq_true h8⟩
def kit84B (K : PySem.W.Frag) (cl : List Addr) : Bool := (List.range 21).all fun i =>
  decide (PySem.W.kitOne K (.ref (cl.getD i 0)) (.type "KeyError") = some false) && decide (PySem.W.kitOne K (.ref (cl.getD i 0)) (.type "IndexError") = some false) && decide (PySem.W.kitOne K (.ref (cl.getD i 0)) (.type "OverflowError") = some false) && decide (PySem.W.kitOne K (.ref (cl.getD i 0)) (.type "ZeroDivisionError") = some false)
theorem kit84_ok {K : PySem.W.Frag} {cl : List Addr} (h : kit84B K cl = true) : Kinds84 K (fun i => cl.getD i 0) := by
  unfold kit84B at h
  have z : ∀ i, i < 21 → _ := fun i hi => List.all_eq_true.mp h i (List.mem_range.mpr hi)
  simp only [Bool.and_eq_true, decide_eq_true_eq] at z
  exact ⟨fun i hi => (z i hi).1.1.1, fun i hi => (z i hi).1.1.2, fun i hi => (z i hi).1.2, fun i hi => (z i hi).2⟩
def iniB (K : PySem.W.Frag) (C fI : Addr) (f : Str) : Bool :=
  decide (PySem.W.findIn K (.ref C) "__setattr__" = some (some (.builtin "object.__setattr__"))) && PySem.W.keepIn K (.ref C) && decide (PySem.W.findIn K (.ref C) f = some none) && decide (PySem.W.findIn K (.ref C) "__init__" = some (some (.ref fI))) && decide (PySem.W.typeIn K (.ref fI) = some (.type "function"))
section
variable {P : Program} {w : World} {K : PySem.W.Frag} {mg : Str → Option Value} {base : Heap}
theorem xini_of {x f q : Str} {st : Stmt} {C fI S N : Addr} {fd : FuncData} {B newId initId sa owner : String} {bmB : List Value} {nm qn : Str} {bs : List Value} {sn : List Str} {sub : List Value} {ab : Bool} {col : Option Bool} {dd : Option Addr} {k0 k1 k2 k3 k5 : Option Value}
    (FB : ExcBaseFacts B newId initId bmB) (SF : StoreFacts B bmB sa owner) (ho : bmB.contains (.type "object") = true) (mC : mg x = some (.ref C)) (L : K.lookup C = some (excClassObj nm qn C N bs (.ref S :: bmB) true sn sub ab col dd k0 k1 k2 k3 k5 newId))
    (hb : iniB K C fI f = true) (ec : ExcC K C) (F : Fun K "__init__" q st fI fd) (G : FnOk P w K mg base CX0 1 fI fd ["self", f] (spIni K f))
    (b1 : ∀ (kV doc pm : Value) (an : Option Addr) (cdv ct : Value) (r u : Value), bindArgs (PySem.W.fnOf "__init__" q (defArgs st) (defBody st) (defScope st) .none kV doc pm an cdv ct) ⟨[r, u], []⟩ = pure ([("self", r), (f, u)] : List (Str × Value)))
    (b2 : ∀ (kV doc pm : Value) (an : Option Addr) (cdv ct : Value) (r u : Value), bindArgs (PySem.W.fnOf "__init__" q (defArgs st) (defBody st) (defScope st) .none kV doc pm an cdv ct) ⟨[r], [(f, u)]⟩ = pure ([("self", r), (f, u)] : List (Str × Value))) : XIni P w K mg base x f C := by
  unfold iniB at hb
  simp only [Bool.and_eq_true, decide_eq_true_eq] at hb
  obtain ⟨⟨⟨⟨h1, h2⟩, h3⟩, h4⟩, h5⟩ := hb
  obtain ⟨oc, od, kV, doc, pm, an, cdv, ct, osl, rfl, lk, hcd⟩ := F.ex
  exact ⟨⟨⟨B, newId, initId, bmB, nm, qn, N, bs, _, sn, sub, ab, col, dd, k0, k1, k2, k3, k5, FB, L, TailOk.one S SF ho⟩, h1, h2⟩, mC, h3, (exc_xf ec), ec,
    ⟨fI, _, h4, h5, G, fun s r u _ => .of_eq (b1 kV doc pm an cdv ct r u), fun s r u _ => .of_eq (b2 kV doc pm an cdv ct r u)⟩⟩
end
abbrev sLaw : Stmt := topS 41
abbrev nLaw : List Str := ["_law_script", "_law_k"]
theorem scLaw : FnScope nLaw ["_law_script"] (defScope sLaw) := ⟨rfl, rfl, rfl, by decide +kernel, rfl, by decide +kernel, by decide +kernel⟩
section
variable {P : Program} {w : World} {K : PySem.W.Frag} {mg : Str → Option Value} {base : Heap}
theorem ok_law84 {f fC fP fR : Addr} {fd fdC fdP fdR : FuncData} {t1 t2 t3 t4 t5 t6 t7 : Tok} (F : Fun K "law" "law" sLaw f fd)
    (GC : FnOk P w K mg base CX0 1 fC fdC ["_law_script", "_law_k"] (spCell K)) (bC : Binds K fdC ["_law_script", "_law_k"] []) (gC : mg "_law_cell" = some (.ref fC)) (kC : PySem.W.keepIn K (.ref fC) = true)
    (GP : FnOk P w K mg base CX0 1 fP fdP ["_law_figure"] spPool) (bP : Binds K fdP ["_law_figure"] []) (gP : mg "_law_pool" = some (.ref fP)) (kP : PySem.W.keepIn K (.ref fP) = true)
    (GR : FnG P w K mg base 4 fR fdR ["_law_pool_here"] spRight) (bR : Binds K fdR ["_law_pool_here"] []) (gR : mg "_law_right" = some (.ref fR)) (kR : PySem.W.keepIn K (.ref fR) = true)
    (c1 : mg "MOST_CELLS" = some (.int 24 t1)) (c2 : mg "SMALL" = some (.int 10 t2)) (c3 : mg "MOST_INDEX" = some (.int 7 t3)) (c4 : mg "MOST_VALUE" = some (.int 9999 t4)) (c5 : mg "MOST_LETTERS" = some (.int 400 t5)) (c6 : mg "MOST_TIMES" = some (.int (10 ^ 30) t6)) (c7 : mg "MOST_EDITS" = some (.int 1000 t7))
    (ma : mg "all" = none) (mr : mg "range" = none) (mx : mg "max" = none) (mn : mg "min" = none) (ml : mg "len" = none) : FnG P w K mg base 5 f fd ["_law_script"] (spLaw K) := by
  refine okG F scLaw (fun vs H Q E h => ?_) (fun cdv A outer s H vs Q E hr hgd h => ?_)
  · obtain ⟨a, ns, rfl, _⟩ := h
    rfl
  · obtain ⟨a, ns, rfl, hS, hl, q⟩ := h
    have nd := scLaw.nd
    have hr1 : Room 1 _ := hr.mono (by omega)
    refine ⟨_, pss_cons (ps_if (pt_cmpR (op_neD hr.units) (pe_lst (pa_cons (pe_glob (v := .int 24) (by rfl) c1 ⟨_, rfl⟩) (pa_cons (pe_glob (v := .int 10) (by rfl) c2 ⟨_, rfl⟩) (pa_cons (pe_glob (v := .int 7) (by rfl) c3 ⟨_, rfl⟩) (pa_cons (pe_glob (v := .int 9999) (by rfl) c4 ⟨_, rfl⟩) pa_nil)))))
          (pe_lst (pa_cons pe_int (pa_cons pe_int (pa_cons pe_int (pa_cons pe_int pa_nil))))) (nomark _)) (pss_one (ps_ret pe_bl)) pss_nil)
      (pss_cons (ps_if (pt_cmpR (op_neD hr.units) (pe_lst (pa_cons (pe_glob (v := .int 400) (by rfl) c5 ⟨_, rfl⟩) (pa_cons (pe_glob (v := .int (10 ^ 30)) (by rfl) c6 ⟨_, rfl⟩) (pa_cons (pe_glob (v := .int 1000) (by rfl) c7 ⟨_, rfl⟩) pa_nil))))
          (pe_lst (pa_cons pe_int (pa_cons (pe_op op_pow pe_int pe_int) (pa_cons pe_int pa_nil)))) (nomark _)) (pss_one (ps_ret pe_bl)) pss_nil)
      (pss_one (ps_ret (pe_callB (cr_all rfl) (by rfl) ma (by decide +kernel) (pa_cons
      (pe_lc (own := [("_law_k", 1)]) (g := gName 1) (tt := tYes) rfl nd (pi_range1 (by rfl) mr (pa_cons (pe_callB (call_max2 rfl) (by rfl) mx (by decide +kernel) (pa_cons pe_int (pa_cons (pe_callB (call_min2 rfl) (by rfl) mn (by decide +kernel)
          (pa_cons (pe_callB call_len_seq (by rfl) ml PySem.boot_len (pa_cons (pv 0) pa_nil)) (pa_cons pe_int pa_nil))) pa_nil))) pa_nil)) (blkOk_by (N := nLaw) (sc := defScope sLaw) (by decide +kernel))
        (fun _ _ _ _ _ => pg_name (i := 1) nd rfl (Or.inl rfl)) (fun _ _ _ _ _ => pts_nil)
        (fun _ _ _ _ _ => pe_callG GR hr hgd (by rfl) gR kR bR (pa_cons (pe_call GP hr1 (by rfl) gP kP bP .nil pass0 (pa_cons (pe_call GC hr1 (by rfl) gC kC bC .nil pass0 (pa_cons (pv 0) (pa_cons (pv 1) pa_nil))) pa_nil)) pa_nil))) pa_nil))))), ?_⟩
    refine ⟨by show 4 ≤ sizeLine; decide, fun Y nY => ?_⟩
    have sY := same_new (o := .lst [.int 24, .int 10, .int 7, .int 9999]) nY
    refine ⟨by show 4 ≤ sizeLine; decide, fun Y2 nY2 => ?_⟩
    have sY2 := same_new (o := .lst [.int 24, .int 10, .int 7, .int 9999]) nY2
    refine ⟨.list (([24, 10, 7, 9999] : List Int).map PyData.int), .list (([24, 10, 7, 9999] : List Int).map PyData.int), .lst (SqL.of (sY2 _ _ upd_same)) (dp_ints [24, 10, 7, 9999]), .lst (SqL.of upd_same) (dp_ints [24, 10, 7, 9999]), ints_shaped _, ints_shaped _, _, rfl, ?_⟩
    rw [ints_eqvL, decide_eq_true rfl]
    refine iteF ?_
    have s1 := sY.trans sY2
    generalize upd (upd H Y (.lst [.int 24, .int 10, .int 7, .int 9999])) Y2 (.lst [.int 24, .int 10, .int 7, .int 9999]) = H1 at s1
    refine ⟨by show 3 ≤ sizeLine; decide, fun Z nZ => ?_⟩
    have sZ := same_new (o := .lst [.int 400, .int (10 ^ 30), .int 1000]) nZ
    refine ⟨_, _, rfl, rfl, ⟨by omega, by omega, by decide⟩, by show 3 ≤ sizeLine; decide, fun Z2 nZ2 => ?_⟩
    dsimp only []
    have e30 : (10 : Int) ^ (30 : Int).toNat = 10 ^ 30 := rfl
    rw [e30]
    have sZ2 := same_new (o := .lst [.int 400, .int (10 ^ 30), .int 1000]) nZ2
    refine ⟨.list (([400, 10 ^ 30, 1000] : List Int).map PyData.int), .list (([400, 10 ^ 30, 1000] : List Int).map PyData.int), .lst (SqL.of (sZ2 _ _ upd_same)) (dp_ints [400, 10 ^ 30, 1000]), .lst (SqL.of upd_same) (dp_ints [400, 10 ^ 30, 1000]), ints_shaped _, ints_shaped _, _, rfl, ?_⟩
    rw [ints_eqvL, decide_eq_true rfl]
    refine iteF ?_
    have sA := (s1.trans sZ).trans sZ2
    have hS := sA.seq hS
    generalize upd (upd H1 Z (.lst [.int 400, .int (10 ^ 30), .int 1000])) Z2 (.lst [.int 400, .int (10 ^ 30), .int 1000]) = G at hS
    clear sA sZ2 sZ s1 sY2 sY
    refine ⟨_, rfl, a, _, rfl, .inl hS, _, _, rfl, _, _, rfl, _, rfl, ?_, ?_, fun D nD => ?_⟩
    · split <;> split <;> omega
    · split <;> split <;> omega
    generalize hN : (if (if (4 : Int) < ((ns.map V.int).length : Int) then (4 : Int) else ((ns.map V.int).length : Int)) > 2 then (if (4 : Int) < ((ns.map V.int).length : Int) then (4 : Int) else ((ns.map V.int).length : Int)) else 2) = N
    have hNb : 0 ≤ N ∧ N ≤ 4 := by
      rw [← hN]
      split <;> split <;> omega
    refine lc_range (lo := 0) (n := N.toNat) (fun i H' => H' D = some (.lst ((List.replicate i true).map V.bl)) ∧ (∀ b o, b ≠ D → G b = some o → H' b = some o)) ?_ ?_ ?_
    · exact ⟨upd_same, fun b o n e => by rw [upd_ne n]; exact e⟩
    · rintro i H' hi ⟨a1, a2⟩
      have sD : Same G H' := fun b o e => a2 b o (ne_of_none e nD) e
      refine ⟨rfl, _, rfl, _, rfl, a, ns, i, by
        show [V.ref a, V.int (0 + (i : Int))] = _
        rw [Int.zero_add], sD.seq hS, by omega, fun H1 n s1 => ⟨n, rfl, fun H2 p s2 np po => ⟨p, rfl, po, fun H3 kx => ?_⟩⟩⟩
      have nDp : D ≠ p := ne_of_none (s1 _ _ a1) np
      have s12 := s1.trans s2
      refine ⟨_, kx _ _ nDp (s12 _ _ a1), ?_, ?_, fun b o n e => ?_⟩
      · rw [List.length_map, List.length_replicate]
        exact small64 (by omega)
      · rw [upd_same, List.replicate_succ', List.map_append]
        rfl
      · rw [upd_ne n]
        have e1 := a2 b o n e
        exact kx _ _ (ne_of_none (s1 _ _ e1) np) (s12 _ _ e1)
    · rintro H' ⟨a1, a2⟩
      refine ⟨D, _, rfl, SqL.of a1, ?_⟩
      rw [show (List.replicate N.toNat true).all id = true by simp]
      exact q H'
end
end KS
namespace KS
open PySem PySem.Spec PyProof.Rows L2
-- topS
theorem all_mk {l : PySem.W.OpenLaw} {w : World} {K : PySem.W.Frag} {h : Heap} {mg : Str → Option Value} {fa f0 f1 f2 f3 f4 f5 f6 f7 f8 : Addr} (X : K.In h) (G : h.Ns mainGlobals mg) (hfa : mg "law" = some (.ref fa))
    {od0 an0 od1 an1 od2 an2 od3 an3 od4 an4 od5 an5 od6 an6 od7 an7 od8 an8 : Option Addr} {sl0 sl1 sl2 sl3 sl4 sl5 sl6 sl7 sl8 : Array (Option Value)}
    {oc0 kV0 dc0 pm0 cd0 ct0 oc1 kV1 dc1 pm1 cd1 ct1 oc2 kV2 dc2 pm2 cd2 ct2 oc3 kV3 dc3 pm3 cd3 ct3 oc4 kV4 dc4 pm4 cd4 ct4 oc5 kV5 dc5 pm5 cd5 ct5 oc6 kV6 dc6 pm6 cd6 ct6 oc7 kV7 dc7 pm7 cd7 ct7 oc8 kV8 dc8 pm8 cd8 ct8 : Value} {tk0 tk1 tk2 tk3 tk4 tk5 tk6 : Tok}
    (a0 : PySem.W.nsIn K mainGlobals "_law_cell" = some (some (.ref f0)))
    (l0 : K.lookup f0 = some ⟨oc0, od0, .func (PySem.W.fnOf "_law_cell" "_law_cell" (defArgs sCell) (defBody sCell) (defScope sCell) .none kV0 dc0 pm0 an0 cd0 ct0), sl0⟩)
    (c0 : PySem.W.codeIn K cd0 "_law_cell" = true) (k0 : PySem.W.keepIn K (.ref f0) = true)
    (a1 : PySem.W.nsIn K mainGlobals "_law_pool" = some (some (.ref f1)))
    (l1 : K.lookup f1 = some ⟨oc1, od1, .func (PySem.W.fnOf "_law_pool" "_law_pool" (defArgs sPool) (defBody sPool) (defScope sPool) .none kV1 dc1 pm1 an1 cd1 ct1), sl1⟩)
    (c1 : PySem.W.codeIn K cd1 "_law_pool" = true) (k1 : PySem.W.keepIn K (.ref f1) = true)
    (a2 : PySem.W.nsIn K mainGlobals "_law_draw" = some (some (.ref f2)))
    (l2 : K.lookup f2 = some ⟨oc2, od2, .func (PySem.W.fnOf "_law_draw" "_law_draw" (defArgs sDraw) (defBody sDraw) (defScope sDraw) .none kV2 dc2 pm2 an2 cd2 ct2), sl2⟩)
    (c2 : PySem.W.codeIn K cd2 "_law_draw" = true) (k2 : PySem.W.keepIn K (.ref f2) = true)
    (a3 : PySem.W.nsIn K mainGlobals "_law_kind" = some (some (.ref f3)))
    (l3 : K.lookup f3 = some ⟨oc3, od3, .func (PySem.W.fnOf "_law_kind" "_law_kind" (defArgs sLKind) (defBody sLKind) (defScope sLKind) .none kV3 dc3 pm3 an3 cd3 ct3), sl3⟩)
    (c3 : PySem.W.codeIn K cd3 "_law_kind" = true) (k3 : PySem.W.keepIn K (.ref f3) = true)
    (a4 : PySem.W.nsIn K mainGlobals "_law_first" = some (some (.ref f4)))
    (l4 : K.lookup f4 = some ⟨oc4, od4, .func (PySem.W.fnOf "_law_first" "_law_first" (defArgs sFirst84) (defBody sFirst84) (defScope sFirst84) .none kV4 dc4 pm4 an4 cd4 ct4), sl4⟩)
    (c4 : PySem.W.codeIn K cd4 "_law_first" = true) (k4 : PySem.W.keepIn K (.ref f4) = true)
    (a5 : PySem.W.nsIn K mainGlobals "_law_second" = some (some (.ref f5)))
    (l5 : K.lookup f5 = some ⟨oc5, od5, .func (PySem.W.fnOf "_law_second" "_law_second" (defArgs sSecond84) (defBody sSecond84) (defScope sSecond84) .none kV5 dc5 pm5 an5 cd5 ct5), sl5⟩)
    (c5 : PySem.W.codeIn K cd5 "_law_second" = true) (k5 : PySem.W.keepIn K (.ref f5) = true)
    (a6 : PySem.W.nsIn K mainGlobals "_law_third" = some (some (.ref f6)))
    (l6 : K.lookup f6 = some ⟨oc6, od6, .func (PySem.W.fnOf "_law_third" "_law_third" (defArgs sThird84) (defBody sThird84) (defScope sThird84) .none kV6 dc6 pm6 an6 cd6 ct6), sl6⟩)
    (c6 : PySem.W.codeIn K cd6 "_law_third" = true) (k6 : PySem.W.keepIn K (.ref f6) = true)
    (a7 : PySem.W.nsIn K mainGlobals "_law_right" = some (some (.ref f7)))
    (l7 : K.lookup f7 = some ⟨oc7, od7, .func (PySem.W.fnOf "_law_right" "_law_right" (defArgs sRight) (defBody sRight) (defScope sRight) .none kV7 dc7 pm7 an7 cd7 ct7), sl7⟩)
    (c7 : PySem.W.codeIn K cd7 "_law_right" = true) (k7 : PySem.W.keepIn K (.ref f7) = true)
    (a8 : PySem.W.nsIn K mainGlobals "law" = some (some (.ref f8)))
    (l8 : K.lookup f8 = some ⟨oc8, od8, .func (PySem.W.fnOf "law" "law" (defArgs sLaw) (defBody sLaw) (defScope sLaw) .none kV8 dc8 pm8 an8 cd8 ct8), sl8⟩)
    (c8 : PySem.W.codeIn K cd8 "law" = true) (k8 : PySem.W.keepIn K (.ref f8) = true)
    (z0 : PySem.W.nsIn K mainGlobals "len" = some none)
    (z1 : PySem.W.nsIn K mainGlobals "abs" = some none)
    (z2 : PySem.W.nsIn K mainGlobals "divmod" = some none)
    (z3 : PySem.W.nsIn K mainGlobals "isinstance" = some none)
    (z4 : PySem.W.nsIn K mainGlobals "ValueError" = some none)
    (z5 : PySem.W.nsIn K mainGlobals "LookupError" = some none)
    (z6 : PySem.W.nsIn K mainGlobals "ArithmeticError" = some none)
    (z7 : PySem.W.nsIn K mainGlobals "repr" = some none)
    (z8 : PySem.W.nsIn K mainGlobals "all" = some none)
    (z9 : PySem.W.nsIn K mainGlobals "any" = some none)
    (z10 : PySem.W.nsIn K mainGlobals "list" = some none)
    (z11 : PySem.W.nsIn K mainGlobals "range" = some none)
    (z12 : PySem.W.nsIn K mainGlobals "KeyError" = some none)
    (z13 : PySem.W.nsIn K mainGlobals "IndexError" = some none)
    (z14 : PySem.W.nsIn K mainGlobals "OverflowError" = some none)
    (z15 : PySem.W.nsIn K mainGlobals "ZeroDivisionError" = some none)
    (z16 : PySem.W.nsIn K mainGlobals "max" = some none)
    (z17 : PySem.W.nsIn K mainGlobals "min" = some none)
    (w0 : PySem.W.nsIn K mainGlobals "MOST_CELLS" = some (some (.int 24 tk0)))
    (w1 : PySem.W.nsIn K mainGlobals "SMALL" = some (some (.int 10 tk1)))
    (w2 : PySem.W.nsIn K mainGlobals "MOST_INDEX" = some (some (.int 7 tk2)))
    (w3 : PySem.W.nsIn K mainGlobals "MOST_VALUE" = some (some (.int 9999 tk3)))
    (w4 : PySem.W.nsIn K mainGlobals "MOST_LETTERS" = some (some (.int 400 tk4)))
    (w5 : PySem.W.nsIn K mainGlobals "MOST_TIMES" = some (some (.int 1000000000000000000000000000000 tk5)))
    (w6 : PySem.W.nsIn K mainGlobals "MOST_EDITS" = some (some (.int 1000 tk6)))
    {C_0 C_1 C_2 C_3 C_4 C_5 C_6 C_7 C_8 C_9 C_10 C_11 C_12 C_13 C_14 C_15 C_16 C_17 C_18 C_19 C_20 S_0 S_1 S_2 fN_0 fN_1 fN_2 fN_3 fN_4 fN_5 fN_6 fN_7 fN_8 fN_9 fN_10 fN_11 fN_12 fN_13 fN_15 fN_17 fN_19 fN_20 Nn_0 Nn_1 Nn_2 Nn_3 Nn_4 Nn_5 Nn_6 Nn_7 Nn_8 Nn_9 Nn_10 Nn_11 Nn_12 Nn_13 Nn_15 Nn_17 Nn_19 Nn_20 : Addr}
    (aC_0 : PySem.W.nsIn K mainGlobals "InvalidPlan" = some (some (.ref C_0)))
    (aC_1 : PySem.W.nsIn K mainGlobals "InvalidKind" = some (some (.ref C_1)))
    (aC_2 : PySem.W.nsIn K mainGlobals "InvalidFilling" = some (some (.ref C_2)))
    (aC_3 : PySem.W.nsIn K mainGlobals "InvalidNumber" = some (some (.ref C_3)))
    (aC_4 : PySem.W.nsIn K mainGlobals "InvalidWord" = some (some (.ref C_4)))
    (aC_5 : PySem.W.nsIn K mainGlobals "InvalidProgram" = some (some (.ref C_5)))
    (aC_6 : PySem.W.nsIn K mainGlobals "InvalidText" = some (some (.ref C_6)))
    (aC_7 : PySem.W.nsIn K mainGlobals "InvalidLengths" = some (some (.ref C_7)))
    (aC_8 : PySem.W.nsIn K mainGlobals "InvalidTable" = some (some (.ref C_8)))
    (aC_9 : PySem.W.nsIn K mainGlobals "InvalidRecord" = some (some (.ref C_9)))
    (aC_10 : PySem.W.nsIn K mainGlobals "InvalidCell" = some (some (.ref C_10)))
    (aC_11 : PySem.W.nsIn K mainGlobals "InvalidValue" = some (some (.ref C_11)))
    (aC_12 : PySem.W.nsIn K mainGlobals "InvalidEdit" = some (some (.ref C_12)))
    (aC_13 : PySem.W.nsIn K mainGlobals "InvalidCommand" = some (some (.ref C_13)))
    (aC_14 : PySem.W.nsIn K mainGlobals "OtherValues" = some (some (.ref C_14)))
    (aC_15 : PySem.W.nsIn K mainGlobals "UnknownName" = some (some (.ref C_15)))
    (aC_16 : PySem.W.nsIn K mainGlobals "NoOrder" = some (some (.ref C_16)))
    (aC_17 : PySem.W.nsIn K mainGlobals "ValueTaken" = some (some (.ref C_17)))
    (aC_18 : PySem.W.nsIn K mainGlobals "NothingToUndo" = some (some (.ref C_18)))
    (aC_19 : PySem.W.nsIn K mainGlobals "TooManyCells" = some (some (.ref C_19)))
    (aC_20 : PySem.W.nsIn K mainGlobals "TooManyEdits" = some (some (.ref C_20)))
    (aS_0 : PySem.W.nsIn K mainGlobals "SortError" = some (some (.ref S_0)))
    (aS_1 : PySem.W.nsIn K mainGlobals "FindError" = some (some (.ref S_1)))
    (aS_2 : PySem.W.nsIn K mainGlobals "LimitError" = some (some (.ref S_2)))
    {nm_0 q_0 : Str} {bs_0 : List Value} {sn_0 : List Str} {sub_0 : List Value} {ab_0 : Bool} {col_0 : Option Bool} {dd_0 : Option Addr} {x0_0 x1_0 x2_0 x3_0 x5_0 : Option Value}
    {odN_0 anN_0 : Option Addr} {slN_0 : Array (Option Value)} {ocN_0 kvN_0 dcN_0 pmN_0 cdN_0 ctN_0 : Value}
    (xL_0 : K.lookup C_0 = some (excClassObj nm_0 q_0 C_0 Nn_0 bs_0 [.ref S_0, .type "ValueError", .type "Exception", .type "BaseException", .type "object"] true sn_0 sub_0 ab_0 col_0 dd_0 x0_0 x1_0 x2_0 x3_0 x5_0 "ValueError.__new__"))
    (aN_0 : PySem.W.findIn K (.ref C_0) "__init__" = some (some (.ref fN_0)))
    (lN_0 : K.lookup fN_0 = some ⟨ocN_0, odN_0, .func (PySem.W.fnOf "__init__" "InvalidPlan.__init__" (defArgs (iniOf (topS 2))) (defBody (iniOf (topS 2))) (defScope (iniOf (topS 2))) .none kvN_0 dcN_0 pmN_0 anN_0 cdN_0 ctN_0), slN_0⟩)
    (cN_0 : PySem.W.codeIn K cdN_0 "InvalidPlan.__init__" = true) (kN_0 : PySem.W.keepIn K (.ref fN_0) = true)
    {nm_1 q_1 : Str} {bs_1 : List Value} {sn_1 : List Str} {sub_1 : List Value} {ab_1 : Bool} {col_1 : Option Bool} {dd_1 : Option Addr} {x0_1 x1_1 x2_1 x3_1 x5_1 : Option Value}
    {odN_1 anN_1 : Option Addr} {slN_1 : Array (Option Value)} {ocN_1 kvN_1 dcN_1 pmN_1 cdN_1 ctN_1 : Value}
    (xL_1 : K.lookup C_1 = some (excClassObj nm_1 q_1 C_1 Nn_1 bs_1 [.ref S_0, .type "ValueError", .type "Exception", .type "BaseException", .type "object"] true sn_1 sub_1 ab_1 col_1 dd_1 x0_1 x1_1 x2_1 x3_1 x5_1 "ValueError.__new__"))
    (aN_1 : PySem.W.findIn K (.ref C_1) "__init__" = some (some (.ref fN_1)))
    (lN_1 : K.lookup fN_1 = some ⟨ocN_1, odN_1, .func (PySem.W.fnOf "__init__" "InvalidKind.__init__" (defArgs (iniOf (topS 3))) (defBody (iniOf (topS 3))) (defScope (iniOf (topS 3))) .none kvN_1 dcN_1 pmN_1 anN_1 cdN_1 ctN_1), slN_1⟩)
    (cN_1 : PySem.W.codeIn K cdN_1 "InvalidKind.__init__" = true) (kN_1 : PySem.W.keepIn K (.ref fN_1) = true)
    {nm_2 q_2 : Str} {bs_2 : List Value} {sn_2 : List Str} {sub_2 : List Value} {ab_2 : Bool} {col_2 : Option Bool} {dd_2 : Option Addr} {x0_2 x1_2 x2_2 x3_2 x5_2 : Option Value}
    {odN_2 anN_2 : Option Addr} {slN_2 : Array (Option Value)} {ocN_2 kvN_2 dcN_2 pmN_2 cdN_2 ctN_2 : Value}
    (xL_2 : K.lookup C_2 = some (excClassObj nm_2 q_2 C_2 Nn_2 bs_2 [.ref S_0, .type "ValueError", .type "Exception", .type "BaseException", .type "object"] true sn_2 sub_2 ab_2 col_2 dd_2 x0_2 x1_2 x2_2 x3_2 x5_2 "ValueError.__new__"))
    (aN_2 : PySem.W.findIn K (.ref C_2) "__init__" = some (some (.ref fN_2)))
    (lN_2 : K.lookup fN_2 = some ⟨ocN_2, odN_2, .func (PySem.W.fnOf "__init__" "InvalidFilling.__init__" (defArgs (iniOf (topS 4))) (defBody (iniOf (topS 4))) (defScope (iniOf (topS 4))) .none kvN_2 dcN_2 pmN_2 anN_2 cdN_2 ctN_2), slN_2⟩)
    (cN_2 : PySem.W.codeIn K cdN_2 "InvalidFilling.__init__" = true) (kN_2 : PySem.W.keepIn K (.ref fN_2) = true)
    {nm_3 q_3 : Str} {bs_3 : List Value} {sn_3 : List Str} {sub_3 : List Value} {ab_3 : Bool} {col_3 : Option Bool} {dd_3 : Option Addr} {x0_3 x1_3 x2_3 x3_3 x5_3 : Option Value}
    {odN_3 anN_3 : Option Addr} {slN_3 : Array (Option Value)} {ocN_3 kvN_3 dcN_3 pmN_3 cdN_3 ctN_3 : Value}
    (xL_3 : K.lookup C_3 = some (excClassObj nm_3 q_3 C_3 Nn_3 bs_3 [.ref S_0, .type "ValueError", .type "Exception", .type "BaseException", .type "object"] true sn_3 sub_3 ab_3 col_3 dd_3 x0_3 x1_3 x2_3 x3_3 x5_3 "ValueError.__new__"))
    (aN_3 : PySem.W.findIn K (.ref C_3) "__init__" = some (some (.ref fN_3)))
    (lN_3 : K.lookup fN_3 = some ⟨ocN_3, odN_3, .func (PySem.W.fnOf "__init__" "InvalidNumber.__init__" (defArgs (iniOf (topS 5))) (defBody (iniOf (topS 5))) (defScope (iniOf (topS 5))) .none kvN_3 dcN_3 pmN_3 anN_3 cdN_3 ctN_3), slN_3⟩)
    (cN_3 : PySem.W.codeIn K cdN_3 "InvalidNumber.__init__" = true) (kN_3 : PySem.W.keepIn K (.ref fN_3) = true)
    {nm_4 q_4 : Str} {bs_4 : List Value} {sn_4 : List Str} {sub_4 : List Value} {ab_4 : Bool} {col_4 : Option Bool} {dd_4 : Option Addr} {x0_4 x1_4 x2_4 x3_4 x5_4 : Option Value}
    {odN_4 anN_4 : Option Addr} {slN_4 : Array (Option Value)} {ocN_4 kvN_4 dcN_4 pmN_4 cdN_4 ctN_4 : Value}
    (xL_4 : K.lookup C_4 = some (excClassObj nm_4 q_4 C_4 Nn_4 bs_4 [.ref S_0, .type "ValueError", .type "Exception", .type "BaseException", .type "object"] true sn_4 sub_4 ab_4 col_4 dd_4 x0_4 x1_4 x2_4 x3_4 x5_4 "ValueError.__new__"))
    (aN_4 : PySem.W.findIn K (.ref C_4) "__init__" = some (some (.ref fN_4)))
    (lN_4 : K.lookup fN_4 = some ⟨ocN_4, odN_4, .func (PySem.W.fnOf "__init__" "InvalidWord.__init__" (defArgs (iniOf (topS 6))) (defBody (iniOf (topS 6))) (defScope (iniOf (topS 6))) .none kvN_4 dcN_4 pmN_4 anN_4 cdN_4 ctN_4), slN_4⟩)
    (cN_4 : PySem.W.codeIn K cdN_4 "InvalidWord.__init__" = true) (kN_4 : PySem.W.keepIn K (.ref fN_4) = true)
    {nm_5 q_5 : Str} {bs_5 : List Value} {sn_5 : List Str} {sub_5 : List Value} {ab_5 : Bool} {col_5 : Option Bool} {dd_5 : Option Addr} {x0_5 x1_5 x2_5 x3_5 x5_5 : Option Value}
    {odN_5 anN_5 : Option Addr} {slN_5 : Array (Option Value)} {ocN_5 kvN_5 dcN_5 pmN_5 cdN_5 ctN_5 : Value}
    (xL_5 : K.lookup C_5 = some (excClassObj nm_5 q_5 C_5 Nn_5 bs_5 [.ref S_0, .type "ValueError", .type "Exception", .type "BaseException", .type "object"] true sn_5 sub_5 ab_5 col_5 dd_5 x0_5 x1_5 x2_5 x3_5 x5_5 "ValueError.__new__"))
    (aN_5 : PySem.W.findIn K (.ref C_5) "__init__" = some (some (.ref fN_5)))
    (lN_5 : K.lookup fN_5 = some ⟨ocN_5, odN_5, .func (PySem.W.fnOf "__init__" "InvalidProgram.__init__" (defArgs (iniOf (topS 7))) (defBody (iniOf (topS 7))) (defScope (iniOf (topS 7))) .none kvN_5 dcN_5 pmN_5 anN_5 cdN_5 ctN_5), slN_5⟩)
    (cN_5 : PySem.W.codeIn K cdN_5 "InvalidProgram.__init__" = true) (kN_5 : PySem.W.keepIn K (.ref fN_5) = true)
    {nm_6 q_6 : Str} {bs_6 : List Value} {sn_6 : List Str} {sub_6 : List Value} {ab_6 : Bool} {col_6 : Option Bool} {dd_6 : Option Addr} {x0_6 x1_6 x2_6 x3_6 x5_6 : Option Value}
    {odN_6 anN_6 : Option Addr} {slN_6 : Array (Option Value)} {ocN_6 kvN_6 dcN_6 pmN_6 cdN_6 ctN_6 : Value}
    (xL_6 : K.lookup C_6 = some (excClassObj nm_6 q_6 C_6 Nn_6 bs_6 [.ref S_0, .type "ValueError", .type "Exception", .type "BaseException", .type "object"] true sn_6 sub_6 ab_6 col_6 dd_6 x0_6 x1_6 x2_6 x3_6 x5_6 "ValueError.__new__"))
    (aN_6 : PySem.W.findIn K (.ref C_6) "__init__" = some (some (.ref fN_6)))
    (lN_6 : K.lookup fN_6 = some ⟨ocN_6, odN_6, .func (PySem.W.fnOf "__init__" "InvalidText.__init__" (defArgs (iniOf (topS 8))) (defBody (iniOf (topS 8))) (defScope (iniOf (topS 8))) .none kvN_6 dcN_6 pmN_6 anN_6 cdN_6 ctN_6), slN_6⟩)
    (cN_6 : PySem.W.codeIn K cdN_6 "InvalidText.__init__" = true) (kN_6 : PySem.W.keepIn K (.ref fN_6) = true)
    {nm_7 q_7 : Str} {bs_7 : List Value} {sn_7 : List Str} {sub_7 : List Value} {ab_7 : Bool} {col_7 : Option Bool} {dd_7 : Option Addr} {x0_7 x1_7 x2_7 x3_7 x5_7 : Option Value}
    {odN_7 anN_7 : Option Addr} {slN_7 : Array (Option Value)} {ocN_7 kvN_7 dcN_7 pmN_7 cdN_7 ctN_7 : Value}
    (xL_7 : K.lookup C_7 = some (excClassObj nm_7 q_7 C_7 Nn_7 bs_7 [.ref S_0, .type "ValueError", .type "Exception", .type "BaseException", .type "object"] true sn_7 sub_7 ab_7 col_7 dd_7 x0_7 x1_7 x2_7 x3_7 x5_7 "ValueError.__new__"))
    (aN_7 : PySem.W.findIn K (.ref C_7) "__init__" = some (some (.ref fN_7)))
    (lN_7 : K.lookup fN_7 = some ⟨ocN_7, odN_7, .func (PySem.W.fnOf "__init__" "InvalidLengths.__init__" (defArgs (iniOf (topS 9))) (defBody (iniOf (topS 9))) (defScope (iniOf (topS 9))) .none kvN_7 dcN_7 pmN_7 anN_7 cdN_7 ctN_7), slN_7⟩)
    (cN_7 : PySem.W.codeIn K cdN_7 "InvalidLengths.__init__" = true) (kN_7 : PySem.W.keepIn K (.ref fN_7) = true)
    {nm_8 q_8 : Str} {bs_8 : List Value} {sn_8 : List Str} {sub_8 : List Value} {ab_8 : Bool} {col_8 : Option Bool} {dd_8 : Option Addr} {x0_8 x1_8 x2_8 x3_8 x5_8 : Option Value}
    {odN_8 anN_8 : Option Addr} {slN_8 : Array (Option Value)} {ocN_8 kvN_8 dcN_8 pmN_8 cdN_8 ctN_8 : Value}
    (xL_8 : K.lookup C_8 = some (excClassObj nm_8 q_8 C_8 Nn_8 bs_8 [.ref S_0, .type "ValueError", .type "Exception", .type "BaseException", .type "object"] true sn_8 sub_8 ab_8 col_8 dd_8 x0_8 x1_8 x2_8 x3_8 x5_8 "ValueError.__new__"))
    (aN_8 : PySem.W.findIn K (.ref C_8) "__init__" = some (some (.ref fN_8)))
    (lN_8 : K.lookup fN_8 = some ⟨ocN_8, odN_8, .func (PySem.W.fnOf "__init__" "InvalidTable.__init__" (defArgs (iniOf (topS 10))) (defBody (iniOf (topS 10))) (defScope (iniOf (topS 10))) .none kvN_8 dcN_8 pmN_8 anN_8 cdN_8 ctN_8), slN_8⟩)
    (cN_8 : PySem.W.codeIn K cdN_8 "InvalidTable.__init__" = true) (kN_8 : PySem.W.keepIn K (.ref fN_8) = true)
    {nm_9 q_9 : Str} {bs_9 : List Value} {sn_9 : List Str} {sub_9 : List Value} {ab_9 : Bool} {col_9 : Option Bool} {dd_9 : Option Addr} {x0_9 x1_9 x2_9 x3_9 x5_9 : Option Value}
    {odN_9 anN_9 : Option Addr} {slN_9 : Array (Option Value)} {ocN_9 kvN_9 dcN_9 pmN_9 cdN_9 ctN_9 : Value}
    (xL_9 : K.lookup C_9 = some (excClassObj nm_9 q_9 C_9 Nn_9 bs_9 [.ref S_0, .type "ValueError", .type "Exception", .type "BaseException", .type "object"] true sn_9 sub_9 ab_9 col_9 dd_9 x0_9 x1_9 x2_9 x3_9 x5_9 "ValueError.__new__"))
    (aN_9 : PySem.W.findIn K (.ref C_9) "__init__" = some (some (.ref fN_9)))
    (lN_9 : K.lookup fN_9 = some ⟨ocN_9, odN_9, .func (PySem.W.fnOf "__init__" "InvalidRecord.__init__" (defArgs (iniOf (topS 11))) (defBody (iniOf (topS 11))) (defScope (iniOf (topS 11))) .none kvN_9 dcN_9 pmN_9 anN_9 cdN_9 ctN_9), slN_9⟩)
    (cN_9 : PySem.W.codeIn K cdN_9 "InvalidRecord.__init__" = true) (kN_9 : PySem.W.keepIn K (.ref fN_9) = true)
    {nm_10 q_10 : Str} {bs_10 : List Value} {sn_10 : List Str} {sub_10 : List Value} {ab_10 : Bool} {col_10 : Option Bool} {dd_10 : Option Addr} {x0_10 x1_10 x2_10 x3_10 x5_10 : Option Value}
    {odN_10 anN_10 : Option Addr} {slN_10 : Array (Option Value)} {ocN_10 kvN_10 dcN_10 pmN_10 cdN_10 ctN_10 : Value}
    (xL_10 : K.lookup C_10 = some (excClassObj nm_10 q_10 C_10 Nn_10 bs_10 [.ref S_0, .type "ValueError", .type "Exception", .type "BaseException", .type "object"] true sn_10 sub_10 ab_10 col_10 dd_10 x0_10 x1_10 x2_10 x3_10 x5_10 "ValueError.__new__"))
    (aN_10 : PySem.W.findIn K (.ref C_10) "__init__" = some (some (.ref fN_10)))
    (lN_10 : K.lookup fN_10 = some ⟨ocN_10, odN_10, .func (PySem.W.fnOf "__init__" "InvalidCell.__init__" (defArgs (iniOf (topS 12))) (defBody (iniOf (topS 12))) (defScope (iniOf (topS 12))) .none kvN_10 dcN_10 pmN_10 anN_10 cdN_10 ctN_10), slN_10⟩)
    (cN_10 : PySem.W.codeIn K cdN_10 "InvalidCell.__init__" = true) (kN_10 : PySem.W.keepIn K (.ref fN_10) = true)
    {nm_11 q_11 : Str} {bs_11 : List Value} {sn_11 : List Str} {sub_11 : List Value} {ab_11 : Bool} {col_11 : Option Bool} {dd_11 : Option Addr} {x0_11 x1_11 x2_11 x3_11 x5_11 : Option Value}
    {odN_11 anN_11 : Option Addr} {slN_11 : Array (Option Value)} {ocN_11 kvN_11 dcN_11 pmN_11 cdN_11 ctN_11 : Value}
    (xL_11 : K.lookup C_11 = some (excClassObj nm_11 q_11 C_11 Nn_11 bs_11 [.ref S_0, .type "ValueError", .type "Exception", .type "BaseException", .type "object"] true sn_11 sub_11 ab_11 col_11 dd_11 x0_11 x1_11 x2_11 x3_11 x5_11 "ValueError.__new__"))
    (aN_11 : PySem.W.findIn K (.ref C_11) "__init__" = some (some (.ref fN_11)))
    (lN_11 : K.lookup fN_11 = some ⟨ocN_11, odN_11, .func (PySem.W.fnOf "__init__" "InvalidValue.__init__" (defArgs (iniOf (topS 13))) (defBody (iniOf (topS 13))) (defScope (iniOf (topS 13))) .none kvN_11 dcN_11 pmN_11 anN_11 cdN_11 ctN_11), slN_11⟩)
    (cN_11 : PySem.W.codeIn K cdN_11 "InvalidValue.__init__" = true) (kN_11 : PySem.W.keepIn K (.ref fN_11) = true)
    {nm_12 q_12 : Str} {bs_12 : List Value} {sn_12 : List Str} {sub_12 : List Value} {ab_12 : Bool} {col_12 : Option Bool} {dd_12 : Option Addr} {x0_12 x1_12 x2_12 x3_12 x5_12 : Option Value}
    {odN_12 anN_12 : Option Addr} {slN_12 : Array (Option Value)} {ocN_12 kvN_12 dcN_12 pmN_12 cdN_12 ctN_12 : Value}
    (xL_12 : K.lookup C_12 = some (excClassObj nm_12 q_12 C_12 Nn_12 bs_12 [.ref S_0, .type "ValueError", .type "Exception", .type "BaseException", .type "object"] true sn_12 sub_12 ab_12 col_12 dd_12 x0_12 x1_12 x2_12 x3_12 x5_12 "ValueError.__new__"))
    (aN_12 : PySem.W.findIn K (.ref C_12) "__init__" = some (some (.ref fN_12)))
    (lN_12 : K.lookup fN_12 = some ⟨ocN_12, odN_12, .func (PySem.W.fnOf "__init__" "InvalidEdit.__init__" (defArgs (iniOf (topS 14))) (defBody (iniOf (topS 14))) (defScope (iniOf (topS 14))) .none kvN_12 dcN_12 pmN_12 anN_12 cdN_12 ctN_12), slN_12⟩)
    (cN_12 : PySem.W.codeIn K cdN_12 "InvalidEdit.__init__" = true) (kN_12 : PySem.W.keepIn K (.ref fN_12) = true)
    {nm_13 q_13 : Str} {bs_13 : List Value} {sn_13 : List Str} {sub_13 : List Value} {ab_13 : Bool} {col_13 : Option Bool} {dd_13 : Option Addr} {x0_13 x1_13 x2_13 x3_13 x5_13 : Option Value}
    {odN_13 anN_13 : Option Addr} {slN_13 : Array (Option Value)} {ocN_13 kvN_13 dcN_13 pmN_13 cdN_13 ctN_13 : Value}
    (xL_13 : K.lookup C_13 = some (excClassObj nm_13 q_13 C_13 Nn_13 bs_13 [.ref S_0, .type "ValueError", .type "Exception", .type "BaseException", .type "object"] true sn_13 sub_13 ab_13 col_13 dd_13 x0_13 x1_13 x2_13 x3_13 x5_13 "ValueError.__new__"))
    (aN_13 : PySem.W.findIn K (.ref C_13) "__init__" = some (some (.ref fN_13)))
    (lN_13 : K.lookup fN_13 = some ⟨ocN_13, odN_13, .func (PySem.W.fnOf "__init__" "InvalidCommand.__init__" (defArgs (iniOf (topS 15))) (defBody (iniOf (topS 15))) (defScope (iniOf (topS 15))) .none kvN_13 dcN_13 pmN_13 anN_13 cdN_13 ctN_13), slN_13⟩)
    (cN_13 : PySem.W.codeIn K cdN_13 "InvalidCommand.__init__" = true) (kN_13 : PySem.W.keepIn K (.ref fN_13) = true)
    {nm_15 q_15 : Str} {bs_15 : List Value} {sn_15 : List Str} {sub_15 : List Value} {ab_15 : Bool} {col_15 : Option Bool} {dd_15 : Option Addr} {x0_15 x1_15 x2_15 x3_15 x5_15 : Option Value}
    {odN_15 anN_15 : Option Addr} {slN_15 : Array (Option Value)} {ocN_15 kvN_15 dcN_15 pmN_15 cdN_15 ctN_15 : Value}
    (xL_15 : K.lookup C_15 = some (excClassObj nm_15 q_15 C_15 Nn_15 bs_15 [.ref S_1, .type "LookupError", .type "Exception", .type "BaseException", .type "object"] true sn_15 sub_15 ab_15 col_15 dd_15 x0_15 x1_15 x2_15 x3_15 x5_15 "LookupError.__new__"))
    (aN_15 : PySem.W.findIn K (.ref C_15) "__init__" = some (some (.ref fN_15)))
    (lN_15 : K.lookup fN_15 = some ⟨ocN_15, odN_15, .func (PySem.W.fnOf "__init__" "UnknownName.__init__" (defArgs (iniOf (topS 18))) (defBody (iniOf (topS 18))) (defScope (iniOf (topS 18))) .none kvN_15 dcN_15 pmN_15 anN_15 cdN_15 ctN_15), slN_15⟩)
    (cN_15 : PySem.W.codeIn K cdN_15 "UnknownName.__init__" = true) (kN_15 : PySem.W.keepIn K (.ref fN_15) = true)
    {nm_17 q_17 : Str} {bs_17 : List Value} {sn_17 : List Str} {sub_17 : List Value} {ab_17 : Bool} {col_17 : Option Bool} {dd_17 : Option Addr} {x0_17 x1_17 x2_17 x3_17 x5_17 : Option Value}
    {odN_17 anN_17 : Option Addr} {slN_17 : Array (Option Value)} {ocN_17 kvN_17 dcN_17 pmN_17 cdN_17 ctN_17 : Value}
    (xL_17 : K.lookup C_17 = some (excClassObj nm_17 q_17 C_17 Nn_17 bs_17 [.ref S_1, .type "LookupError", .type "Exception", .type "BaseException", .type "object"] true sn_17 sub_17 ab_17 col_17 dd_17 x0_17 x1_17 x2_17 x3_17 x5_17 "LookupError.__new__"))
    (aN_17 : PySem.W.findIn K (.ref C_17) "__init__" = some (some (.ref fN_17)))
    (lN_17 : K.lookup fN_17 = some ⟨ocN_17, odN_17, .func (PySem.W.fnOf "__init__" "ValueTaken.__init__" (defArgs (iniOf (topS 20))) (defBody (iniOf (topS 20))) (defScope (iniOf (topS 20))) .none kvN_17 dcN_17 pmN_17 anN_17 cdN_17 ctN_17), slN_17⟩)
    (cN_17 : PySem.W.codeIn K cdN_17 "ValueTaken.__init__" = true) (kN_17 : PySem.W.keepIn K (.ref fN_17) = true)
    {nm_19 q_19 : Str} {bs_19 : List Value} {sn_19 : List Str} {sub_19 : List Value} {ab_19 : Bool} {col_19 : Option Bool} {dd_19 : Option Addr} {x0_19 x1_19 x2_19 x3_19 x5_19 : Option Value}
    {odN_19 anN_19 : Option Addr} {slN_19 : Array (Option Value)} {ocN_19 kvN_19 dcN_19 pmN_19 cdN_19 ctN_19 : Value}
    (xL_19 : K.lookup C_19 = some (excClassObj nm_19 q_19 C_19 Nn_19 bs_19 [.ref S_2, .type "ArithmeticError", .type "Exception", .type "BaseException", .type "object"] true sn_19 sub_19 ab_19 col_19 dd_19 x0_19 x1_19 x2_19 x3_19 x5_19 "ArithmeticError.__new__"))
    (aN_19 : PySem.W.findIn K (.ref C_19) "__init__" = some (some (.ref fN_19)))
    (lN_19 : K.lookup fN_19 = some ⟨ocN_19, odN_19, .func (PySem.W.fnOf "__init__" "TooManyCells.__init__" (defArgs (iniOf (topS 23))) (defBody (iniOf (topS 23))) (defScope (iniOf (topS 23))) .none kvN_19 dcN_19 pmN_19 anN_19 cdN_19 ctN_19), slN_19⟩)
    (cN_19 : PySem.W.codeIn K cdN_19 "TooManyCells.__init__" = true) (kN_19 : PySem.W.keepIn K (.ref fN_19) = true)
    {nm_20 q_20 : Str} {bs_20 : List Value} {sn_20 : List Str} {sub_20 : List Value} {ab_20 : Bool} {col_20 : Option Bool} {dd_20 : Option Addr} {x0_20 x1_20 x2_20 x3_20 x5_20 : Option Value}
    {odN_20 anN_20 : Option Addr} {slN_20 : Array (Option Value)} {ocN_20 kvN_20 dcN_20 pmN_20 cdN_20 ctN_20 : Value}
    (xL_20 : K.lookup C_20 = some (excClassObj nm_20 q_20 C_20 Nn_20 bs_20 [.ref S_2, .type "ArithmeticError", .type "Exception", .type "BaseException", .type "object"] true sn_20 sub_20 ab_20 col_20 dd_20 x0_20 x1_20 x2_20 x3_20 x5_20 "ArithmeticError.__new__"))
    (aN_20 : PySem.W.findIn K (.ref C_20) "__init__" = some (some (.ref fN_20)))
    (lN_20 : K.lookup fN_20 = some ⟨ocN_20, odN_20, .func (PySem.W.fnOf "__init__" "TooManyEdits.__init__" (defArgs (iniOf (topS 24))) (defBody (iniOf (topS 24))) (defScope (iniOf (topS 24))) .none kvN_20 dcN_20 pmN_20 anN_20 cdN_20 ctN_20), slN_20⟩)
    (cN_20 : PySem.W.codeIn K cdN_20 "TooManyEdits.__init__" = true) (kN_20 : PySem.W.keepIn K (.ref fN_20) = true)
    (hkit : kitB K [C_0, C_1, C_2, C_3, C_4, C_5, C_6, C_7, C_8, C_9, C_10, C_11, C_12, C_13, C_14, C_15, C_16, C_17, C_18, C_19, C_20] [S_0, S_1, S_2] = true) (hkit4 : kit84B K [C_0, C_1, C_2, C_3, C_4, C_5, C_6, C_7, C_8, C_9, C_10, C_11, C_12, C_13, C_14, C_15, C_16, C_17, C_18, C_19, C_20] = true)
    (hini : (iniB K C_0 fN_0 "index" && iniB K C_1 fN_1 "kind" && iniB K C_2 fN_2 "index" && iniB K C_3 fN_3 "number" && iniB K C_4 fN_4 "index" && iniB K C_5 fN_5 "index" && iniB K C_6 fN_6 "text" && iniB K C_7 fN_7 "index" && iniB K C_8 fN_8 "index" && iniB K C_9 fN_9 "index" && iniB K C_10 fN_10 "cell" && iniB K C_11 fN_11 "value" && iniB K C_12 fN_12 "index" && iniB K C_13 fN_13 "line" && iniB K C_15 fN_15 "name" && iniB K C_17 fN_17 "value" && iniB K C_19 fN_19 "count" && iniB K C_20 fN_20 "count") = true)
    (hbare : ((PySem.W.keepIn K (.ref C_14) && PySem.W.excIn K C_14 [.type "LookupError", .type "Exception", .type "BaseException", .type "object"] "LookupError.__new__") && (PySem.W.keepIn K (.ref C_16) && PySem.W.excIn K C_16 [.type "LookupError", .type "Exception", .type "BaseException", .type "object"] "LookupError.__new__") && (PySem.W.keepIn K (.ref C_18) && PySem.W.excIn K C_18 [.type "LookupError", .type "Exception", .type "BaseException", .type "object"] "LookupError.__new__")) = true)
    : ∃ fd : FuncData, (∀ (s : Shared) (v : Value), BindsTo s fd ⟨[v], []⟩ [("_law_script", v)]) ∧ ∀ base : Heap, K.In base → base.Ns mainGlobals mg → FnG l.prog w K mg base 5 fa fd ["_law_script"] (spLaw K) := by
  have e := hfa.symm.trans (PySem.W.mg_of X G a8)
  cases e
  have F0 := fun_mk (st := sCell) l0 c0 k0
  have m0 := PySem.W.mg_of X G a0
  have F1 := fun_mk (st := sPool) l1 c1 k1
  have m1 := PySem.W.mg_of X G a1
  have F2 := fun_mk (st := sDraw) l2 c2 k2
  have m2 := PySem.W.mg_of X G a2
  have F3 := fun_mk (st := sLKind) l3 c3 k3
  have m3 := PySem.W.mg_of X G a3
  have F4 := fun_mk (st := sFirst84) l4 c4 k4
  have m4 := PySem.W.mg_of X G a4
  have F5 := fun_mk (st := sSecond84) l5 c5 k5
  have m5 := PySem.W.mg_of X G a5
  have F6 := fun_mk (st := sThird84) l6 c6 k6
  have m6 := PySem.W.mg_of X G a6
  have F7 := fun_mk (st := sRight) l7 c7 k7
  have m7 := PySem.W.mg_of X G a7
  have F8 := fun_mk (st := sLaw) l8 c8 k8
  have m8 := PySem.W.mg_of X G a8
  have n_len := PySem.W.mg_none_of X G z0
  have n_abs := PySem.W.mg_none_of X G z1
  have n_divmod := PySem.W.mg_none_of X G z2
  have n_isinstance := PySem.W.mg_none_of X G z3
  have n_ValueError := PySem.W.mg_none_of X G z4
  have n_LookupError := PySem.W.mg_none_of X G z5
  have n_ArithmeticError := PySem.W.mg_none_of X G z6
  have n_repr := PySem.W.mg_none_of X G z7
  have n_all := PySem.W.mg_none_of X G z8
  have n_any := PySem.W.mg_none_of X G z9
  have n_list := PySem.W.mg_none_of X G z10
  have n_range := PySem.W.mg_none_of X G z11
  have n_KeyError := PySem.W.mg_none_of X G z12
  have n_IndexError := PySem.W.mg_none_of X G z13
  have n_OverflowError := PySem.W.mg_none_of X G z14
  have n_ZeroDivisionError := PySem.W.mg_none_of X G z15
  have n_max := PySem.W.mg_none_of X G z16
  have n_min := PySem.W.mg_none_of X G z17
  have c_MOST_CELLS := PySem.W.mg_of X G w0
  have c_SMALL := PySem.W.mg_of X G w1
  have c_MOST_INDEX := PySem.W.mg_of X G w2
  have c_MOST_VALUE := PySem.W.mg_of X G w3
  have c_MOST_LETTERS := PySem.W.mg_of X G w4
  have c_MOST_TIMES := PySem.W.mg_of X G w5
  have c_MOST_EDITS := PySem.W.mg_of X G w6
  have b0 := F0.binds (ps := ["_law_script", "_law_k"]) fun _ _ _ _ _ _ us hl => match us, hl with | [_, _], _ => rfl
  have b1 := F1.binds (ps := ["_law_figure"]) fun _ _ _ _ _ _ us hl => match us, hl with | [_], _ => rfl
  have b2 := F2.binds (ps := ["_law_pool_here", "_law_most"]) fun _ _ _ _ _ _ us hl => match us, hl with | [_, _], _ => rfl
  have b3 := F3.binds (ps := ["_law_e"]) fun _ _ _ _ _ _ us hl => match us, hl with | [_], _ => rfl
  have b4 := F4.binds (ps := ["_law_thing"]) fun _ _ _ _ _ _ us hl => match us, hl with | [_], _ => rfl
  have b5 := F5.binds (ps := ["_law_thing"]) fun _ _ _ _ _ _ us hl => match us, hl with | [_], _ => rfl
  have b6 := F6.binds (ps := ["_law_thing"]) fun _ _ _ _ _ _ us hl => match us, hl with | [_], _ => rfl
  have b7 := F7.binds (ps := ["_law_pool_here"]) fun _ _ _ _ _ _ us hl => match us, hl with | [_], _ => rfl
  have JK : Kinds K mg (fun i => ([C_0, C_1, C_2, C_3, C_4, C_5, C_6, C_7, C_8, C_9, C_10, C_11, C_12, C_13, C_14, C_15, C_16, C_17, C_18, C_19, C_20] : List Addr).getD i 0) (fun i => ([S_0, S_1, S_2] : List Addr).getD i 0) := {
    m0 := PySem.W.mg_of X G aC_0
    m1 := PySem.W.mg_of X G aC_1
    m2 := PySem.W.mg_of X G aC_2
    m3 := PySem.W.mg_of X G aC_3
    m4 := PySem.W.mg_of X G aC_4
    m5 := PySem.W.mg_of X G aC_5
    m6 := PySem.W.mg_of X G aC_6
    m7 := PySem.W.mg_of X G aC_7
    m8 := PySem.W.mg_of X G aC_8
    m9 := PySem.W.mg_of X G aC_9
    m10 := PySem.W.mg_of X G aC_10
    m11 := PySem.W.mg_of X G aC_11
    m12 := PySem.W.mg_of X G aC_12
    m13 := PySem.W.mg_of X G aC_13
    m14 := PySem.W.mg_of X G aC_14
    m15 := PySem.W.mg_of X G aC_15
    m16 := PySem.W.mg_of X G aC_16
    m17 := PySem.W.mg_of X G aC_17
    m18 := PySem.W.mg_of X G aC_18
    m19 := PySem.W.mg_of X G aC_19
    m20 := PySem.W.mg_of X G aC_20
    b0 := PySem.W.mg_of X G aS_0
    b1 := PySem.W.mg_of X G aS_1
    b2 := PySem.W.mg_of X G aS_2
    kit := fun i hi => (kitB_at hkit hi).2.1
    kit0 := fun i hi => (kitB_at hkit hi).2.2.1
    kit1 := fun i hi => (kitB_at hkit hi).2.2.2.1
    kit2 := fun i hi => (kitB_at hkit hi).2.2.2.2.1
    own0 := fun i hi => (kitB_at hkit hi).2.2.2.2.2.1
    own1 := fun i hi => (kitB_at hkit hi).2.2.2.2.2.2.1
    own2 := fun i hi => (kitB_at hkit hi).2.2.2.2.2.2.2
    ec := fun i hi => (kitB_at hkit hi).1 }
  have J84 : Kinds84 K (fun i => ([C_0, C_1, C_2, C_3, C_4, C_5, C_6, C_7, C_8, C_9, C_10, C_11, C_12, C_13, C_14, C_15, C_16, C_17, C_18, C_19, C_20] : List Addr).getD i 0) := kit84_ok hkit4
  have JE := JK.ec
  simp only [Bool.and_eq_true] at hini hbare
  have Fi_0 := fun_mk (st := iniOf (topS 2)) lN_0 cN_0 kN_0
  have Fi_1 := fun_mk (st := iniOf (topS 3)) lN_1 cN_1 kN_1
  have Fi_2 := fun_mk (st := iniOf (topS 4)) lN_2 cN_2 kN_2
  have Fi_3 := fun_mk (st := iniOf (topS 5)) lN_3 cN_3 kN_3
  have Fi_4 := fun_mk (st := iniOf (topS 6)) lN_4 cN_4 kN_4
  have Fi_5 := fun_mk (st := iniOf (topS 7)) lN_5 cN_5 kN_5
  have Fi_6 := fun_mk (st := iniOf (topS 8)) lN_6 cN_6 kN_6
  have Fi_7 := fun_mk (st := iniOf (topS 9)) lN_7 cN_7 kN_7
  have Fi_8 := fun_mk (st := iniOf (topS 10)) lN_8 cN_8 kN_8
  have Fi_9 := fun_mk (st := iniOf (topS 11)) lN_9 cN_9 kN_9
  have Fi_10 := fun_mk (st := iniOf (topS 12)) lN_10 cN_10 kN_10
  have Fi_11 := fun_mk (st := iniOf (topS 13)) lN_11 cN_11 kN_11
  have Fi_12 := fun_mk (st := iniOf (topS 14)) lN_12 cN_12 kN_12
  have Fi_13 := fun_mk (st := iniOf (topS 15)) lN_13 cN_13 kN_13
  have Fi_15 := fun_mk (st := iniOf (topS 18)) lN_15 cN_15 kN_15
  have Fi_17 := fun_mk (st := iniOf (topS 20)) lN_17 cN_17 kN_17
  have Fi_19 := fun_mk (st := iniOf (topS 23)) lN_19 cN_19 kN_19
  have Fi_20 := fun_mk (st := iniOf (topS 24)) lN_20 cN_20 kN_20
  refine ⟨PySem.W.fnOf "law" "law" (defArgs sLaw) (defBody sLaw) (defScope sLaw) .none kV8 dc8 pm8 an8 cd8 ct8, fun s v => .of_eq rfl, fun base _ _ => ?_⟩
  have JC : XCls l.prog w K mg base (fun i => ([C_0, C_1, C_2, C_3, C_4, C_5, C_6, C_7, C_8, C_9, C_10, C_11, C_12, C_13, C_14, C_15, C_16, C_17, C_18, C_19, C_20] : List Addr).getD i 0) := {
    x0 := xini_of PySem.F.excBase_ValueError PySem.F.store_ValueError (by decide +kernel) (PySem.W.mg_of X G aC_0) xL_0 hini.1.1.1.1.1.1.1.1.1.1.1.1.1.1.1.1.1 (JE 0 (by decide)) Fi_0 (ok_ini Fi_0 ⟨rfl, rfl, rfl, by decide +kernel, rfl, by decide +kernel, by decide +kernel⟩ rfl rfl rfl (by decide) (by decide)) (fun _ _ _ _ _ _ _ _ => rfl) (fun _ _ _ _ _ _ _ _ => rfl)
    x1 := xini_of PySem.F.excBase_ValueError PySem.F.store_ValueError (by decide +kernel) (PySem.W.mg_of X G aC_1) xL_1 hini.1.1.1.1.1.1.1.1.1.1.1.1.1.1.1.1.2 (JE 1 (by decide)) Fi_1 (ok_ini Fi_1 ⟨rfl, rfl, rfl, by decide +kernel, rfl, by decide +kernel, by decide +kernel⟩ rfl rfl rfl (by decide) (by decide)) (fun _ _ _ _ _ _ _ _ => rfl) (fun _ _ _ _ _ _ _ _ => rfl)
    x2 := xini_of PySem.F.excBase_ValueError PySem.F.store_ValueError (by decide +kernel) (PySem.W.mg_of X G aC_2) xL_2 hini.1.1.1.1.1.1.1.1.1.1.1.1.1.1.1.2 (JE 2 (by decide)) Fi_2 (ok_ini Fi_2 ⟨rfl, rfl, rfl, by decide +kernel, rfl, by decide +kernel, by decide +kernel⟩ rfl rfl rfl (by decide) (by decide)) (fun _ _ _ _ _ _ _ _ => rfl) (fun _ _ _ _ _ _ _ _ => rfl)
    x3 := xini_of PySem.F.excBase_ValueError PySem.F.store_ValueError (by decide +kernel) (PySem.W.mg_of X G aC_3) xL_3 hini.1.1.1.1.1.1.1.1.1.1.1.1.1.1.2 (JE 3 (by decide)) Fi_3 (ok_ini Fi_3 ⟨rfl, rfl, rfl, by decide +kernel, rfl, by decide +kernel, by decide +kernel⟩ rfl rfl rfl (by decide) (by decide)) (fun _ _ _ _ _ _ _ _ => rfl) (fun _ _ _ _ _ _ _ _ => rfl)
    x4 := xini_of PySem.F.excBase_ValueError PySem.F.store_ValueError (by decide +kernel) (PySem.W.mg_of X G aC_4) xL_4 hini.1.1.1.1.1.1.1.1.1.1.1.1.1.2 (JE 4 (by decide)) Fi_4 (ok_ini Fi_4 ⟨rfl, rfl, rfl, by decide +kernel, rfl, by decide +kernel, by decide +kernel⟩ rfl rfl rfl (by decide) (by decide)) (fun _ _ _ _ _ _ _ _ => rfl) (fun _ _ _ _ _ _ _ _ => rfl)
    x5 := xini_of PySem.F.excBase_ValueError PySem.F.store_ValueError (by decide +kernel) (PySem.W.mg_of X G aC_5) xL_5 hini.1.1.1.1.1.1.1.1.1.1.1.1.2 (JE 5 (by decide)) Fi_5 (ok_ini Fi_5 ⟨rfl, rfl, rfl, by decide +kernel, rfl, by decide +kernel, by decide +kernel⟩ rfl rfl rfl (by decide) (by decide)) (fun _ _ _ _ _ _ _ _ => rfl) (fun _ _ _ _ _ _ _ _ => rfl)
    x6 := xini_of PySem.F.excBase_ValueError PySem.F.store_ValueError (by decide +kernel) (PySem.W.mg_of X G aC_6) xL_6 hini.1.1.1.1.1.1.1.1.1.1.1.2 (JE 6 (by decide)) Fi_6 (ok_ini Fi_6 ⟨rfl, rfl, rfl, by decide +kernel, rfl, by decide +kernel, by decide +kernel⟩ rfl rfl rfl (by decide) (by decide)) (fun _ _ _ _ _ _ _ _ => rfl) (fun _ _ _ _ _ _ _ _ => rfl)
    x7 := xini_of PySem.F.excBase_ValueError PySem.F.store_ValueError (by decide +kernel) (PySem.W.mg_of X G aC_7) xL_7 hini.1.1.1.1.1.1.1.1.1.1.2 (JE 7 (by decide)) Fi_7 (ok_ini Fi_7 ⟨rfl, rfl, rfl, by decide +kernel, rfl, by decide +kernel, by decide +kernel⟩ rfl rfl rfl (by decide) (by decide)) (fun _ _ _ _ _ _ _ _ => rfl) (fun _ _ _ _ _ _ _ _ => rfl)
    x8 := xini_of PySem.F.excBase_ValueError PySem.F.store_ValueError (by decide +kernel) (PySem.W.mg_of X G aC_8) xL_8 hini.1.1.1.1.1.1.1.1.1.2 (JE 8 (by decide)) Fi_8 (ok_ini Fi_8 ⟨rfl, rfl, rfl, by decide +kernel, rfl, by decide +kernel, by decide +kernel⟩ rfl rfl rfl (by decide) (by decide)) (fun _ _ _ _ _ _ _ _ => rfl) (fun _ _ _ _ _ _ _ _ => rfl)
    x9 := xini_of PySem.F.excBase_ValueError PySem.F.store_ValueError (by decide +kernel) (PySem.W.mg_of X G aC_9) xL_9 hini.1.1.1.1.1.1.1.1.2 (JE 9 (by decide)) Fi_9 (ok_ini Fi_9 ⟨rfl, rfl, rfl, by decide +kernel, rfl, by decide +kernel, by decide +kernel⟩ rfl rfl rfl (by decide) (by decide)) (fun _ _ _ _ _ _ _ _ => rfl) (fun _ _ _ _ _ _ _ _ => rfl)
    x10 := xini_of PySem.F.excBase_ValueError PySem.F.store_ValueError (by decide +kernel) (PySem.W.mg_of X G aC_10) xL_10 hini.1.1.1.1.1.1.1.2 (JE 10 (by decide)) Fi_10 (ok_ini Fi_10 ⟨rfl, rfl, rfl, by decide +kernel, rfl, by decide +kernel, by decide +kernel⟩ rfl rfl rfl (by decide) (by decide)) (fun _ _ _ _ _ _ _ _ => rfl) (fun _ _ _ _ _ _ _ _ => rfl)
    x11 := xini_of PySem.F.excBase_ValueError PySem.F.store_ValueError (by decide +kernel) (PySem.W.mg_of X G aC_11) xL_11 hini.1.1.1.1.1.1.2 (JE 11 (by decide)) Fi_11 (ok_ini Fi_11 ⟨rfl, rfl, rfl, by decide +kernel, rfl, by decide +kernel, by decide +kernel⟩ rfl rfl rfl (by decide) (by decide)) (fun _ _ _ _ _ _ _ _ => rfl) (fun _ _ _ _ _ _ _ _ => rfl)
    x12 := xini_of PySem.F.excBase_ValueError PySem.F.store_ValueError (by decide +kernel) (PySem.W.mg_of X G aC_12) xL_12 hini.1.1.1.1.1.2 (JE 12 (by decide)) Fi_12 (ok_ini Fi_12 ⟨rfl, rfl, rfl, by decide +kernel, rfl, by decide +kernel, by decide +kernel⟩ rfl rfl rfl (by decide) (by decide)) (fun _ _ _ _ _ _ _ _ => rfl) (fun _ _ _ _ _ _ _ _ => rfl)
    x13 := xini_of PySem.F.excBase_ValueError PySem.F.store_ValueError (by decide +kernel) (PySem.W.mg_of X G aC_13) xL_13 hini.1.1.1.1.2 (JE 13 (by decide)) Fi_13 (ok_ini Fi_13 ⟨rfl, rfl, rfl, by decide +kernel, rfl, by decide +kernel, by decide +kernel⟩ rfl rfl rfl (by decide) (by decide)) (fun _ _ _ _ _ _ _ _ => rfl) (fun _ _ _ _ _ _ _ _ => rfl)
    x14 := ⟨PySem.W.mg_of X G aC_14, hbare.1.1.1, JE 14 (by decide), _, _, _, _, PySem.F.excBase_LookupError, hbare.1.1.2⟩
    x15 := xini_of PySem.F.excBase_LookupError PySem.F.store_LookupError (by decide +kernel) (PySem.W.mg_of X G aC_15) xL_15 hini.1.1.1.2 (JE 15 (by decide)) Fi_15 (ok_ini Fi_15 ⟨rfl, rfl, rfl, by decide +kernel, rfl, by decide +kernel, by decide +kernel⟩ rfl rfl rfl (by decide) (by decide)) (fun _ _ _ _ _ _ _ _ => rfl) (fun _ _ _ _ _ _ _ _ => rfl)
    x16 := ⟨PySem.W.mg_of X G aC_16, hbare.1.2.1, JE 16 (by decide), _, _, _, _, PySem.F.excBase_LookupError, hbare.1.2.2⟩
    x17 := xini_of PySem.F.excBase_LookupError PySem.F.store_LookupError (by decide +kernel) (PySem.W.mg_of X G aC_17) xL_17 hini.1.1.2 (JE 17 (by decide)) Fi_17 (ok_ini Fi_17 ⟨rfl, rfl, rfl, by decide +kernel, rfl, by decide +kernel, by decide +kernel⟩ rfl rfl rfl (by decide) (by decide)) (fun _ _ _ _ _ _ _ _ => rfl) (fun _ _ _ _ _ _ _ _ => rfl)
    x18 := ⟨PySem.W.mg_of X G aC_18, hbare.2.1, JE 18 (by decide), _, _, _, _, PySem.F.excBase_LookupError, hbare.2.2⟩
    x19 := xini_of PySem.F.excBase_ArithmeticError PySem.F.store_ArithmeticError (by decide +kernel) (PySem.W.mg_of X G aC_19) xL_19 hini.1.2 (JE 19 (by decide)) Fi_19 (ok_ini Fi_19 ⟨rfl, rfl, rfl, by decide +kernel, rfl, by decide +kernel, by decide +kernel⟩ rfl rfl rfl (by decide) (by decide)) (fun _ _ _ _ _ _ _ _ => rfl) (fun _ _ _ _ _ _ _ _ => rfl)
    x20 := xini_of PySem.F.excBase_ArithmeticError PySem.F.store_ArithmeticError (by decide +kernel) (PySem.W.mg_of X G aC_20) xL_20 hini.2 (JE 20 (by decide)) Fi_20 (ok_ini Fi_20 ⟨rfl, rfl, rfl, by decide +kernel, rfl, by decide +kernel, by decide +kernel⟩ rfl rfl rfl (by decide) (by decide)) (fun _ _ _ _ _ _ _ _ => rfl) (fun _ _ _ _ _ _ _ _ => rfl) }
  have G0 := ok_cell (P := l.prog) (w := w) (mg := mg) (base := base) F0 n_len
  have G1 := ok_pool (P := l.prog) (w := w) (mg := mg) (base := base) F1 n_abs
  have G2 := ok_draw (P := l.prog) (w := w) (mg := mg) (base := base) F2 n_divmod
  have G3 := ok_lkind (P := l.prog) (w := w) (mg := mg) (base := base) F3 JK n_isinstance n_ValueError n_LookupError n_ArithmeticError
  have G4 := ok_first84 (P := l.prog) (w := w) (mg := mg) (base := base) F4 JC
  have G5 := ok_second84 (P := l.prog) (w := w) (mg := mg) (base := base) F5 JC
  have G6 := ok_third84 (P := l.prog) (w := w) (mg := mg) (base := base) F6 JC
  have G7 := ok_right84 (P := l.prog) (w := w) (mg := mg) (base := base) F7 G2 b2 m2 k2 G4 b4 m4 k4 G5 b5 m5 k5 G6 b6 m6 k6 G3 b3 m3 k3 JC J84 n_repr n_len n_all n_any n_isinstance n_list n_range n_KeyError n_IndexError n_OverflowError n_ZeroDivisionError
  exact ok_law84 F8 G0 b0 m0 k0 G1 b1 m1 k1 G7 b7 m7 k7 c_MOST_CELLS c_SMALL c_MOST_INDEX c_MOST_VALUE c_MOST_LETTERS c_MOST_TIMES c_MOST_EDITS n_all n_range n_max n_min n_len
end KS
open PySem PySem.W PyProof.Rows
set_option maxHeartbeats 0 in
theorem PySem.Challenge.cw_keepsort_k84_limits_and_errors_holds : PySem.Challenge.rw_keepsort_k84_limits_and_errors.Holds := by
  w_on; o_law; k_head; (case hw => w_witness2)
  k_fill
  refine KS.walk_ofG (l := PySem.Challenge.rw_keepsort_k84_limits_and_errors) (n := 63) (k := 5) (x := "_law_script") (sp := fun w => KS.spLaw _) rfl (by decide) rfl ⟨rfl, by decide, by decide⟩ (fun w h Y => PySem.W.kIn_of Y) ?F (fun _ _ a ns hl _ hS => ⟨a, ns, rfl, hS, hl, fun _ => rfl⟩)
  case F =>
    intro w mg fa h KX G hmg
    refine' KS.all_mk KX G hmg ?a0 ?l0 ?c0 ?k0 ?a1 ?l1 ?c1 ?k1 ?a2 ?l2 ?c2 ?k2 ?a3 ?l3 ?c3 ?k3 ?a4 ?l4 ?c4 ?k4 ?a5 ?l5 ?c5 ?k5 ?a6 ?l6 ?c6 ?k6 ?a7 ?l7 ?c7 ?k7 ?a8 ?l8 ?c8 ?k8 ?z0 ?z1 ?z2 ?z3 ?z4 ?z5 ?z6 ?z7 ?z8 ?z9 ?z10 ?z11 ?z12 ?z13 ?z14 ?z15 ?z16 ?z17 ?w0 ?w1 ?w2 ?w3 ?w4 ?w5 ?w6 ?aC_0 ?aC_1 ?aC_2 ?aC_3 ?aC_4 ?aC_5 ?aC_6 ?aC_7 ?aC_8 ?aC_9 ?aC_10 ?aC_11 ?aC_12 ?aC_13 ?aC_14 ?aC_15 ?aC_16 ?aC_17 ?aC_18 ?aC_19 ?aC_20 ?aS_0 ?aS_1 ?aS_2 ?xL_0 ?aN_0 ?lN_0 ?cN_0 ?kN_0 ?xL_1 ?aN_1 ?lN_1 ?cN_1 ?kN_1 ?xL_2 ?aN_2 ?lN_2 ?cN_2 ?kN_2 ?xL_3 ?aN_3 ?lN_3 ?cN_3 ?kN_3 ?xL_4 ?aN_4 ?lN_4 ?cN_4 ?kN_4 ?xL_5 ?aN_5 ?lN_5 ?cN_5 ?kN_5 ?xL_6 ?aN_6 ?lN_6 ?cN_6 ?kN_6 ?xL_7 ?aN_7 ?lN_7 ?cN_7 ?kN_7 ?xL_8 ?aN_8 ?lN_8 ?cN_8 ?kN_8 ?xL_9 ?aN_9 ?lN_9 ?cN_9 ?kN_9 ?xL_10 ?aN_10 ?lN_10 ?cN_10 ?kN_10 ?xL_11 ?aN_11 ?lN_11 ?cN_11 ?kN_11 ?xL_12 ?aN_12 ?lN_12 ?cN_12 ?kN_12 ?xL_13 ?aN_13 ?lN_13 ?cN_13 ?kN_13 ?xL_15 ?aN_15 ?lN_15 ?cN_15 ?kN_15 ?xL_17 ?aN_17 ?lN_17 ?cN_17 ?kN_17 ?xL_19 ?aN_19 ?lN_19 ?cN_19 ?kN_19 ?xL_20 ?aN_20 ?lN_20 ?cN_20 ?kN_20 ?hkit ?hkit4 ?hini ?hbare
    (case a0 => k_is)
    (case l0 => k_is)
    (case c0 => k_is)
    (case k0 => k_is)
    (case a1 => k_is)
    (case l1 => k_is)
    (case c1 => k_is)
    (case k1 => k_is)
    (case a2 => k_is)
    (case l2 => k_is)
    (case c2 => k_is)
    (case k2 => k_is)
    (case a3 => k_is)
    (case l3 => k_is)
    (case c3 => k_is)
    (case k3 => k_is)
    (case a4 => k_is)
    (case l4 => k_is)
    (case c4 => k_is)
    (case k4 => k_is)
    (case a5 => k_is)
    (case l5 => k_is)
    (case c5 => k_is)
    (case k5 => k_is)
    (case a6 => k_is)
    (case l6 => k_is)
    (case c6 => k_is)
    (case k6 => k_is)
    (case a7 => k_is)
    (case l7 => k_is)
    (case c7 => k_is)
    (case k7 => k_is)
    (case a8 => k_is)
    (case l8 => k_is)
    (case c8 => k_is)
    (case k8 => k_is)
    (case z0 => k_is)
    (case z1 => k_is)
    (case z2 => k_is)
    (case z3 => k_is)
    (case z4 => k_is)
    (case z5 => k_is)
    (case z6 => k_is)
    (case z7 => k_is)
    (case z8 => k_is)
    (case z9 => k_is)
    (case z10 => k_is)
    (case z11 => k_is)
    (case z12 => k_is)
    (case z13 => k_is)
    (case z14 => k_is)
    (case z15 => k_is)
    (case z16 => k_is)
    (case z17 => k_is)
    (case w0 => k_is)
    (case w1 => k_is)
    (case w2 => k_is)
    (case w3 => k_is)
    (case w4 => k_is)
    (case w5 => k_is)
    (case w6 => k_is)
    (case aC_0 => k_is)
    (case aC_1 => k_is)
    (case aC_2 => k_is)
    (case aC_3 => k_is)
    (case aC_4 => k_is)
    (case aC_5 => k_is)
    (case aC_6 => k_is)
    (case aC_7 => k_is)
    (case aC_8 => k_is)
    (case aC_9 => k_is)
    (case aC_10 => k_is)
    (case aC_11 => k_is)
    (case aC_12 => k_is)
    (case aC_13 => k_is)
    (case aC_14 => k_is)
    (case aC_15 => k_is)
    (case aC_16 => k_is)
    (case aC_17 => k_is)
    (case aC_18 => k_is)
    (case aC_19 => k_is)
    (case aC_20 => k_is)
    (case aS_0 => k_is)
    (case aS_1 => k_is)
    (case aS_2 => k_is)
    (case xL_0 => k_is)
    (case aN_0 => k_is)
    (case lN_0 => k_is)
    (case cN_0 => k_is)
    (case kN_0 => k_is)
    (case xL_1 => k_is)
    (case aN_1 => k_is)
    (case lN_1 => k_is)
    (case cN_1 => k_is)
    (case kN_1 => k_is)
    (case xL_2 => k_is)
    (case aN_2 => k_is)
    (case lN_2 => k_is)
    (case cN_2 => k_is)
    (case kN_2 => k_is)
    (case xL_3 => k_is)
    (case aN_3 => k_is)
    (case lN_3 => k_is)
    (case cN_3 => k_is)
    (case kN_3 => k_is)
    (case xL_4 => k_is)
    (case aN_4 => k_is)
    (case lN_4 => k_is)
    (case cN_4 => k_is)
    (case kN_4 => k_is)
    (case xL_5 => k_is)
    (case aN_5 => k_is)
    (case lN_5 => k_is)
    (case cN_5 => k_is)
    (case kN_5 => k_is)
    (case xL_6 => k_is)
    (case aN_6 => k_is)
    (case lN_6 => k_is)
    (case cN_6 => k_is)
    (case kN_6 => k_is)
    (case xL_7 => k_is)
    (case aN_7 => k_is)
    (case lN_7 => k_is)
    (case cN_7 => k_is)
    (case kN_7 => k_is)
    (case xL_8 => k_is)
    (case aN_8 => k_is)
    (case lN_8 => k_is)
    (case cN_8 => k_is)
    (case kN_8 => k_is)
    (case xL_9 => k_is)
    (case aN_9 => k_is)
    (case lN_9 => k_is)
    (case cN_9 => k_is)
    (case kN_9 => k_is)
    (case xL_10 => k_is)
    (case aN_10 => k_is)
    (case lN_10 => k_is)
    (case cN_10 => k_is)
    (case kN_10 => k_is)
    (case xL_11 => k_is)
    (case aN_11 => k_is)
    (case lN_11 => k_is)
    (case cN_11 => k_is)
    (case kN_11 => k_is)
    (case xL_12 => k_is)
    (case aN_12 => k_is)
    (case lN_12 => k_is)
    (case cN_12 => k_is)
    (case kN_12 => k_is)
    (case xL_13 => k_is)
    (case aN_13 => k_is)
    (case lN_13 => k_is)
    (case cN_13 => k_is)
    (case kN_13 => k_is)
    (case xL_15 => k_is)
    (case aN_15 => k_is)
    (case lN_15 => k_is)
    (case cN_15 => k_is)
    (case kN_15 => k_is)
    (case xL_17 => k_is)
    (case aN_17 => k_is)
    (case lN_17 => k_is)
    (case cN_17 => k_is)
    (case kN_17 => k_is)
    (case xL_19 => k_is)
    (case aN_19 => k_is)
    (case lN_19 => k_is)
    (case cN_19 => k_is)
    (case kN_19 => k_is)
    (case xL_20 => k_is)
    (case aN_20 => k_is)
    (case lN_20 => k_is)
    (case cN_20 => k_is)
    (case kN_20 => k_is)
    (case hkit => kernel_rfl)
    (case hkit4 => kernel_rfl)
    (case hini => kernel_rfl)
    (case hbare => kernel_rfl)
