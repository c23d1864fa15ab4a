import PyProof.Rows.All
import Wide.All
import OpenK.AllK
import Wide.FinOn
import HandS.ForMost
import HandS.Style
import HandS.Flow
import KE.GoesMore
import KE.GoesEnum
import KE.KTupSum
import PyProof.ReprRoads
import PyProof.ReprLen
import HandS.IsInst
import HandS.TupLe
import HandS.SetKeys
import HandS.SortRule
import HandS.More
import HandS.TupAny
import PyProof.P3In
import HandS.Deep
import KE.KRevSl
import HandS.TupMul
import HandS.ForExc
import HandS.SortInts
import HandS.Zip
import HandS.Conv
import HandS.Iter
import HandS.Text
import HandS.Walk
import PyProof.StrOps2
import KE.GoesZip
import PyProof.TupleOfSeq
import HandS.Nested
import HandS.ExcValue
import HandS.Words
import HandS.ExcOwn
import HandS.ExcIs
import HandS.ExcField
import HandS.ExcInit
import HandS.Exc
import KE.KExcInit
import PyProof.ExcBaseAll.LookupError
import PyProof.ExcBaseAll.ArithmeticError
import KE.DataFind
import HandS.List
import HandS.Base
import HandS.Call
import KE.KTryMore
import PyProof.Rows.News
import PyProof.Rows.Own
import HandS.HotCalls
import PyProof.NeKinds
import HandS.Lambda
import HandS.SortKw
import KE.DataMinMax
import KE.SortData
import PyProof.CallFns
import HandS.Strs
import PyProof.ListStr
import PyProof.Rows.StrJoinStr
import HandS.EndTab
import HandS.EndBits
import KE.KNestM
import PySem.Challenge.RW_keepsort_k05_plans_and_fillings_refused
set_option Elab.async false
set_option linter.all false
set_option maxRecDepth 100000
set_option maxHeartbeats 4000000
namespace KS
open PySem PySem.Spec PyProof.Rows L2
/-- three whole numbers: the state, the digits left, how many draws -/
def PoolO (o : Option HO) : Prop := ∃ a b c : Int, o = some (.lst [.int a, .int b, .int c]) ∧ 0 ≤ a ∧ a < 2147483249 ∧ 0 ≤ b
/-- what stood, but at p, stands -/
def KeepX (p : Addr) (H H' : Hp) : Prop := ∀ b o, b ≠ p → H b = some o → H' b = some o
theorem KeepX.refl (p : Addr) (H : Hp) : KeepX p H H := fun _ _ _ e => e
theorem KeepX.trans {p : Addr} {H H1 H2 : Hp} (a : KeepX p H H1) (b : KeepX p H1 H2) : KeepX p H H2 := fun c o n e => b c o n (a c o n e)
theorem KeepX.of_same {p : Addr} {H H1 : Hp} (a : Same H H1) : KeepX p H H1 := fun c o _ e => a c o e
theorem same_new {H : Hp} {p : Addr} {o : HO} (h : H p = none) : Same H (upd H p o) := fun b x e => by
  rw [upd_ne (ne_of_none e h)]
  exact e
theorem keepX_upd {H : Hp} {p : Addr} {o : HO} : KeepX p H (upd H p o) := fun b x n e => by
  rw [upd_ne n]
  exact e
theorem PoolO.same {H H' : Hp} {p : Addr} (s : Same H H') (h : PoolO (H p)) : PoolO (H' p) := by
  obtain ⟨a, b, c, e, r⟩ := h
  exact ⟨a, b, c, s _ _ e, r⟩
theorem PoolO.ne {H : Hp} {p q : Addr} (h : PoolO (H p)) (n : H q = none) : p ≠ q := by
  obtain ⟨a, b, c, e, r⟩ := h
  exact ne_of_none e n
theorem same_seqT {K : PySem.W.Frag} {H H' : Hp} {a : Addr} {xs : List V} (e : Same H H') (h : SqT K H a xs) : SqT K H' a xs := by
  rcases h with (h | ⟨o, h⟩) | h
  · exact .inl (.inl (e _ _ h))
  · exact .inl (.inr ⟨o, e _ _ h⟩)
  · exact .inr h
theorem keepX_seqT {K : PySem.W.Frag} {H H' : Hp} {a p : Addr} {xs : List V} (hp : PoolO (H p)) (e : KeepX p H H') (h : SqT K H a xs) : SqT K H' a xs := by
  obtain ⟨x, y, z, ep, _⟩ := hp
  rcases h with (h | ⟨o, h⟩) | h
  · exact .inl (.inl (e _ _ (fun q => by rw [q, ep] at h; cases h) h))
  · exact .inl (.inr ⟨o, e _ _ (fun q => by rw [q, ep] at h; cases h) h⟩)
  · exact .inr h
theorem int_mod_bd (x : Int) {m : Int} (h : 0 < m) : 0 ≤ x % m ∧ x % m < m := ⟨Int.emod_nonneg x (by omega), Int.emod_lt_of_pos x h⟩
def spCell (K : PySem.W.Frag) : Sp := fun vs H Q _ => ∃ (a : Addr) (ns : List Int) (k : Nat), vs = [.ref a, .int k] ∧ SqL K H a (ns.map V.int) ∧ k ≤ 63 ∧ ∀ H' n, Same H H' → Q (.int n) H'
def spPool : Sp := fun vs H Q _ => ∃ (n : Int), vs = [.int n] ∧ ∀ H' p, Same H H' → H p = none → PoolO (H' p) → Q (.ref p) H'
def spDraw : Sp := fun vs H Q _ => ∃ (p : Addr) (m : Int), vs = [.ref p, .int m] ∧ PoolO (H p) ∧ 0 < m ∧ m < 1073741824 ∧ ∀ H' r, KeepX p H H' → PoolO (H' p) → 0 ≤ r → r < m → Q (.int r) H'
end KS
namespace KS
open PySem PySem.Spec PyProof.Rows L2
open Sem (wp)
open AutoSeq1 (wpAny_loadPart')
/-! ### sum(t), t a tuple of whole numbers -/
def rSumT (K : PySem.W.Frag) : List V → Hp → VK → Prop := fun vs H Q => ∃ (a : Addr) (ns : List Int), vs = [V.ref a] ∧ SqT K H a (ns.map V.int) ∧ Q (.int ns.sum) H
theorem cr_sumT {X : Cx} (hc : X.calm = true) : CallR X (.builtin "sum") (rSumT X.K) := by
  intro pins s σ H vs us Q I r h
  obtain ⟨a, ns, rfl, hs, q⟩ := h
  obtain ⟨its, rv, hl, _⟩ := I.tuple hs
  rw [Vals.ref1 r]
  have hi := rv.ints
  obtain ⟨xs, e⟩ := hi.allInts.items
  have hn : numsOf (intItems xs).toList = ns := by
    rw [← e]
    exact hi.numsOf
  rw [nums_intItems] at hn
  have hl2 : s.heap.IsTuple a (intItems xs) := by
    rw [← e]
    exact hl
  refine PySem.W.ktm_sumG (I.ok.hd hc) hl2 fun h' tk t' hk => ⟨.int ns.sum, H, I.kept hk, ⟨t', ?_⟩, q⟩
  rw [preSum_eq, List.take_of_length_le (by simp), hn]
/-- tuple(x), x a list or a tuple -/
def rTupOf (K : PySem.W.Frag) : List V → Hp → VK → Prop := fun xs H Q => ∃ p ys, xs = [.ref p] ∧ ((SqL K H p ys ∧ ∀ l, H l = none → Q (.ref l) (upd H l (.tup ys))) ∨ (SqT K H p ys ∧ Q (.ref p) H))
theorem cr_tupOf {X : Cx} : CallR X (.type "tuple") (rTupOf X.K) := call_tuple_of
/-! ### enumerate(t), t a tuple -/
abbrev tupItO (l : Addr) : Obj := { cls := .type "tuple_iterator", data := .fields #[.ref l, .int 0 0] }
abbrev enumO (it : Addr) : Obj := { cls := .type "enumerate", data := .fields #[.none, .bool false, .ref it, rawInt 0, .none, .none] }
theorem meets_enumT (l : Addr) (items : Array Value) (n : Nat) (dct : Option Addr) (sl : Array (Option Value)) :
    Meets (Builtin.«enumerate.__new__» ⟨[.type "enumerate", .ref l], []⟩) (fun _ R s =>
      s.heap.get? l = some { cls := .type "tuple", dict := dct, data := .seq items n, slots := sl } ∧
      R (.ok (.ret (.ref (s.heap.push (tupItO l)).objs.size))) { s with heap := (s.heap.push (tupItO l)).push (enumO s.heap.objs.size) }) :=
  .of_wp fun prog w A R s h => by
    obtain ⟨hp, g, d, tk, os⟩ := s
    obtain ⟨hl, h⟩ := h
    have hsub := sub_enumerate
    have hT : Heap.IsTuple (Shared.heap ⟨hp, g, d, tk, os⟩) l items := ⟨_, hl, rfl, n, rfl⟩
    wp_walk using wpAny_loadPart' hl
    refine wpAny_stack_any fun st => wpAny_pure ?_
    split
    · rename_i c _ _ _ _ _
      cases (c == Value.type "enumerate")
      · wp_walk using wpAny_loadPart' hl, wpAny_pyIter_tuple hT
        exact ⟨_, rfl, h⟩
      · wp_walk using wpAny_loadPart' hl, wpAny_pyIter_tuple hT
        exact ⟨_, rfl, h⟩
    · wp_walk using wpAny_loadPart' hl, wpAny_pyIter_tuple hT
      exact ⟨_, rfl, h⟩
theorem call_enumT {prog : Program} {w : World} {A : Around} {E : Value → Shared → Prop} {s : Shared} {l : Addr} {items : Array Value} {Q : Value → Shared → Prop} (hL : s.heap.IsTuple l items)
    (h : ∀ h', IsEnum h' (s.heap.objs.size + 1) s.heap.objs.size 0 .none → h'.IsTupleIter s.heap.objs.size l 0 →
      (∀ b o, s.heap.get? b = some o → h'.get? b = some o) → Q (.ref (s.heap.objs.size + 1)) { s with heap := h' }) :
    wpAny (model prog w) A (call (.type "enumerate") [.ref l]) Q E s := by
  obtain ⟨⟨c, dct, dt, sl⟩, hl, hc, n, hd⟩ := hL
  replace hc : c = .type "tuple" := hc
  replace hd : dt = .seq items n := hd
  subst hc
  subst hd
  refine callType_new F.called_enumerate (by decide) (F.typeCall_enumerate_1 _) (F.newCall_enumerate_1 _)
    (fun obj => F.args_object_init_2 obj _) F.entry_enumerate_new (meets_enumT l items n dct sl) ⟨hl, ?_⟩
  generalize hg1 : s.heap.push (tupItO l) = g1
  have hz : g1.objs.size = s.heap.objs.size + 1 := by
    rw [← hg1]
    exact Heap.size_push ..
  have hit : g1.get? s.heap.objs.size = some (tupItO l) := by
    rw [← hg1]
    exact Heap.get?_push_size _ rfl
  have hold : ∀ b o, s.heap.get? b = some o → g1.get? b = some o := fun b o e => by
    rw [← hg1]
    exact Heap.get?_push_of_some _ e
  show _ ∧ _
  rw [hz]
  have he : IsEnum (g1.push (enumO s.heap.objs.size))
      (s.heap.objs.size + 1) s.heap.objs.size 0 .none := by
    have z := Heap.get?_push_size g1 (o := enumO s.heap.objs.size) rfl
    rw [hz] at z
    exact z
  exact ⟨⟨_, he, rfl⟩, h _ he ⟨tupItO l, Heap.get?_push_of_some _ hit, rfl, rfl⟩ fun b o x => Heap.get?_push_of_some _ (hold b o x)⟩
/-- the pairs (i, item i) of the tuple at a, each a new tuple -/
def IteT (K : PySem.W.Frag) (a : Addr) : It :=
  ⟨fun i H => ∃ (xs : List V) (x : V), SqT K H a xs ∧ xs[i]? = some x,
   fun i H v H' => ∃ T x, v = .ref T ∧ H T = none ∧ H' = upd H T (.tup [.int (i : Nat), x]) ∧ ∀ xs, SqT K H a xs → xs[i]? = some x,
   fun i H => ∃ xs : List V, SqT K H a xs ∧ xs.length ≤ i⟩
theorem turn_enumT {P : Program} {w : World} {K : PySem.W.Frag} {elts : List Expr} {kk : Nat} {tpos : Pos} (a e it : Addr) :
    Turn P w K (.Tuple elts kk tpos) (IteT K a) [e, it] e
      (fun i h => (∃ old, IsEnum h e it ((i : Nat) : Int) old) ∧ h.IsTupleIter it a i ∧ e ≠ it) where
  mem := by simp
  obj := fun i h st b hb => by
    obtain ⟨⟨old, he⟩, ⟨o, ho, hc, hd⟩, _⟩ := st
    rcases (by simpa using hb : b = e ∨ b = it) with z | z
    · subst z
      exact ⟨_, he, fun v q => nomatch q⟩
    · subst z
      exact ⟨o, ho, fun v q => by rw [hd] at q; cases q⟩
  keep := fun i h h' st k => by
    obtain ⟨⟨old, he⟩, hi, hne⟩ := st
    exact ⟨⟨old, k e (by simp) _ he⟩, hi.at fun o q => k it (by simp) o q, hne⟩
  item := by
    intro X hP hw hK hc i pins s σ H E I hf st hg
    subst hP hw hK
    obtain ⟨⟨old, he⟩, hit, hne⟩ := st
    obtain ⟨xs, x, hq, hx⟩ := hg
    obtain ⟨its, rv, p, hz⟩ := I.tuple hq
    have p1 : s.heap.IsTuple a its.toArray := p
    obtain ⟨u0, hu0, ru0⟩ := rv.get hx
    have hel : e < s.heap.objs.size := Heap.lt_size he
    have hil : it < s.heap.objs.size := by
      obtain ⟨_, q, _⟩ := hit
      exact Heap.lt_size q
    have hai : a ≠ it := fun z => by
      obtain ⟨o1, g1, c1, _⟩ := p1
      obtain ⟨o2, g2, c2, _⟩ := hit
      rw [z, g2] at g1
      cases g1
      rw [c1] at c2
      injection c2 with c3
      exact absurd c3 (by decide)
    have hea : e ≠ a := fun z => by
      obtain ⟨o1, g1, c1, _⟩ := p1
      have g2 : s.heap.get? e = some _ := he
      rw [z, g1] at g2
      cases g2
      have c2 : Value.type "enumerate" = Value.type "tuple" := c1
      injection c2 with c3
      exact absurd c3 (by decide)
    have hlt : i < its.toArray.size := by
      have z : i < its.length := (List.getElem?_eq_some_iff.mp hu0).1
      simpa using z
    have DD : Draws X.prog X.w X.A.in1 it [it, a] its.toArray.size (fun i v => its.toArray[i]? = some v) (fun i h => h.IsTupleIter it a i ∧ h.IsTuple a its.toArray) :=
      Draws.tuple (show X.A.in1.handled = none from I.ok.hd hc) it a hai its.toArray
    refine wpAny_pyNext_enum_itemD DD he ⟨hit, p1⟩ hlt hne (by simp [hne, hea]) fun u h' tk hu ho hst hT hsz hk => ?_
    have eu : u = u0 := by
      have z : its[i]? = some u := by simpa using hu
      rw [hu0] at z
      exact (Option.some.inj z).symm
    subst eu
    refine ⟨_, rfl, wpAny_letOwnedTupleGo_enum (s := { s with heap := h', toks := tk + 1 }) ho fun h'' he' sb => ?_⟩
    have hT2 : h''.get? s.heap.objs.size = some { cls := .type "tuple", data := .seq #[.int i tk, u] } := (sb.2 _ (Nat.ne_of_gt hel)).trans hT
    have new : ObjOk X.prog X.w (upd H s.heap.objs.size (.tup [.int (i : Nat), x])) h'' s.heap.objs.size (.tup [.int (i : Nat), x]) :=
      ⟨by show 2 ≤ sizeLine; decide, [.int i tk, u], .cons ⟨_, rfl⟩ (.cons ru0 .nil), ⟨_, hT2, rfl, _, rfl⟩⟩
    have I1 : Inv X pins σ (upd H s.heap.objs.size (.tup [.int (i : Nat), x])) { s with heap := h'', toks := tk + 1 } :=
      I.turnedNew (ch := [e, it]) (fun b ob hb q => (sb.2 b (fun z => hb (by simp [z]))).trans
        (hk b ob (fun z => hb (by simp [z])) (fun z => hb (by simp [z])) q)) hf (Nat.le_refl _) new
    refine ⟨.ref s.heap.objs.size, _, I1, rfl, ⟨_, x, rfl, I.hok.fresh (Nat.le_refl _), rfl, fun ys hy => ?_⟩,
      ⟨⟨u, ?_⟩, hst.1.at fun o q => (sb.2 it (Ne.symm hne)).trans q, hne⟩, fun b hb => ?_⟩
    · rw [I.tuple_inj hy hq]
      exact hx
    · have e1 : ((i + 1 : Nat) : Int) = (i : Int) + 1 := by omega
      rw [e1]
      exact he'
    · have hb' : b < s.heap.objs.size := by
        rcases (by simpa using hb : b = e ∨ b = it) with z | z
        · rw [z]
          exact hel
        · rw [z]
          exact hil
      rw [upd_ne (Nat.ne_of_lt hb')]
      exact (hf b hb).1
  done := by
    intro X hP hw hK hc i pins s σ H E I hf st hg
    subst hP hw hK
    obtain ⟨⟨old, he⟩, hit, hne⟩ := st
    obtain ⟨xs, hq, hx⟩ := hg
    obtain ⟨its, rv, p, hz⟩ := I.tuple hq
    have p1 : s.heap.IsTuple a its.toArray := p
    obtain ⟨f0, f1, f2, f3, f4, f5⟩ := hf it (by simp)
    have hl := rv.length
    have DD : Draws X.prog X.w X.A.in1 it [it, a] i (fun _ _ => True) (fun j h => j = i ∧ h.IsTupleIter it a i ∧ h.IsTuple a its.toArray) :=
      { live := fun _ _ st => let ⟨o, ho, _⟩ := st.2.1; ⟨o, ho⟩
        frame := fun _ _ _ st hk => ⟨st.1, st.2.1.at fun o e => hk it (by simp) o e, st.2.2.at fun o e => hk a (by simp) o e⟩
        item := fun j s Q E hj st hQ => absurd st.1 (by omega)
        done := fun s Q E st hE => wpAny_nextOf_tuple_end (show X.A.in1.handled = none from I.ok.hd hc) st.2.1 st.2.2 (by simp; omega) hE }
    exact wpAny_pyNext_enum_endD DD he ⟨rfl, hit, p1⟩ fun h' eb => ⟨rfl, I.turned (t' := s.toks) (fun b o hb q => eb b o hb q) f0 f1 f3 f4 f5⟩
  self := fun A i s Q E st h => by
    obtain ⟨⟨_, he⟩, _⟩ := st
    exact wpAny_pyIter_enum he h
def iEnumT (K : PySem.W.Frag) (ta : TA) : TI := fun σ H R => ta σ H fun vs H1 => ∃ a xs, vs = [.ref a] ∧ SqT K H1 a xs ∧ R (IteT K a) H1
theorem pi_enumT {X : Cx} {e : Expr} {ta : TA} {p pos tpos : Pos} {elts : List Expr} {kk : Nat} (hg : Gl X "enumerate") (hm : X.mg "enumerate" = none) (ha : PA X [e] ta)
    (hs : starEach [e] X.env = [(false, eval e X.env)] := by rfl) : PI X (.Tuple elts kk tpos) (.Call (.Name "enumerate" p) [e] [] pos) (iEnumT X.K ta) := by
  refine ⟨fun pins s σ H R I h => ?_⟩
  refine Call_ (ld_blt I hg hm boot_enumerate (PyProof.Rows.callWith_type1 (thn (ha.run pos pins s σ H _ I h) fun us s1 hh => ?_) hs rfl))
  obtain ⟨vs, H1, I1, r1, a, xs, ex, hq, q⟩ := hh
  subst ex
  cases r1 with
  | cons r rr =>
    cases rr
    cases r
    obtain ⟨its, rv, p1, hz⟩ := I1.tuple hq
    refine call_enumT (items := its.toArray) p1 fun h' he hit hk => wpAny_pyIter_enum he ?_
    have I2 : Inv X pins σ H1 { s1 with heap := h' } := I1.kept (t' := s1.toks) hk
    refine ⟨s1.heap.objs.size + 1, [s1.heap.objs.size + 1, s1.heap.objs.size], _, _, H1, rfl, I2, turn_enumT a (s1.heap.objs.size + 1) s1.heap.objs.size,
      ⟨⟨.none, he⟩, hit, Nat.succ_ne_self _⟩, fun b hb => ?_, q⟩
    have hle : s1.heap.objs.size ≤ b := by
      rcases (by simpa using hb : b = s1.heap.objs.size + 1 ∨ b = s1.heap.objs.size) with z | z
      · rw [z]
        exact Nat.le_succ _
      · rw [z]
        exact Nat.le_refl _
    exact I1.fpOk hle (I1.hok.fresh hle)
/-- a for over enumerate(t): Pv at each turn; the pair stands in a new tuple at T -/
theorem for_enumT {K : PySem.W.Frag} {a : Addr} {xs : List V} {g : TG} {tb : TS} {D : Ends} {σ : L2.St} {H : Hp} (Pv : Nat → L2.St → Hp → Prop) (h0 : Pv 0 σ H)
    (hl : ∀ i σ H, i ≤ xs.length → Pv i σ H → SqT K H a xs)
    (hs : ∀ i x σ H T, xs[i]? = some x → Pv i σ H → H T = none → g (.ref T) σ (upd H T (.tup [.int (i : Nat), x])) fun σ2 H2 => tb { D with nx := Pv (i + 1), ct := Pv (i + 1), bk := D.nx } σ2 H2)
    (hd : ∀ σ H, Pv xs.length σ H → D.nx σ H) :
    ∃ W : Nat → Nat → L2.St → Hp → Prop, (∃ m, W 0 m σ H) ∧ ∀ i m σ H, W i m σ H →
      ((IteT K a).stop i H ∧ D.nx σ H) ∨ ((IteT K a).go i H ∧ ∃ N : L2.St → Hp → Prop, (∀ σ' H', N σ' H' → ∃ m', m' < m ∧ W (i + 1) m' σ' H') ∧
        ∀ x H', (IteT K a).yld i H x H' → g x σ H' fun σ2 H2 => tb { D with nx := N, ct := N, bk := D.nx } σ2 H2) := by
  refine ⟨fun i m σ H => m = xs.length - i ∧ i ≤ xs.length ∧ Pv i σ H, ⟨xs.length, by simp, Nat.zero_le _, h0⟩, ?_⟩
  rintro i m σ H ⟨rfl, hi, p⟩
  have q := hl i σ H hi p
  by_cases hlt : i < xs.length
  · refine .inr ⟨⟨xs, xs[i], q, by simp [hlt]⟩, Pv (i + 1), fun σ' H' p' => ⟨xs.length - (i + 1), by omega, rfl, hlt, p'⟩, fun x H' y => ?_⟩
    obtain ⟨T, x1, rfl, nT, rfl, hx⟩ := y
    exact hs i x1 σ H T (hx _ q) p nT
  · have e : i = xs.length := by omega
    subst e
    exact .inl ⟨⟨xs, q, Nat.le_refl _⟩, hd σ H p⟩
end KS
namespace KS
open PySem PySem.Spec PyProof.Rows L2
/-! ### promises of defs that are only called where no repr is under way -/
structure FnG (P : Program) (w : World) (K : PySem.W.Frag) (mg : Str → Option Value) (base : Heap) (k : Nat) (f : Addr) (fd : FuncData) (ps : List Str) (sp : Sp) : Prop where
  len : ∀ vs H Q E, sp vs H Q E → vs.length = ps.length
  run : ∀ (A : Around) (outer : List Env) (s : Shared) (H : Hp) (args : Args) (us : List Value) (vs : List V) (Q : VK) (E : XK),
    Room k A → A.guards = some [] → Env0 P w K mg base A outer s H → BindsTo s fd args (ps.zip us) → Vals vs us → sp vs H Q E →
    codeAny (model P w) A (.call (.ref f) args) (CR CX0 outer P w H s Q E) s
section
variable {P : Program} {w : World} {K : PySem.W.Frag} {mg : Str → Option Value} {base : Heap}
theorem okG {x qual : Str} {st : Stmt} {f : Addr} {fd : FuncData} {N ps : List Str} {k : Nat} {sp : Sp} (F : Fun K x qual st f fd) (S : FnScope N ps (defScope st))
    (len : ∀ vs H Q E, sp vs H Q E → vs.length = ps.length)
    (hbody : ∀ (cdv : Value) (A : Around) (outer : List Env) (s : Shared) (H : Hp) (vs : List V) (Q : VK) (E : XK),
      Room k (A.deeper (envOfC qual (defScope st) s.heap.objs.size f cdv)) → A.guards = some [] → sp vs H Q E →
      ∃ t, PSs (cxOf CX0 P w K mg base N qual (defScope st) f cdv A outer s H E).nox (defBody st) t ∧ t { nx := fun _ H' => Q .non H', rt := Q } (start N vs) H) :
    FnG P w K mg base (k + 1) f fd ps sp := by
  obtain ⟨oc, od, kV, doc, pm, an, cdv, ct, osl, rfl, lk, hcd⟩ := F.ex
  refine ⟨len, fun A outer s H args us vs Q E hr hgd e0 hb r hsp => ?_⟩
  have hl := len _ _ _ _ hsp
  have kept : ∀ b o, base.get? b = some o → s.heap.get? b = some o := fun b o e => (e0.bs b o e).1
  have KX : K.In s.heap := e0.mod.kin.keeps kept
  have lim : s.heap.NoLimit := e0.mod.nolimit.keeps kept
  have hkind : ∀ y ∈ ps.zip us, (defScope st).names.lookup y.1 = some .local ∨
      ((defScope st).names.lookup y.1 = some .cell ∧ ((cellsFrom (s.heap.objs.size + 1) (defScope st).names []).lookup y.1).isSome = true) := by
    rintro ⟨n, v⟩ hy
    rcases S.par n (List.of_mem_zip hy).1 with q | q
    · left
      exact q
    · right
      exact ⟨q, PySem.W.cellsFrom_some _ _ _ (.inl q)⟩
  refine codeAny_call_function hr.depth (KX _ _ lk) rfl S.co S.gen rfl
    (PySem.W.codeRec_of KX hcd) (hb _ _ _ _ ?_)
  refine wpAny_newFunctionEnv_cells S.kind hkind fun env he s1 x => ?_
  subst he
  refine ⟨lim.keeps x.toInCall.keep, codeAny_func ?_⟩
  obtain ⟨t, ht0, hq⟩ := hbody cdv A outer s H vs Q E (hr.deeper _) hgd hsp
  have ht := ht0.nox
  have I := inv_start (CX := CX0) (E := E) (cd := cdv) (qual := qual) (f := f) S hr.hd e0 hl r x
  refine wpAny_mono (ht.run [] s1 (start N vs) H _ I hq) (fun fl s' hs => ?_)
    fun e s' hs => hs
  cases fl with
  | ret u =>
    obtain ⟨v, σ', H', J, rv, q⟩ := hs
    exact ⟨v, H', J.os, J.bare, J.base, J.hok, rv, q⟩
  | next =>
    obtain ⟨σ', H', J, q⟩ := hs
    exact ⟨V.non, H', J.os, J.bare, J.base, J.hok, rfl, q⟩
  | brk =>
    obtain ⟨_, _, _, q⟩ := hs
    cases q
  | cont =>
    obtain ⟨_, _, _, q⟩ := hs
    cases q
end
section
variable {X : Cx} {k : Nat} {f : Addr} {fd : FuncData} {ps : List Str} {sp : Sp} {x : Str} {p pos : Pos} {e : Expr} {es : List Expr} {t : TA}
theorem pe_callG (F : FnG X.prog X.w X.K X.mg X.base k f fd ps sp) (hr : Room k X.A) (hgd : X.A.guards = some []) (hg : Gl X x) (hm : X.mg x = some (.ref f))
    (hk : PySem.W.keepIn X.K (.ref f) = true) (hb : Binds X.K fd ps []) (ha : PA X (e :: es) t) (hdb : (x == ("__debug__" : Str)) = false := by decide)
    (he : starEach (e :: es) X.env = (false, eval e X.env) :: starEach es X.env := by rfl)
    (hpl : (backTo pos (starEach es X.env)).any (·.1) = false := by rfl) :
    PE X (.Call (.Name x p) (e :: es) [] pos) (tCall sp [] E0 t) := by
  refine ⟨fun pins s σ H Q I h => wpAny_Call_Name_kw (ld_glob I hg hm ?_ hdb)⟩
  refine PySem.W.callWith_K (h₀ := X.base) I.ok.mod.kin hk (thn (ha.run pos pins s σ H _ I h) fun us s1 hh => ?_) he hpl
  obtain ⟨vs, H1, I1, r, q⟩ := hh
  refine ⟨I1.kIn, ?_⟩
  have q1 : sp (vs ++ []) H1 Q E0 := q
  rw [List.append_nil] at q1
  have hl : (us ++ []).length = ps.length := by
    rw [List.append_nil, ← r.length]
    exact F.len _ _ _ _ q1
  have bb := hb s1 us I1.kIn hl
  rw [List.append_nil] at bb
  refine wpAny_call (codeAny_mono (F.run X.A X.stack s1 H1 ⟨us, []⟩ us vs Q E0 hr hgd I1.env0 bb r q1) fun z s' hq => ?_)
  cases z with
  | error e => cases hq
  | ok fl =>
    cases fl with
    | ret u => exact I1.after hq
    | next => cases hq
    | brk => cases hq
    | cont => cases hq
/-- repr(x), x a list or tuple of plain data, where no repr is under way -/
theorem call_reprD (hgd : X.A.guards = some []) (hu : X.A.units + 100 < cLine) : CallR X (.builtin "repr") (fun xs H Q => ∃ (a : Addr) (d : PyData), xs = [.ref a] ∧ Dp X.K H (.ref a) d ∧
    d.showable = true ∧ d.hasDict = false ∧ d.shown.length ≤ sizeLine ∧ d.depth ≤ 64 ∧ Q (.str d.shown) H) := by
  intro pins s σ H xs us Q I r h
  obtain ⟨a, d, rfl, hd, h1, h2, h3, h4, q⟩ := h
  rw [Vals.ref1 r]
  obtain ⟨as, R⟩ := Dp.reads I d (.ref a) (.ref a) hd rfl
  exact repr_of_reads' R h1 (PyData.noDict_hsm h2) hgd (by omega) (fun _ _ e => e) (fun h' u tk hk => ⟨.str d.shown, H, I.kept hk, ⟨u, rfl⟩, q⟩) h3
end
/-! ### the end of a row whose law has such a promise -/
theorem law_callG {P : Program} {w : World} {K : PySem.W.Frag} {mg mb : Str → Option Value} {k : Nat} {fa a : Addr} {fd : FuncData} {x : Str} {sp : Sp} {s₁ : Shared} {vs : List Value} {ns : List Int}
    (KX : K.In s₁.heap) (hns : s₁.heap.Ns mainGlobals mg) (hb : s₁.heap.Ns builtinsNs mb) (hbb : ∀ x : Str, x ≠ "__name__" → mb x = bootBuiltins x) (hlim : s₁.heap.NoLimit) (hg : s₁.gens = #[])
    (ha : s₁.heap.get? a = some { cls := .type "list", data := .seq vs.toArray }) (hi : IntsAre vs ns) (hl : ns.length ≤ sizeLine) (hr : Room k callerA)
    (F : ∀ base : Heap, K.In base → base.Ns mainGlobals mg → FnG P w K mg base k fa fd [x] sp)
    (hbind : ∀ (s : Shared) (u : Value), BindsTo s fd ⟨[u], []⟩ [(x, u)])
    (hsp : ∀ H : Hp, Only H → SqL K H a (ns.map V.int) → sp [.ref a] H (fun v _ => v = .bl true) fun _ _ _ => False) :
    codeAny (model P w) callerA (.call (.ref fa) ⟨[.ref a], []⟩)
      (fun r s' => r = .ok (.ret (.bool true)) ∧ OldK s₁.heap s'.heap ∧ s'.os = s₁.os ∧ AllBare s'.gens) s₁ := by
  have rv := vals_ints hi
  have lenV := hi.length
  have core : ∀ H : Hp, Only H → SqL K H a (ns.map V.int) → HOk P w H s₁.heap → (∀ b, H b ≠ none → b = a) → (H a ≠ none → K.lookup a = none) →
      codeAny (model P w) callerA (.call (.ref fa) ⟨[.ref a], []⟩)
        (fun r s' => r = .ok (.ret (.bool true)) ∧ OldK s₁.heap s'.heap ∧ s'.os = s₁.os ∧ AllBare s'.gens) s₁ := by
    intro H hO hS hok hA hK
    have only_a : ∀ {b : Addr} {u : HO}, H b = some u → b = a := fun {b u} q => hA b (by
      rw [q]
      simp)
    have noA : ∀ {b : Addr} {o : Obj} {es : Array DictEntry} {ep : Nat}, s₁.heap.get? b = some o → o.data = .dict es ep → H b = none := by
      intro b o es ep e d
      cases q : H b with
      | none => rfl
      | some u =>
        have e' := only_a q
        subst e'
        rw [ha] at e
        cases e
        have d' : Data.seq vs.toArray _ = Data.dict es ep := d
        cases d'
    have nsK : ∀ {b : Addr} {m : Str → Option Value}, s₁.heap.Ns b m → (hidT s₁.heap H).Ns b m := by
      rintro b m ⟨o, es, ep, e, d, r⟩
      exact ⟨o, es, ep, hidT_get e (noA e d), d, r⟩
    have hKb : K.In (hidT s₁.heap H) := by
      intro b o e
      refine hidT_get (KX b o e) ?_
      cases q : H b with
      | none => rfl
      | some u =>
        have e' := only_a q
        subst e'
        rw [hK (by rw [q]; simp)] at e
        cases e
    have hM : Mod K mg (hidT s₁.heap H) := by
      obtain ⟨mc, h1, h2⟩ := hlim
      exact ⟨hKb, nsK hns, ⟨mb, nsK hb, hbb⟩, ⟨mc, nsK h1, h2⟩⟩
    have e0 : Env0 P w K mg (hidT s₁.heap H) callerA [] s₁ H :=
      ⟨rfl, hM, fun b o e => of_hidT e, Nat.le_of_eq (hidT_size _ _), trivial,
        fun b hb => absurd (show b ∈ ([] : List Addr) from hb) (by simp), hok, .of_eq hg⟩
    have go := (F _ hKb (nsK hns)).run callerA [] s₁ H ⟨[.ref a], []⟩ [.ref a] [.ref a] _ _ hr rfl e0 (hbind s₁ (.ref a)) (.cons rfl .nil) (hsp H hO hS)
    refine codeAny_mono go fun r s' h => ?_
    cases r with
    | error e => cases h
    | ok fl =>
      cases fl with
      | next => cases h
      | brk => cases h
      | cont => cases h
      | ret u =>
        obtain ⟨v, H', os, bare, un, hok', r', q⟩ := h
        have q' : v = .bl true := q
        subst q'
        obtain rfl : u = Value.bool true := r'
        refine ⟨rfl, OldK.of_keep fun b o e => ?_, os, bare⟩
        cases q : H b with
        | none =>
          exact un.keep b o e q (fun z => absurd (show b ∈ ([] : List Addr) from z) (by simp)) (by simp)
        | some u =>
          rcases hO b with z | ⟨ob, xs, z⟩
          · rw [q] at z
            cases z
          · obtain ⟨e1, _⟩ := hok b _ z
            obtain ⟨e2, _⟩ := hok' b _ (un.frzs b ob _ z)
            rw [e] at e1
            cases e1
            exact e2
  cases hk : K.lookup a with
  | some o =>
    have e := KX a o hk
    rw [ha] at e
    cases e
    have sq : SqL K (fun _ => none) a (ns.map V.int) :=
      .inr ⟨_, vs.toArray, _, hk, rfl, rfl, rfl, by rw [List.size_toArray, lenV]; exact hl, by simpa using rv⟩
    exact core (fun _ => none) (fun _ => .inl rfl) sq (fun b u z => by cases z) (fun b z => absurd rfl z) fun z => absurd rfl z
  | none =>
    refine core (fun b => if b = a then some (.frz { cls := .type "list", data := .seq vs.toArray } (.lst (ns.map V.int))) else none)
      (fun b => ?_) (.inl (.inr ⟨{ cls := .type "list", data := .seq vs.toArray }, if_pos rfl⟩)) (fun b u z => ?_) (fun b z => ?_) fun _ => hk
    · by_cases hb : b = a
      · exact .inr ⟨_, _, if_pos hb⟩
      · exact .inl (if_neg hb)
    · by_cases hb : b = a
      · have z' := (if_pos hb).symm.trans z
        cases z'
        subst hb
        exact ⟨ha, by rw [List.length_map]; exact hl, vs, _, rv, ha⟩
      · have z' := (if_neg hb).symm.trans z
        cases z'
    · by_cases hb : b = a
      · exact hb
      · exact absurd (if_neg hb) z
theorem walk_ofG {l : PySem.W.OpenLaw} {n k : Nat} {q : Program} {loose : List Str} {XP : (Str → Option Value) → Heap → Prop} {YP : World → Heap → Prop} {d : DefRec} {K : Params → PySem.W.Frag} {sp : World → Sp} {x : Str}
    (hn : l.most = some n) (hn2 : n ≤ sizeLine) (hdf : d.params.defaults = []) (hr : Room k callerA) (hY : ∀ (w : World) (h : Heap), YP w h → (K w.params).In h)
    (F : ∀ (w : World) (mg : Str → Option Value) (fa : Addr) (h : Heap), (K w.params).In h → h.Ns mainGlobals mg → mg d.name = some (.ref fa) →
      ∃ fd : FuncData, (∀ (s : Shared) (u : Value), BindsTo s fd ⟨[u], []⟩ [(x, u)]) ∧
        ∀ base : Heap, (K w.params).In base → base.Ns mainGlobals mg → FnG l.prog w (K w.params) mg base k fa fd [x] (sp w))
    (hsp : ∀ (w : World) (H : Hp) (a : Addr) (ns : List Int), ns.length ≤ n → Only H → SqL (K w.params) H a (ns.map V.int) →
      sp w [.ref a] H (fun v _ => v = .bl true) fun _ _ _ => False) :
    PySem.W.WalkO q loose XP YP l.row.toRowW d [] (fun f vs => PySem.call f vs) := by
  refine Att.attach_call hn hdf fun w s₀ s₁ mg mb fa o pm cd doc a vs ns G Y ho hd hcd hmg hobj hints hlen hg => ?_
  obtain ⟨fd, hb, hF⟩ := F w mg fa _ (hY w _ Y) G.T.g hmg
  exact law_callG (hY w _ Y) G.T.g G.T.b G.T.builtins G.T.nolimit hg hobj hints (Nat.le_trans hlen hn2) hr hF hb
    (fun H hO hS => hsp w H a ns hlen hO hS)
end KS
namespace KS
open PySem PySem.Spec PyProof.Rows L2
/-! ### cells and plans -/
abbrev Cell := Int × Int
def CellAt (K : PySem.W.Frag) (H : Hp) (x : V) (c : Cell) : Prop := ∃ t, x = .ref t ∧ SqT K H t [.int c.1, .int c.2]
abbrev CellsAt (K : PySem.W.Frag) (H : Hp) : List V → List Cell → Prop := Paired (CellAt K H)
def lt2 (a b : Cell) : Prop := a.1 < b.1 ∨ (a.1 = b.1 ∧ a.2 < b.2)
def InGrid (c : Cell) : Prop := 0 ≤ c.1 ∧ c.1 ≤ 7 ∧ 0 ≤ c.2 ∧ c.2 ≤ 7
structure Good (cs : List Cell) : Prop where
  asc : cs.Pairwise lt2
  grid : ∀ c ∈ cs, InGrid c
  ne : cs ≠ []
/-- tuples are kept -/
def KT (K : PySem.W.Frag) (H H' : Hp) : Prop := ∀ a xs, SqT K H a xs → SqT K H' a xs
section
variable {K : PySem.W.Frag} {H H1 H2 H' : Hp}
theorem KT.trans (a : KT K H H1) (b : KT K H1 H2) : KT K H H2 := fun x xs h => b x xs (a x xs h)
theorem KT.of_same (a : Same H H1) : KT K H H1 := fun _ _ h => same_seqT a h
theorem KT.of_keepX {p : Addr} (hp : PoolO (H p)) (a : KeepX p H H1) : KT K H H1 := fun _ _ h => keepX_seqT hp a h
theorem KT.upd {e : Addr} {ys : List V} {o : HO} (h : H e = some (.lst ys)) : KT K H (upd H e o) := fun a xs q => by
  rcases q with (q | ⟨ob, q⟩) | q
  · exact .inl (.inl (by rw [upd_ne (ne_of q h (by intro z; cases z))]; exact q))
  · exact .inl (.inr ⟨ob, by rw [upd_ne (ne_of q h (by intro z; cases z))]; exact q⟩)
  · exact .inr q
theorem CellAt.kt {x : V} {c : Cell} (k : KT K H H') (h : CellAt K H x c) : CellAt K H' x c := by
  obtain ⟨t, e, q⟩ := h
  exact ⟨t, e, k _ _ q⟩
theorem cells_kt {xs : List V} {cs : List Cell} (k : KT K H H') (h : CellsAt K H xs cs) : CellsAt K H' xs cs := Paired.mono (fun _ _ q => q.kt k) h
end
theorem paired_append {α β : Type} {F : α → β → Prop} : ∀ {l₁ l₁' : List α} {l₂ l₂' : List β}, Paired F l₁ l₂ → Paired F l₁' l₂' → Paired F (l₁ ++ l₁') (l₂ ++ l₂')
  | _, _, _, _, .nil, h => h
  | _, _, _, _, .cons r t, h => .cons r (paired_append t h)
theorem paired_get {α β : Type} {F : α → β → Prop} : ∀ {l₁ : List α} {l₂ : List β} {i : Nat} {x : α}, Paired F l₁ l₂ → l₁[i]? = some x → ∃ y, l₂[i]? = some y ∧ F x y
  | _, _, _, _, .nil, h => by simp at h
  | _, _, 0, _, .cons r t, h => by
    simp at h
    subst h
    exact ⟨_, rfl, r⟩
  | _, _, i + 1, _, .cons r t, h => by
    simp at h
    obtain ⟨y, e, f⟩ := paired_get t h
    exact ⟨y, by simpa using e, f⟩
theorem paired_erase {α β : Type} {F : α → β → Prop} : ∀ {l₁ : List α} {l₂ : List β} (i : Nat), Paired F l₁ l₂ → Paired F (l₁.eraseIdx i) (l₂.eraseIdx i)
  | _, _, _, .nil => .nil
  | _, _, 0, .cons r t => t
  | _, _, i + 1, .cons r t => .cons r (paired_erase i t)
/-- the cells of one row -/
def rowCells (r c : Int) (n : Nat) : List Cell := (List.range n).map fun (s : Nat) => (r, c + (s : Int))
theorem rowCells_succ (r c : Int) (n : Nat) : rowCells r c (n + 1) = rowCells r c n ++ [(r, c + (n : Int))] := by
  unfold rowCells
  rw [List.range_succ, List.map_append]
  rfl
theorem rowCells_mem {r c : Int} {n : Nat} {x : Cell} (h : x ∈ rowCells r c n) : x.1 = r ∧ c ≤ x.2 ∧ x.2 < c + n := by
  unfold rowCells at h
  obtain ⟨s, hs, rfl⟩ := List.mem_map.mp h
  have := List.mem_range.mp hs
  refine ⟨rfl, ?_, ?_⟩ <;> show _ <;> simp <;> omega
theorem rowCells_asc (r c : Int) : ∀ n : Nat, (rowCells r c n).Pairwise lt2
  | 0 => List.Pairwise.nil
  | n + 1 => by
    rw [rowCells_succ, List.pairwise_append]
    refine ⟨rowCells_asc r c n, List.pairwise_singleton _ _, fun a ha b hb => ?_⟩
    obtain ⟨e1, e2, e3⟩ := rowCells_mem ha
    rw [List.mem_singleton] at hb
    subst hb
    exact .inr ⟨e1, e3⟩
theorem rowCells_len (r c : Int) (n : Nat) : (rowCells r c n).length = n := by
  unfold rowCells
  rw [List.length_map, List.length_range]
def PlanAt (K : PySem.W.Frag) (H : Hp) (a : Addr) (cs : List Cell) : Prop := ∃ xs, SqT K H a xs ∧ CellsAt K H xs cs
theorem PlanAt.kt {K : PySem.W.Frag} {H H' : Hp} {a : Addr} {cs : List Cell} (k : KT K H H') (h : PlanAt K H a cs) : PlanAt K H' a cs := by
  obtain ⟨xs, h1, h2⟩ := h
  exact ⟨xs, k _ _ h1, cells_kt k h2⟩
def spPlan (K : PySem.W.Frag) : Sp := fun vs H Q _ => ∃ (p : Addr) (m : Int), vs = [.ref p, .int m] ∧ PoolO (H p) ∧ 1 ≤ m ∧ m ≤ 24 ∧
  ∀ H' a cs, KeepX p H H' → PoolO (H' p) → PlanAt K H' a cs → Good cs → (cs.length : Int) ≤ m → H a = none → Q (.ref a) H'
/-- where _law_plan stands behind its first loop -/
structure PlSt (K : PySem.W.Frag) (p : Addr) (H : Hp) (m mode wide high top left : Int) (σ : L2.St) (H' : Hp) : Prop where
  ex : ∃ (e : Addr) (xs : List V) (cs : List Cell) (y8 y9 y10 : Option V),
    σ = [some (.ref p), some (.int m), some (.int mode), some (.int wide), some (.int high), some (.int top), some (.int left), some (.ref e), y8, y9, y10, none, none] ∧
    H e = none ∧ e ≠ p ∧ H' e = some (.lst xs) ∧ CellsAt K H' xs cs ∧ Good cs ∧ cs.length ≤ 64
  kx : KeepX p H H'
  po : PoolO (H' p)
/-- every = [spot for spot in every if ..] or every -/
def tFil (K : PySem.W.Frag) (tc : TT) : TS := tAsg (tOrT K (tLc (iList K (tVar 7)) (gName 12) tc (tVar 12) [12]) (tVar 7)) (gName 7)
theorem small64 {n : Nat} (h : n ≤ 64) : n < sizeLine := by
  rw [sizeLine_eq]
  omega
theorem fil_ok {K : PySem.W.Frag} {p : Addr} {H : Hp} {m mode wide high top left : Int} {tc : TT} {D : Ends} {σ : L2.St} {H' : Hp} (h : PlSt K p H m mode wide high top left σ H')
    (htc : ∀ (t : Addr) (c : Cell) (H2 : Hp) (R : Bool → Hp → Prop), SqT K H2 t [.int c.1, .int c.2] → PoolO (H2 p) → (∀ b H3, KeepX p H2 H3 → PoolO (H3 p) → R b H3) → tc (σ.set 12 (some (.ref t))) H2 R)
    (k : ∀ σ' H'', PlSt K p H m mode wide high top left σ' H'' → D.nx σ' H'') : tFil K tc D σ H' := by
  obtain ⟨⟨e, xs, cs, y8, y9, y10, rfl, he0, hep, he, hc, gd, hl⟩, kx, po⟩ := h
  have hlen := Paired.length hc
  refine ⟨_, rfl, e, rfl, ⟨_, SqL.of he⟩, fun d nd => ?_⟩
  have ned : e ≠ d := ne_of_none he nd
  have npd : p ≠ d := po.ne nd
  refine lc_list (K := K) (a := e) (xs := xs) (fun i H2 => ∃ (acc : List V) (cs' : List Cell), H2 d = some (.lst acc) ∧ CellsAt K H2 acc cs' ∧ cs'.Sublist (cs.take i) ∧
    KeepX p H H2 ∧ PoolO (H2 p) ∧ H2 e = some (.lst xs) ∧ CellsAt K H2 xs cs) ?_ ?_ ?_ ?_
  · have s1 := same_new (o := .lst []) nd
    refine ⟨[], [], upd_same, .nil, List.nil_sublist _, kx.trans (.of_same s1), po.same s1, s1 _ _ he, cells_kt (.of_same s1) hc⟩
  · rintro i H2 _ ⟨acc, cs', _, _, _, _, _, h6, _⟩
    exact SqL.of h6
  · rintro i x H2 hi ⟨acc, cs', h1, h2, h3, h4, h5, h6, h7⟩
    obtain ⟨c, hci, t, rfl, ht⟩ := paired_get h7 hi
    have hlt : i < cs.length := (List.getElem?_eq_some_iff.mp hci).1
    have tk : cs.take (i + 1) = cs.take i ++ [c] := by
      rw [List.take_add_one, hci]
      rfl
    refine ⟨rfl, htc t c H2 _ ht h5 (fun b H3 k3 p3 => ?_)⟩
    have q3 : KT K H2 H3 := KT.of_keepX h5 k3
    have hd3 : H3 d = some (.lst acc) := k3 _ _ (Ne.symm npd) h1
    have he3 : H3 e = some (.lst xs) := k3 _ _ hep h6
    have hal : acc.length ≤ 64 := by
      rw [Paired.length h2]
      exact Nat.le_trans h3.length_le (by rw [List.length_take]; omega)
    refine ite2 (fun _ => ?_) (fun _ => ?_)
    · refine ⟨_, rfl, acc, hd3, small64 hal, acc ++ [.ref t], cs' ++ [c], upd_same, ?_, ?_, ?_, ?_, ?_, ?_⟩
      · exact cells_kt (q3.trans (KT.upd hd3)) (paired_append h2 (.cons ⟨t, rfl, ht⟩ .nil))
      · rw [tk]
        exact List.Sublist.append h3 (List.Sublist.refl _)
      · intro b o n e2
        rw [upd_ne (fun z => by
          subst z
          have q := kx b o n e2
          rw [nd] at q
          cases q)]
        exact k3 _ _ n (h4 _ _ n e2)
      · rw [upd_ne npd]
        exact p3
      · rw [upd_ne ned]
        exact he3
      · exact cells_kt (q3.trans (KT.upd hd3)) h7
    · refine ⟨acc, cs', hd3, cells_kt q3 h2, ?_, h4.trans k3, p3, he3, cells_kt q3 h7⟩
      rw [tk]
      exact List.Sublist.trans h3 (List.sublist_append_left _ _)
  · rintro H2 ⟨acc, cs', h1, h2, h3, h4, h5, h6, h7⟩
    have h3' : cs'.Sublist cs := List.Sublist.trans h3 (List.take_sublist _ _)
    refine ⟨!acc.isEmpty, .inl ⟨acc, SqL.of h1, rfl⟩, ite2 (fun e1 => ?_) (fun e1 => ?_)⟩
    · refine k _ _ ⟨⟨d, acc, cs', y8, y9, y10, rfl, ?_, Ne.symm npd, h1, h2, ⟨gd.asc.sublist h3', fun c hc => gd.grid c (h3'.subset hc), ?_⟩, Nat.le_trans h3'.length_le hl⟩, h4, h5⟩
      · cases q : H d with
        | none => rfl
        | some o =>
          have z := kx d o (Ne.symm npd) q
          rw [nd] at z
          cases z
      · intro z
        subst z
        cases h2
        cases e1
    · exact ⟨_, rfl, k _ _ ⟨⟨e, xs, cs, y8, y9, y10, rfl, he0, hep, h6, h7, gd, hl⟩, h4, h5⟩⟩
end KS
namespace KS
open PySem PySem.Spec PyProof.Rows L2
abbrev tDr (tm : TE) : TE := tCall spDraw [] E0 (tCons (tVar 0) (tCons tm tNil))
abbrev rAdd : V → V → Hp → VK → Prop := rI0 fun i j => .int (i + j)
/-- if mode == 2: high, wide = 1 + draw(pool, 8), 1 + draw(pool, 8) -/
theorem par_if {p : Addr} {m mode wide high : Int} {σr : L2.St} {H2 : Hp} {D : Ends} (po : PoolO (H2 p)) (hw : 1 ≤ wide ∧ wide ≤ 8) (hh : 1 ≤ high ∧ high ≤ 8)
    (k : ∀ (wide' high' : Int) (H3 : Hp), KeepX p H2 H3 → PoolO (H3 p) → 1 ≤ wide' ∧ wide' ≤ 8 → 1 ≤ high' ∧ high' ≤ 8 → D.nx (some (.ref p) :: some (.int m) :: some (.int mode) :: some (.int wide') :: some (.int high') :: σr) H3) :
    tIfS (tTest (tOp rEq (tVar 2) (tC (.int 2)))) (tPar 4 3 (tCons (tOp rAdd (tC (.int 1)) (tDr (tC (.int 8)))) (tCons (tOp rAdd (tC (.int 1)) (tDr (tC (.int 8)))) tNil))) tNext D
      (some (.ref p) :: some (.int m) :: some (.int mode) :: some (.int wide) :: some (.int high) :: σr) H2 := by
  refine ⟨_, rfl, rfl, _, rfl, ite2 (fun e => ?_) (fun e => ?_)⟩
  · refine ⟨_, rfl, p, 8, rfl, po, by decide, by decide, fun H3 a k3 po3 a0 a1 => ?_⟩
    refine ⟨_, _, rfl, rfl, _, rfl, p, 8, rfl, po3, by decide, by decide, fun H4 b k4 po4 b0 b1 => ?_⟩
    exact ⟨_, _, rfl, rfl, _, _, rfl, k (1 + b) (1 + a) H4 (k3.trans k4) po4 ⟨by omega, by omega⟩ ⟨by omega, by omega⟩⟩
  · exact k wide high H2 (KeepX.refl _ _) po hw hh
/-- if mode == n: every = [spot for spot in every if ..] or every -/
theorem fil_if {K : PySem.W.Frag} {p : Addr} {H : Hp} {m mode wide high top left n : Int} {tc : TT} {D : Ends} {σ : L2.St} {H' : Hp} (h : PlSt K p H m mode wide high top left σ H')
    (htc : ∀ (t : Addr) (c : Cell) (H2 : Hp) (R : Bool → Hp → Prop), SqT K H2 t [.int c.1, .int c.2] → PoolO (H2 p) → (∀ b H3, KeepX p H2 H3 → PoolO (H3 p) → R b H3) → tc (σ.set 12 (some (.ref t))) H2 R)
    (k : ∀ σ' H'', PlSt K p H m mode wide high top left σ' H'' → D.nx σ' H'') : tIfS (tTest (tOp rEq (tVar 2) (tC (.int n)))) (tFil K tc) tNext D σ H' := by
  obtain ⟨e, xs, cs, y8, y9, y10, es, rest⟩ := h.ex
  refine ⟨.int mode, by rw [es]; rfl, rfl, _, rfl, ite2 (fun e => ?_) (fun e => ?_)⟩
  · exact fil_ok h htc k
  · exact k _ _ h
theorem draw_test {K : PySem.W.Frag} {p : Addr} {H : Hp} {m mode wide high top left n : Int} {σ : L2.St} {H' : Hp} (h : PlSt K p H m mode wide high top left σ H') (n0 : 0 < n) (n1 : n < 1073741824)
    (t : Addr) (c : Cell) (H2 : Hp) (R : Bool → Hp → Prop) (ht : SqT K H2 t [.int c.1, .int c.2]) (po : PoolO (H2 p)) (k : ∀ b H3, KeepX p H2 H3 → PoolO (H3 p) → R b H3) :
    tTest (tOp (rI0 fun i j => .bl (decide (i > j))) (tDr (tC (.int n))) (tC (.int 0))) (σ.set 12 (some (.ref t))) H2 R := by
  obtain ⟨e, xs, cs, y8, y9, y10, es, rest⟩ := h.ex
  subst es
  exact ⟨_, rfl, p, n, rfl, po, n0, n1, fun H3 r k3 po3 r0 r1 => ⟨_, _, rfl, rfl, _, rfl, k _ _ k3 po3⟩⟩
end KS
namespace KS
open PySem PySem.Spec PyProof.Rows L2
abbrev rSub : V → V → Hp → VK → Prop := rI0 fun i j => .int (i - j)
abbrev rLe : V → V → Hp → VK → Prop := rI0 fun i j => .bl (decide (i ≤ j))
theorem fil3_if {K : PySem.W.Frag} {p : Addr} {H : Hp} {m mode wide high top left : Int} {D : Ends} {σ : L2.St} {H' : Hp} (h : PlSt K p H m mode wide high top left σ H')
    (k : ∀ σ' H'', PlSt K p H m mode wide high top left σ' H'' → D.nx σ' H'') :
    tIfS (tTest (tOp rEq (tVar 2) (tC (.int 3)))) (tSeq (tAsg (tOp rAdd (tOp rAdd (tVar 5) (tVar 6)) (tDr (tC (.int 4)))) (gName 9))
      (tSeq (tAsg (tOp rSub (tOp rSub (tOp rAdd (tOp rAdd (tOp rAdd (tVar 5) (tVar 6)) (tVar 4)) (tVar 3)) (tC (.int 2))) (tDr (tC (.int 4)))) (gName 10))
      (tFil K (tTest (tChain rLe rLe (tVar 9) (tCB (rSumT K) (tCons (tVar 12) tNil)) (tVar 10)))))) tNext D σ H' := by
  obtain ⟨⟨e, xs, cs, y8, y9, y10, rfl, he0, hep, he, hc, gd, hl⟩, kx, po⟩ := id h
  refine ⟨_, rfl, rfl, _, rfl, ite2 (fun e => ?_) (fun e => ?_)⟩
  · refine ⟨_, rfl, _, rfl, _, _, rfl, rfl, _, rfl, p, 4, rfl, po, by decide, by decide, fun H1 a k1 po1 _ _ => ⟨_, _, rfl, rfl, ?_⟩⟩
    refine ⟨_, rfl, _, rfl, _, _, rfl, rfl, _, rfl, _, _, rfl, rfl, _, rfl, _, _, rfl, rfl, _, _, rfl, rfl, _, rfl, p, 4, rfl, po1, by decide, by decide, fun H2 b k2 po2 _ _ => ⟨_, _, rfl, rfl, ?_⟩⟩
    have k12 := k1.trans k2
    refine fil_ok (p := p) (H := H) (m := m) (mode := mode) (wide := wide) (high := high) (top := top) (left := left)
      ⟨⟨_, xs, cs, y8, _, _, rfl, he0, hep, k12 _ _ hep he, cells_kt (KT.of_keepX po k12) hc, gd, hl⟩, kx.trans k12, po2⟩ (fun t c H3 R ht p3 kk => ?_) k
    refine ⟨_, rfl, _, rfl, t, [c.1, c.2], rfl, ht, _, _, rfl, rfl, _, rfl, ite2 (fun e1 => ?_) (fun e1 => ?_)⟩
    · exact ⟨_, rfl, _, _, rfl, rfl, _, rfl, kk _ _ (KeepX.refl _ _) p3⟩
    · exact ⟨_, rfl, kk _ _ (KeepX.refl _ _) p3⟩
  · exact k _ _ h
end KS
namespace KS
open PySem PySem.Spec PyProof.Rows L2
theorem tyx_tup {K : PySem.W.Frag} {H : Hp} {a : Addr} {xs : List V} (h : SqT K H a xs) : TyX K H (.ref a) (.type "tuple") := by
  rcases h with (h | ⟨o, h⟩) | h
  · exact .base (.tup h)
  · exact .fTuple h
  · obtain ⟨o, its, n, e, c, r⟩ := h
    exact .kTuple e c
theorem bl_true {p : Prop} [Decidable p] (h : p) : V.bl (decide p) = V.bl true := by rw [decide_eq_true h]
theorem bl_false {p : Prop} [Decidable p] (h : ¬ p) : V.bl (decide p) = V.bl false := by rw [decide_eq_false h]
/-- a number of a row or column -/
def Place (v : Int) : Prop := 0 ≤ v ∧ v ≤ 7
def spWhole : Sp := fun vs H Q _ => ∃ i : Int, vs = [.int i] ∧ Q (.bl true) H
def spBetween : Sp := fun vs H Q _ => ∃ i lo hi : Int, vs = [.int i, .int lo, .int hi] ∧ lo ≤ i ∧ i ≤ hi ∧ Q (.bl true) H
def spPlace : Sp := fun vs H Q _ => ∃ i : Int, vs = [.int i] ∧ Place i ∧ Q (.bl true) H
def spIsCell (K : PySem.W.Frag) : Sp := fun vs H Q _ => ∃ (a : Addr) (c : Cell), vs = [.ref a] ∧ SqT K H a [.int c.1, .int c.2] ∧ InGrid c ∧ Q (.bl true) H
def spCheck (K : PySem.W.Frag) : Sp := fun vs H Q _ => ∃ (a : Addr) (cs : List Cell), vs = [.ref a] ∧ PlanAt K H a cs ∧ Good cs ∧ cs.length ≤ 24 ∧ ∀ H', Same H H' → Q .non H'
theorem good_step {cs : List Cell} (g : cs.Pairwise lt2) {i : Nat} {a b : Cell} (h1 : cs[i]? = some a) (h2 : cs[i + 1]? = some b) : lt2 a b := by
  obtain ⟨l1, e1⟩ := List.getElem?_eq_some_iff.mp h1
  obtain ⟨l2, e2⟩ := List.getElem?_eq_some_iff.mp h2
  have := (List.pairwise_iff_getElem.mp g) i (i + 1) l1 l2 (by omega)
  rw [e1, e2] at this
  exact this
theorem not_le2 {a b : Cell} (h : lt2 a b) : Ob.lexAt (fun j => decide (([b.1, b.2] : List Int).getD j 0 = ([a.1, a.2] : List Int).getD j 0)) (fun j => decide (([b.1, b.2] : List Int).getD j 0 ≤ ([a.1, a.2] : List Int).getD j 0)) (decide (([b.1, b.2] : List Int).length ≤ ([a.1, a.2] : List Int).length)) 0 (min ([b.1, b.2] : List Int).length ([a.1, a.2] : List Int).length) = false := by
  show Ob.lexAt _ _ _ 0 2 = false
  rw [Ob.lexAt_succ, Ob.lexAt_succ]
  show (if decide (b.1 = a.1) = true then (if decide (b.2 = a.2) = true then _ else decide (b.2 ≤ a.2)) else decide (b.1 ≤ a.1)) = false
  rcases h with h | ⟨h1, h2⟩
  · rw [if_neg (by simp; omega)]
    simp
    omega
  · rw [if_pos (by simp; omega), if_neg (by simp; omega)]
    simp
    omega
end KS
namespace KS
open PySem PySem.Spec PyProof.Rows L2
def topS (i : Nat) : Stmt := PySem.Challenge.pw_keepsort_k05_plans_and_fillings_refused.main.body.getD i (.Pass ⟨0, 0, 0, 0⟩)
abbrev sCell : Stmt := topS 64
abbrev sPool : Stmt := topS 65
abbrev sDraw : Stmt := topS 66
theorem scCell : FnScope ["_law_script", "_law_k", "_law_state", "_law_number"] ["_law_script", "_law_k"] (defScope sCell) := ⟨rfl, rfl, rfl, by decide +kernel, rfl, by decide +kernel, by decide +kernel⟩
theorem scPool : FnScope ["_law_number", "_law_digits"] ["_law_number"] (defScope sPool) := ⟨rfl, rfl, rfl, by decide +kernel, rfl, by decide +kernel, by decide +kernel⟩
theorem scDraw : FnScope ["_law_pool_here", "_law_most", "_law_state", "_law_digit"] ["_law_pool_here", "_law_most"] (defScope sDraw) := ⟨rfl, rfl, rfl, by decide +kernel, rfl, by decide +kernel, by decide +kernel⟩
section
variable {P : Program} {w : World} {K : PySem.W.Frag} {mg : Str → Option Value} {base : Heap}
theorem ok_cell {f : Addr} {fd : FuncData} (F : Fun K "_law_cell" "_law_cell" sCell f fd) (ml : mg "len" = none) : FnOk P w K mg base CX0 1 f fd ["_law_script", "_law_k"] (spCell K) := by
  refine F.ok scCell (fun vs H Q E h => ?_) (fun cdv A outer s H vs Q E hr h => ?_)
  · obtain ⟨a, ns, k, rfl, _⟩ := h
    rfl
  · obtain ⟨a, ns, k, rfl, hS, hk, q⟩ := h
    refine ⟨_, pss_cons (ps_if (pt_cmpR op_lt (pv 1) (pe_callB call_len_seq (by rfl) ml PySem.boot_len (pa_cons (pv 0) pa_nil)) (nomark _))
        (pss_one (ps_ret (pe_ix ix_list (pv 0) (pv 1) (fun _ _ => rfl)))) pss_nil)
      (pss_cons (ps_set (i := 2) scCell.nd rfl (.inl rfl) (pe_op op_mod (pe_op op_mul pe_int (pe_op op_add (pe_op op_add (pe_op op_mul (pv 1) (pv 1)) (pe_op op_mul pe_int (pv 1))) pe_int)) pe_int))
      (pss_cons (ps_for PassesOwn.never rfl (pi_list (pe_slice sl_list (pv 0) po_none (po_some pe_int))) (pg_name (i := 3) scCell.nd rfl (.inl rfl))
        (pss_one (ps_set (i := 2) scCell.nd rfl (.inl rfl) (pe_op op_mod (pe_op op_add (pe_op op_mul (pv 2) pe_int) (pv 3)) pe_int))))
      (pss_one (ps_ret (pv 2))))), ?_⟩
    refine ⟨_, rfl, _, rfl, a, ns.map V.int, rfl, .inl hS, _, _, rfl, rfl, _, rfl, ite2 (fun e => ?_) (fun e => ?_)⟩
    · have e0 : (k : Int) < ((ns.map V.int).length : Int) := of_decide_eq_true e
      rw [List.length_map] at e0
      have hj : k < ns.length := by omega
      refine ⟨_, rfl, _, rfl, a, _, _, .int ns[k], rfl, rfl, hS, atI_nat (j := k) ?_, q H _ (Same.refl H)⟩
      rw [List.getElem?_map, List.getElem?_eq_getElem hj]
      rfl
    · refine ⟨_, rfl, _, rfl, _, _, rfl, rfl, .inl ⟨by omega, by omega⟩, _, rfl, _, _, rfl, rfl, .inl ⟨by omega, by omega⟩, _, _, rfl, rfl, _, _, rfl, rfl, _, _, rfl, rfl, .inl ⟨by omega, by omega⟩, _, _, rfl, rfl, by show (0 : Int) < 2147483249; decide, ?_⟩
      refine ⟨_, rfl, 3, rfl, a, _, rfl, hS, fun c nc => ?_⟩
      have s1 := same_new (o := .lst (cutV (ns.map V.int) none (some 3))) nc
      have hc : SqL K (upd H c (.lst (cutV (ns.map V.int) none (some 3)))) c (cutV (ns.map V.int) none (some 3)) := SqL.of upd_same
      refine ⟨c, rfl, ⟨_, hc⟩, for_list (K := K) (a := c) (xs := cutV (ns.map V.int) none (some 3)) (fun i σ H' => ∃ (st : Int) (y : Option V), σ = [some (.ref a), some (.int k), some (.int st), y] ∧ 0 ≤ st ∧ st < 2147483249 ∧ H' = upd H c (.lst (cutV (ns.map V.int) none (some 3)))) ?_ ?_ ?_ ?_⟩
      · have b := int_mod_bd (60013 * ((k : Int) * k + 5 * k + 3)) (m := 2147483249) (by decide)
        exact ⟨_, none, rfl, b.1, b.2, rfl⟩
      · rintro i σ H' _ ⟨st, y, rfl, _, _, rfl⟩
        exact hc
      · rintro i x σ H' hi ⟨st, y, rfl, h0, h1, rfl⟩
        have hm : x ∈ ns.map V.int := by
          have := List.mem_of_getElem? hi
          unfold cutV at this
          exact List.mem_of_mem_drop (List.mem_of_mem_take this)
        obtain ⟨n, _, rfl⟩ := List.mem_map.mp hm
        have b := int_mod_bd (st * 41221 + n) (m := 2147483249) (by decide)
        refine ⟨_, rfl, _, _, rfl, rfl, .inl ⟨by omega, by omega⟩, _, rfl, _, _, rfl, rfl, _, _, rfl, rfl, by show (0 : Int) < 2147483249; decide, ?_⟩
        exact ⟨_, some (.int n), rfl, b.1, b.2, rfl⟩
      · rintro σ H' ⟨st, y, rfl, h0, h1, rfl⟩
        exact ⟨_, rfl, q _ _ s1⟩
theorem ok_pool {f : Addr} {fd : FuncData} (F : Fun K "_law_pool" "_law_pool" sPool f fd) (ma : mg "abs" = none) : FnOk P w K mg base CX0 1 f fd ["_law_number"] spPool := by
  refine F.ok scPool (fun vs H Q E h => ?_) (fun cdv A outer s H vs Q E hr h => ?_)
  · obtain ⟨n, rfl, _⟩ := h
    rfl
  · obtain ⟨n, rfl, q⟩ := h
    refine ⟨_, pss_cons (ps_set (i := 1) scPool.nd rfl (.inl rfl) (pe_ifExp (PW.pt (pw_or (pt_cmpR op_lt (pv 0) pe_int (nomark _)) (pw_or1 (pt_cmpR op_ge (pv 0) (pe_op op_pow pe_int pe_int) (nomark _)))))
        (pe_callB call_abs (by rfl) ma (by decide +kernel) (pa_cons (pv 0) pa_nil)) pe_int))
      (pss_one (ps_ret (pe_lst (pa_cons (pe_op op_mod (pv 0) pe_int) (pa_cons (pv 1) (pa_cons pe_int pa_nil)))))), ?_⟩
    have b := int_mod_bd n (m := 2147483249) (by decide)
    have fin : ∀ d : Int, 0 ≤ d → tRet (tLst (tCons (tOp (rI (fun _ j => 0 < j) fun i j => .int (i % j)) (tVar 0) (tC (.int 2147483249))) (tCons (tVar 1) (tCons (tC (.int 0)) tNil)))) { nx := fun _ H' => Q .non H', rt := Q } [some (.int n), some (.int d)] H := fun d hd => by
      refine ⟨_, rfl, _, _, rfl, rfl, by show (0 : Int) < 2147483249; decide, _, rfl, (by show 3 ≤ sizeLine; decide), fun p np => ?_⟩
      exact q _ _ (same_new np) np ⟨_, _, _, upd_same, b.1, b.2, hd⟩
    refine ⟨_, rfl, _, _, rfl, rfl, _, rfl, ite2 (fun e => ?_) (fun e => ?_)⟩
    · have e0 : n < 0 := of_decide_eq_true e
      refine iteT ⟨_, rfl, n, rfl, ?_⟩
      rw [if_pos e0]
      exact fin _ (by omega)
    · refine ⟨_, rfl, _, _, rfl, rfl, ⟨by decide, by decide, by decide⟩, _, _, rfl, rfl, _, rfl, ite2 (fun e1 => ?_) (fun e1 => ?_)⟩
      · have e0 : ¬ n < 0 := fun z => e (decide_eq_true z)
        refine ⟨_, rfl, n, rfl, ?_⟩
        rw [if_neg e0]
        exact fin _ (by omega)
      · exact fin _ (by omega)
theorem ok_draw {f : Addr} {fd : FuncData} (F : Fun K "_law_draw" "_law_draw" sDraw f fd) (md : mg "divmod" = none) : FnOk P w K mg base CX0 1 f fd ["_law_pool_here", "_law_most"] spDraw := by
  refine F.ok scDraw (fun vs H Q E h => ?_) (fun cdv A outer s H vs Q E hr h => ?_)
  · obtain ⟨p, m, rfl, _⟩ := h
    rfl
  · obtain ⟨p, m, rfl, ⟨a, b, c, hp, a0, a1, b0⟩, m0, m1, q⟩ := h
    refine ⟨_, pss_cons (ps_asg (pe_op op_add (pe_ix ix_list (pv 0) pe_int (fun _ _ => rfl)) pe_int) (pg_sub (pv 0) pe_int set_list))
      (pss_cons (ps_set (i := 2) scDraw.nd rfl (.inl rfl) (pe_ix ix_list (pv 0) pe_int (fun _ _ => rfl)))
      (pss_cons (ps_asg (pe_op op_mod (pe_op op_add (pe_op op_mul (pv 2) (pe_op op_add (pe_op op_mod (pv 2) pe_int) pe_int)) (pe_op op_mul pe_int (pe_ix ix_list (pv 0) pe_int (fun _ _ => rfl)))) pe_int) (pg_sub (pv 0) pe_int set_list))
      (pss_cons (ps_if (pt_cmpR op_gt (pe_ix ix_list (pv 0) pe_int (fun _ _ => rfl)) pe_int (nomark _))
        (pss_cons (ps_asg (pe_callB call_divmod (by rfl) md (by decide +kernel) (pa_cons (pe_ix ix_list (pv 0) pe_int (fun _ _ => rfl)) (pa_cons (pv 1) pa_nil)))
            (pg_tup (by rfl) (pgs_cons (pg_sub (pv 0) pe_int set_list) (pgs_cons (pg_name (i := 3) scDraw.nd rfl (.inl rfl)) pgs_nil))))
          (pss_one (ps_ret (pv 3)))) pss_nil)
      (pss_one (ps_ret (pe_op op_mod (pe_op op_fdiv (pe_ix ix_list (pv 0) pe_int (fun _ _ => rfl)) pe_int) (pv 1))))))), ?_⟩
    -- pool[2] = pool[2] + 1
    refine ⟨_, rfl, p, _, 2, .int c, rfl, rfl, SqL.of hp, rfl, _, _, rfl, rfl, _, rfl, p, _, 2, 2, rfl, rfl, hp, rfl, ?_⟩
    refine ⟨_, rfl, p, _, 0, .int a, rfl, rfl, SqL.of upd_same, rfl, ?_⟩
    have bm := int_mod_bd a (m := 50021) (by decide)
    refine ⟨_, rfl, _, rfl, _, _, rfl, rfl, by show (0 : Int) < 50021; decide, _, _, rfl, rfl, _, _, rfl, rfl, .inl ⟨by omega, by omega⟩, _, rfl, p, _, 2, .int (c + 1), rfl, rfl, SqL.of upd_same, rfl, _, _, rfl, rfl, .inl ⟨by decide, by decide⟩, _, _, rfl, rfl, _, _, rfl, rfl, by show (0 : Int) < 2147483249; decide, ?_⟩
    refine ⟨_, rfl, p, _, 0, 0, rfl, rfl, upd_same, rfl, ?_⟩
    have bz := int_mod_bd (a * (a % 50021 + 30011) + 80021 * (c + 1)) (m := 2147483249) (by decide)
    rw [upd_upd]
    show _
    refine ⟨_, rfl, p, _, 1, .int b, rfl, rfl, SqL.of upd_same, rfl, _, _, rfl, rfl, _, rfl, ite2 (fun e => ?_) (fun e => ?_)⟩
    · refine ⟨_, rfl, p, _, 1, .int b, rfl, rfl, SqL.of upd_same, rfl, _, rfl, b, m, rfl, ⟨m0, m1⟩, fun t nt => ?_⟩
      have npt : p ≠ t := ne_of_none upd_same nt
      refine ⟨t, _, rfl, SqT.of upd_same, rfl, _, _, rfl, ?_⟩
      refine ⟨_, rfl, p, _, 1, 1, rfl, rfl, by rw [upd_ne npt]; exact upd_same, rfl, _, [], rfl, rfl, ?_⟩
      have br := int_mod_bd b m0
      refine ⟨_, rfl, q _ _ (fun x o n e => ?_) ⟨_, _, _, upd_same, bz.1, bz.2, Int.ediv_nonneg b0 (by omega)⟩ br.1 br.2⟩
      rw [upd_ne n, upd_ne, upd_ne n]
      · exact e
      · intro z
        rw [z] at e
        rw [upd_ne (Ne.symm npt)] at nt
        rw [nt] at e
        cases e
    · refine ⟨_, rfl, p, _, 0, .int ((a * (a % 50021 + 30011) + 80021 * (c + 1)) % 2147483249), rfl, rfl, SqL.of upd_same, rfl, _, _, rfl, rfl, ⟨by decide, by decide⟩, _, rfl, _, _, rfl, rfl, m0, ?_⟩
      have br := int_mod_bd ((a * (a % 50021 + 30011) + 80021 * (c + 1)) % 2147483249 / 64) m0
      exact q _ _ keepX_upd ⟨_, _, _, upd_same, bz.1, bz.2, b0⟩ br.1 br.2
end
end KS
namespace KS
open PySem PySem.Spec PyProof.Rows L2
abbrev sWhole : Stmt := topS 30
abbrev sBetween : Stmt := topS 31
abbrev sPlace : Stmt := topS 32
abbrev sIsCell : Stmt := topS 33
abbrev sCheck : Stmt := topS 34
theorem scWhole : FnScope ["value"] ["value"] (defScope sWhole) := ⟨rfl, rfl, rfl, by decide +kernel, rfl, by decide +kernel, by decide +kernel⟩
theorem scBetween : FnScope ["value", "least", "most"] ["value", "least", "most"] (defScope sBetween) := ⟨rfl, rfl, rfl, by decide +kernel, rfl, by decide +kernel, by decide +kernel⟩
theorem scPlace : FnScope ["value"] ["value"] (defScope sPlace) := ⟨rfl, rfl, rfl, by decide +kernel, rfl, by decide +kernel, by decide +kernel⟩
theorem scIsCell : FnScope ["value"] ["value"] (defScope sIsCell) := ⟨rfl, rfl, rfl, by decide +kernel, rfl, by decide +kernel, by decide +kernel⟩
theorem scCheck : FnScope ["plan", "index", "cell"] ["plan"] (defScope sCheck) := ⟨rfl, rfl, rfl, by decide +kernel, rfl, by decide +kernel, by decide +kernel⟩
section
variable {P : Program} {w : World} {K : PySem.W.Frag} {mg : Str → Option Value} {base : Heap}
theorem ok_whole {f : Addr} {fd : FuncData} (F : Fun K "is_whole" "is_whole" sWhole f fd) (mi : mg "isinstance" = none) (mI : mg "int" = none) (mB : mg "bool" = none) : FnOk P w K mg base CX0 1 f fd ["value"] spWhole := by
  refine F.ok scWhole (fun vs H Q E h => ?_) (fun cdv A outer s H vs Q E hr h => ?_)
  · obtain ⟨i, rfl, _⟩ := h
    rfl
  · obtain ⟨i, rfl, q⟩ := h
    refine ⟨_, pss_one (ps_ret (pe_and (pe_callB call_isi (by rfl) mi (by decide +kernel) (pa_cons (pv 0) (pa_cons (pe_bltn (v := .ty "int") (by rfl) mI (by decide +kernel) rfl) pa_nil)))
      (pe_one (pe_not (pe_callB call_isi (by rfl) mi (by decide +kernel) (pa_cons (pv 0) (pa_cons (pe_bltn (v := .ty "bool") (by rfl) mB (by decide +kernel) rfl) pa_nil))))))), ?_⟩
    refine ⟨_, rfl, _, _, _, _, true, rfl, .ty "int", .base (.int i), kit_ty (by decide +kernel), true, rfl, ?_⟩
    refine ⟨_, rfl, _, _, _, _, false, rfl, .ty "bool", .base (.int i), kit_ty (by decide +kernel), false, rfl, ?_⟩
    exact q
theorem ok_between {f fW : Addr} {fd fdW : FuncData} (F : Fun K "is_between" "is_between" sBetween f fd) (GW : FnOk P w K mg base CX0 1 fW fdW ["value"] spWhole) (bW : Binds K fdW ["value"] []) (gW : mg "is_whole" = some (.ref fW)) (kW : PySem.W.keepIn K (.ref fW) = true) :
    FnOk P w K mg base CX0 2 f fd ["value", "least", "most"] spBetween := by
  refine F.ok scBetween (fun vs H Q E h => ?_) (fun cdv A outer s H vs Q E hr h => ?_)
  · obtain ⟨i, lo, hi, rfl, _⟩ := h
    rfl
  · obtain ⟨i, lo, hi, rfl, h1, h2, q⟩ := h
    refine ⟨_, pss_one (ps_ret (pe_and (pe_call GW hr (by rfl) gW kW bW .nil pass0 (pa_cons (pv 0) pa_nil)) (pe_one (pe_chain op_le op_le (pv 1) (pv 0) (pv 2))))), ?_⟩
    refine ⟨_, rfl, i, rfl, true, rfl, ?_⟩
    refine ⟨_, rfl, _, rfl, _, _, rfl, rfl, true, bl_true h1, ?_⟩
    refine ⟨_, rfl, _, _, rfl, rfl, ?_⟩
    show Q (V.bl (decide (i ≤ hi))) H
    rw [bl_true h2]
    exact q
theorem ok_place {f fB : Addr} {fd fdB : FuncData} {t : Tok} (F : Fun K "is_place" "is_place" sPlace f fd) (GB : FnOk P w K mg base CX0 2 fB fdB ["value", "least", "most"] spBetween) (bB : Binds K fdB ["value", "least", "most"] []) (gB : mg "is_between" = some (.ref fB)) (kB : PySem.W.keepIn K (.ref fB) = true)
    (mM : mg "MOST_INDEX" = some (.int 7 t)) : FnOk P w K mg base CX0 3 f fd ["value"] spPlace := by
  refine F.ok scPlace (fun vs H Q E h => ?_) (fun cdv A outer s H vs Q E hr h => ?_)
  · obtain ⟨i, rfl, _⟩ := h
    rfl
  · obtain ⟨i, rfl, hp, q⟩ := h
    refine ⟨_, pss_one (ps_ret (pe_call GB hr (by rfl) gB kB bB .nil pass0 (pa_cons (pv 0) (pa_cons pe_int (pa_cons (pe_glob (v := .int 7) (by rfl) mM ⟨_, rfl⟩) pa_nil))))), ?_⟩
    exact ⟨_, rfl, i, 0, 7, rfl, hp.1, hp.2, q⟩
theorem ok_isCell {f fP : Addr} {fd fdP : FuncData} (F : Fun K "is_cell" "is_cell" sIsCell f fd) (GP : FnOk P w K mg base CX0 3 fP fdP ["value"] spPlace) (bP : Binds K fdP ["value"] []) (gP : mg "is_place" = some (.ref fP)) (kP : PySem.W.keepIn K (.ref fP) = true)
    (mi : mg "isinstance" = none) (mT : mg "tuple" = none) (ml : mg "len" = none) : FnOk P w K mg base CX0 4 f fd ["value"] (spIsCell K) := by
  refine F.ok scIsCell (fun vs H Q E h => ?_) (fun cdv A outer s H vs Q E hr h => ?_)
  · obtain ⟨a, c, rfl, _⟩ := h
    rfl
  · obtain ⟨a, c, rfl, ht, hg, q⟩ := h
    refine ⟨_, pss_one (ps_ret (pe_and (pe_callB call_isi (by rfl) mi (by decide +kernel) (pa_cons (pv 0) (pa_cons (pe_bltn (v := .ty "tuple") (by rfl) mT (by decide +kernel) rfl) pa_nil)))
      (pe_and (pe_cmpR op_eq (pe_callB call_len_seq (by rfl) ml PySem.boot_len (pa_cons (pv 0) pa_nil)) pe_int (nomark _))
      (pe_and (pe_call GP hr (by rfl) gP kP bP .nil pass0 (pa_cons (pe_ix ix_tup (pv 0) pe_int (fun _ _ => rfl)) pa_nil))
      (pe_one (pe_call GP hr (by rfl) gP kP bP .nil pass0 (pa_cons (pe_ix ix_tup (pv 0) pe_int (fun _ _ => rfl)) pa_nil))))))), ?_⟩
    refine ⟨_, rfl, _, _, _, _, true, rfl, .ty "tuple", tyx_tup ht, kit_ty (by decide +kernel), true, rfl, ?_⟩
    refine ⟨_, rfl, a, _, rfl, .inr ht, rfl, true, rfl, ?_⟩
    refine ⟨_, rfl, a, _, 0, .int c.1, rfl, rfl, ht, rfl, c.1, rfl, ⟨hg.1, hg.2.1⟩, true, rfl, ?_⟩
    exact ⟨_, rfl, a, _, 1, .int c.2, rfl, rfl, ht, rfl, c.2, rfl, ⟨hg.2.2.1, hg.2.2.2⟩, q⟩
theorem ok_check {f fI : Addr} {fd fdI : FuncData} {t : Tok} (F : Fun K "check_plan" "check_plan" sCheck f fd) (GI : FnOk P w K mg base CX0 4 fI fdI ["value"] (spIsCell K)) (bI : Binds K fdI ["value"] []) (gI : mg "is_cell" = some (.ref fI)) (kI : PySem.W.keepIn K (.ref fI) = true)
    (mi : mg "isinstance" = none) (mT : mg "tuple" = none) (ml : mg "len" = none) (me : mg "enumerate" = none) (mM : mg "MOST_CELLS" = some (.int 24 t)) : FnOk P w K mg base CX0 5 f fd ["plan"] (spCheck K) := by
  refine F.ok scCheck (fun vs H Q E h => ?_) (fun cdv A outer s H vs Q E hr h => ?_)
  · obtain ⟨a, c, rfl, _⟩ := h
    rfl
  · obtain ⟨a, cs, rfl, ⟨xs, hx, hc⟩, gd, hl, q⟩ := h
    have nd := scCheck.nd
    refine ⟨_, pss_cons (ps_if (PW.pt (pw_or (pt_not (pt_val (pe_callB call_isi (by rfl) mi (by decide +kernel) (pa_cons (pv 0) (pa_cons (pe_bltn (v := .ty "tuple") (by rfl) mT (by decide +kernel) rfl) pa_nil)))))
          (pw_or1 (pt_not (pt_chain op_le op_le pe_int (pe_callB call_len_seq (by rfl) ml PySem.boot_len (pa_cons (pv 0) pa_nil)) (pe_glob (v := .int 24) (by rfl) mM ⟨_, rfl⟩))))))
        (pss_one ps_never) pss_nil)
      (pss_one (ps_for PassesOwn.never rfl (pi_enumT (by rfl) me (pa_cons (pv 0) pa_nil)) (pg_tup (by rfl) (pgs_cons (pg_name (i := 1) nd rfl (.inl rfl)) (pgs_cons (pg_name (i := 2) nd rfl (.inl rfl)) pgs_nil)))
        (pss_cons (ps_if (pt_not (pt_val (pe_call GI hr (by rfl) gI kI bI .nil pass0 (pa_cons (pv 2) pa_nil)))) (pss_one ps_never) pss_nil)
        (pss_one (ps_if (PW.pt (pw_and (pt_cmpR op_gt (pv 1) pe_int (nomark _)) (pw_and1 (pt_cmpR (op_leT hr.units0) (pv 2) (pe_ix ix_tup (pv 0) (pe_op op_sub (pv 1) pe_int) (fun _ _ => rfl)) (nomark _))))) (pss_one ps_never) pss_nil))))), ?_⟩
    have hlen := Paired.length hc
    have h1 : 1 ≤ xs.length := by
      rcases Nat.eq_zero_or_pos cs.length with z | z
      · exact absurd (List.eq_nil_of_length_eq_zero z) gd.ne
      · omega
    refine ⟨_, rfl, _, _, _, _, true, rfl, .ty "tuple", tyx_tup hx, kit_ty (by decide +kernel), true, rfl, ?_⟩
    refine ⟨_, rfl, a, _, rfl, .inr hx, _, _, rfl, rfl, true, bl_true (show (1 : Int) ≤ (xs.length : Int) by omega), ?_⟩
    refine ⟨_, _, rfl, rfl, true, bl_true (show (xs.length : Int) ≤ 24 by omega), ?_⟩
    refine ⟨_, rfl, a, xs, rfl, hx, for_enumT (K := K) (a := a) (xs := xs) (fun i σ H' => Same H H' ∧ ∃ y1 y2, σ = [some (.ref a), y1, y2]) ?_ ?_ ?_ ?_⟩
    · exact ⟨Same.refl _, none, none, rfl⟩
    · rintro i σ H' _ ⟨sm, _⟩
      exact same_seqT sm hx
    · rintro i x σ H' T hi ⟨sm, y1, y2, rfl⟩ nT
      obtain ⟨c, hci, tt, rfl, ht⟩ := paired_get hc hi
      have sT := same_new (o := .tup [.int (i : Nat), .ref tt]) nT
      have s2 := sm.trans sT
      refine ⟨T, _, rfl, SqT.of upd_same, rfl, _, _, rfl, _, _, rfl, rfl, ?_⟩
      refine ⟨_, rfl, tt, c, rfl, same_seqT s2 ht, gd.grid c (List.mem_of_getElem? hci), true, rfl, ?_⟩
      refine ⟨_, rfl, _, _, rfl, rfl, _, rfl, ite2 (fun e => ?_) (fun e => ?_)⟩
      · have e' : (0 : Int) < (i : Int) := of_decide_eq_true e
        obtain ⟨j, rfl⟩ : ∃ j, i = j + 1 := ⟨i - 1, by omega⟩
        have hj : j < xs.length := by
          have := (List.getElem?_eq_some_iff.mp hi).1
          omega
        obtain ⟨c0, hc0, t0, e0, ht0⟩ := paired_get hc (List.getElem?_eq_getElem hj)
        have gx : xs[j]? = some (.ref t0) := by rw [List.getElem?_eq_getElem hj, e0]
        have ej : ((j + 1 : Nat) : Int) - 1 = ((j : Nat) : Int) := by omega
        refine ⟨_, rfl, _, rfl, _, rfl, _, _, rfl, rfl, a, xs, _, .ref t0, rfl, rfl, same_seqT s2 hx, ?_, tt, t0, [c.1, c.2], [c0.1, c0.2], rfl, rfl, same_seqT s2 ht, same_seqT s2 ht0, false, ?_, ?_⟩
        · show atI xs (((j + 1 : Nat) : Int) - 1) = _
          rw [ej]
          exact atI_nat gx
        · rw [not_le2 (good_step gd.asc hc0 hci)]
        · exact ⟨s2, _, _, rfl⟩
      · exact ⟨s2, _, _, rfl⟩
    · rintro σ H' ⟨sm, _⟩
      exact q H' sm
end
end KS
namespace KS
open PySem PySem.Spec PyProof.Rows L2
/-! ### f(k = v, ..), keywords alone -/
structure KwBinds (fd : FuncData) (ps ks : List Str) (g : List Value → List Value) (gV : List V → List V) : Prop where
  to : ∀ (s : Shared) (ws : List Value), (g ws).length = ps.length → BindsTo s fd ⟨[], ks.zip ws⟩ (ps.zip (g ws))
  rel : ∀ {zs : List V} {ws : List Value}, Vals zs ws → Vals (gV zs) (g ws)
def tCallKw (sp : Sp) (gV : List V → List V) (E : XK) (tk : TA) : TE := fun σ H Q => tk σ H fun zs H2 => sp (gV zs) H2 Q E
section
variable {X : Cx} {CX : CXT} {k : Nat} {f : Addr} {fd : FuncData} {ps ks : List Str} {sp : Sp} {E : XK} {x : Str} {p pos : Pos} {kws : List Keyword} {tk : TA} {g : List Value → List Value} {gV : List V → List V}
theorem pe_callKw (F : FnOk X.prog X.w X.K X.mg X.base CX k f fd ps sp) (hr : Room k X.A) (hg : Gl X x) (hm : X.mg x = some (.ref f)) (hk : PySem.W.keepIn X.K (.ref f) = true) (hb : KwBinds fd ps ks g gV)
    (hx : Passes CX X E) (hkw : PK X kws tk) (hall : (backToKw pos (keywordEach kws X.env)).all (·.1.isSome) = true := by rfl)
    (hks : (backToKw pos (keywordEach kws X.env)).filterMap (·.1) = ks := by rfl) (hdb : (x == ("__debug__" : Str)) = false := by decide)
    (hpl : ((backTo pos (starEach [] X.env)).any (·.1) || (backToKw pos (keywordEach kws X.env)).any (·.1.isNone)) = false := by rfl) :
    PE X (.Call (.Name x p) [] kws pos) (tCallKw sp gV E tk) := by
  refine ⟨fun pins s σ H Q I h => wpAny_Call_Name_kw (ld_glob I hg hm ?_ hdb)⟩
  refine PySem.W.callWith_KW0 (h₀ := X.base) I.ok.mod.kin hk hall ?_ hpl
  refine thn (hkw.run pos pins s σ H _ I h) fun ws s2 hh => ?_
  obtain ⟨zs, H2, I2, rz, q2⟩ := hh
  refine ⟨I2.kIn, ?_⟩
  rw [hks]
  have r2 := hb.rel rz
  have hl : (g ws).length = ps.length := by
    rw [← r2.length]
    exact F.len _ _ _ _ q2
  show wpAny _ _ (call (.ref f) [] (ks.zip ws)) _ _ _
  refine wpAny_call (codeAny_mono (F.run X.A X.stack s2 H2 ⟨[], ks.zip ws⟩ (g ws) (gV zs) Q E hr I2.env0 (hb.to s2 ws hl) r2 q2) fun z s' hq => ?_)
  cases z with
  | error e => exact hx pins σ H2 s2 e s' I2 hq
  | ok fl =>
    cases fl with
    | ret u => exact I2.after hq
    | next => cases hq
    | brk => cases hq
    | cont => cases hq
end
theorem kw_binds {K : PySem.W.Frag} {x qual : Str} {st : Stmt} {f : Addr} {fd : FuncData} {ps ks : List Str} {g : List Value → List Value} {gV : List V → List V} (F : Fun K x qual st f fd)
    (h : ∀ (kV doc pm : Value) (an : Option Addr) (cdv ct : Value) (ws : List Value), (g ws).length = ps.length →
      bindArgs (PySem.W.fnOf x qual (defArgs st) (defBody st) (defScope st) .none kV doc pm an cdv ct) ⟨[], ks.zip ws⟩ = pure (ps.zip (g ws)))
    (rel : ∀ {zs : List V} {ws : List Value}, Vals zs ws → Vals (gV zs) (g ws)) : KwBinds fd ps ks g gV := by
  obtain ⟨oc, od, kV, doc, pm, an, cdv, ct, osl, rfl, lk, hcd⟩ := F.ex
  exact ⟨fun s ws hl => .of_eq (h kV doc pm an cdv ct ws hl), rel⟩
/-- two keywords, in the other order -/
def swap2 {α : Type} : List α → List α
  | [a, b] => [b, a]
  | _ => []
theorem swap2_rel {zs : List V} {ws : List Value} (r : Vals zs ws) : Vals (swap2 zs) (swap2 ws) := by
  cases r with
  | nil => exact .nil
  | cons r1 r2 =>
    cases r2 with
    | nil => exact .nil
    | cons r3 r4 =>
      cases r4 with
      | nil => exact .cons r3 (.cons r1 .nil)
      | cons _ _ => exact .nil
/-! ### lines, as numbers -/
/-- row (false) or column (true) of a cell -/
def pick (b : Bool) (c : Cell) : Int := if b = true then c.2 else c.1
/-- the indexes below i of cells in line r -/
def idxs (b : Bool) (cs : List Cell) (i : Nat) (r : Int) : List Int := ((List.range i).filter fun j => decide ((cs[j]?).map (pick b) = some r)).map fun (j : Nat) => (j : Int)
theorem idxs_zero (b : Bool) (cs : List Cell) (r : Int) : idxs b cs 0 r = [] := rfl
theorem idxs_hit {b : Bool} {cs : List Cell} {i : Nat} {c : Cell} (h : cs[i]? = some c) : idxs b cs (i + 1) (pick b c) = idxs b cs i (pick b c) ++ [(i : Int)] := by
  unfold idxs
  rw [List.range_succ, List.filter_append, List.map_append]
  congr 1
  rw [List.filter_cons_of_pos (by simp [h])]
  rfl
theorem idxs_miss {b : Bool} {cs : List Cell} {i : Nat} {c : Cell} {r : Int} (h : cs[i]? = some c) (n : pick b c ≠ r) : idxs b cs (i + 1) r = idxs b cs i r := by
  unfold idxs
  rw [List.range_succ, List.filter_append, List.map_append]
  rw [List.filter_cons_of_neg (by simp [h, n])]
  simp
def lnsOf (b : Bool) (cs : List Cell) : List (List Int) := ((List.range 8).map fun (r : Nat) => idxs b cs cs.length (r : Int)).filter fun l => decide (l ≠ [])
theorem idxs_mem {b : Bool} {cs : List Cell} {i : Nat} {r x : Int} (h : x ∈ idxs b cs i r) : 0 ≤ x ∧ x < (i : Int) := by
  unfold idxs at h
  obtain ⟨j, hj, rfl⟩ := List.mem_map.mp h
  have := List.mem_range.mp (List.mem_filter.mp hj).1
  omega
theorem idxs_len (b : Bool) (cs : List Cell) (i : Nat) (r : Int) : (idxs b cs i r).length ≤ i := by
  unfold idxs
  rw [List.length_map]
  exact Nat.le_trans (List.length_filter_le _ _) (by simp)
theorem idxs_grid {b : Bool} {cs : List Cell} {i : Nat} {r : Int} (g : ∀ c ∈ cs, InGrid c) (h : idxs b cs i r ≠ []) : 0 ≤ r ∧ r < 8 := by
  cases e : idxs b cs i r with
  | nil => exact absurd e h
  | cons x l =>
    have hx : x ∈ idxs b cs i r := by
      rw [e]
      exact List.mem_cons_self
    unfold idxs at hx
    obtain ⟨j, hj, rfl⟩ := List.mem_map.mp hx
    have q := of_decide_eq_true (List.mem_filter.mp hj).2
    cases z : cs[j]? with
    | none =>
      rw [z] at q
      cases q
    | some c =>
      rw [z] at q
      have q' : pick b c = r := Option.some.inj q
      have gc := g c (List.mem_of_getElem? z)
      unfold pick at q'
      unfold InGrid at gc
      split at q' <;> omega
/-- two strictly ascending lists with the same members are one -/
theorem asc_ext : ∀ {l m : List Int}, l.Pairwise (· < ·) → m.Pairwise (· < ·) → (∀ x, x ∈ l ↔ x ∈ m) → l = m
  | [], [], _, _, _ => rfl
  | [], y :: m, _, _, h => absurd ((h y).mpr List.mem_cons_self) (by simp)
  | x :: l, [], _, _, h => absurd ((h x).mp List.mem_cons_self) (by simp)
  | x :: l, y :: m, h1, h2, h => by
    rw [List.pairwise_cons] at h1 h2
    have e : x = y := by
      rcases List.mem_cons.mp ((h x).mp List.mem_cons_self) with z | z
      · exact z
      · rcases List.mem_cons.mp ((h y).mpr List.mem_cons_self) with z2 | z2
        · exact z2.symm
        · have a := h2.1 x z
          have b := h1.1 y z2
          omega
    subst e
    congr 1
    refine asc_ext h1.2 h2.2 fun z => ⟨fun hz => ?_, fun hz => ?_⟩
    · rcases List.mem_cons.mp ((h z).mp (List.mem_cons_of_mem _ hz)) with e | e
      · have := h1.1 z hz
        omega
      · exact e
    · rcases List.mem_cons.mp ((h z).mpr (List.mem_cons_of_mem _ hz)) with e | e
      · have := h2.1 z hz
        omega
      · exact e
theorem strict_of {l : List Int} (h : l.Pairwise (· ≤ ·)) (n : l.Nodup) : l.Pairwise (· < ·) := by
  rw [List.nodup_iff_pairwise_ne] at n
  exact (h.and n).imp fun {a b} q => by omega
/-- the lines in use, by number -/
def usedOf (b : Bool) (cs : List Cell) : List Int := ((List.range 8).map fun (r : Nat) => (r : Int)).filter fun r => decide (idxs b cs cs.length r ≠ [])
theorem used_asc (b : Bool) (cs : List Cell) : (usedOf b cs).Pairwise (· < ·) := by
  unfold usedOf
  exact List.Pairwise.sublist List.filter_sublist (by decide)
theorem used_lines (b : Bool) (cs : List Cell) : (usedOf b cs).map (fun r => idxs b cs cs.length r) = lnsOf b cs := by
  unfold usedOf lnsOf
  rw [List.filter_map, List.filter_map, List.map_map]
  rfl
theorem used_mem {b : Bool} {cs : List Cell} (g : ∀ c ∈ cs, InGrid c) (r : Int) : r ∈ usedOf b cs ↔ idxs b cs cs.length r ≠ [] := by
  unfold usedOf
  rw [List.mem_filter]
  refine ⟨fun h => of_decide_eq_true h.2, fun h => ⟨?_, decide_eq_true h⟩⟩
  have := idxs_grid g h
  rw [List.mem_map]
  exact ⟨r.toNat, List.mem_range.mpr (by omega), by omega⟩
/-! ### lines, in the heap -/
def TupI (K : PySem.W.Frag) (H : Hp) (x : V) (l : List Int) : Prop := ∃ t, x = .ref t ∧ SqT K H t (l.map V.int)
def LstI (H : Hp) (x : V) (l : List Int) : Prop := ∃ t, x = .ref t ∧ H t = some (.lst (l.map V.int))
abbrev lineD (l : List Int) : PyData := .tuple (l.map PyData.int)
abbrev linesD (ls : List (List Int)) : PyData := .tuple (ls.map lineD)
theorem dp_ints {K : PySem.W.Frag} {H : Hp} : ∀ l : List Int, DpAll K H (l.map V.int) (l.map PyData.int)
  | [] => .nil
  | x :: l => .cons (.int x) (dp_ints l)
theorem dp_lines {K : PySem.W.Frag} {H : Hp} : ∀ {xs : List V} {ls : List (List Int)}, Paired (TupI K H) xs ls → DpAll K H xs (ls.map lineD)
  | _, _, .nil => .nil
  | _, _, .cons ⟨t, e, h⟩ r => by
    subst e
    exact .cons (.tup h (dp_ints _)) (dp_lines r)
theorem tupI_kt {K : PySem.W.Frag} {H H' : Hp} (k : KT K H H') {xs : List V} {ls : List (List Int)} (h : Paired (TupI K H) xs ls) : Paired (TupI K H') xs ls :=
  Paired.mono (fun _ _ ⟨t, e, q⟩ => ⟨t, e, k _ _ q⟩) h
def spIsKind : Sp := fun vs H Q _ => ∃ b : Bool, vs = [.str (if b = true then "C" else "R")] ∧ ∀ H', Same H H' → Q (.bl true) H'
def spKind : Sp := fun vs H Q _ => ∃ b : Bool, vs = [.str (if b = true then "C" else "R")] ∧ ∀ H', Same H H' → Q .non H'
def spLines (K : PySem.W.Frag) : Sp := fun vs H Q _ => ∃ (a : Addr) (b : Bool) (cs : List Cell), vs = [.ref a, .str (if b = true then "C" else "R")] ∧ PlanAt K H a cs ∧ Good cs ∧ cs.length ≤ 24 ∧
  ∀ H' p xs, Same H H' → SqT K H' p xs → Paired (TupI K H') xs (lnsOf b cs) → Q (.ref p) H'
def spLawLines (K : PySem.W.Frag) : Sp := fun vs H Q _ => ∃ (a : Addr) (b : Bool) (cs : List Cell), vs = [.ref a, .str (if b = true then "C" else "R")] ∧ PlanAt K H a cs ∧ cs.length ≤ 24 ∧
  ∀ H' p xs, Same H H' → H' p = some (.lst xs) → Paired (LstI H') xs (lnsOf b cs) → Q (.ref p) H'
end KS
namespace KS
open PySem PySem.Spec PyProof.Rows L2
/-- 0 if kind == "R" else 1 -/
theorem side_ok {b : Bool} {σ : L2.St} {H : Hp} {Q : VK} (hσ : σ[1]? = some (some (.str (if b = true then "C" else "R")))) (k : Q (.int (if b = true then 1 else 0)) H) :
    tIf (tTest (tOp rEq (tVar 1) (tC (.str "R")))) (tC (.int 0)) (tC (.int 1)) σ H Q := by
  refine ⟨_, hσ, by cases b <;> rfl, _, rfl, ?_⟩
  cases b
  · rw [if_pos (by decide +kernel)]
    exact k
  · rw [if_neg (by decide +kernel)]
    exact k
theorem at_pick {b : Bool} {c : Cell} : atI [V.int c.1, V.int c.2] (if b = true then 1 else 0) = some (V.int (pick b c)) := by
  cases b <;> rfl
/-- the dict of lines behind i cells -/
structure Grp (b : Bool) (cs : List Cell) (i : Nat) (d : Addr) (kvs : List (Key × V)) (ad : Int → Addr) (H : Hp) : Prop where
  dict : H d = some (.dK kvs)
  keys : ∃ ks : List Int, kvs.map (·.1) = ks.map Sum.inl ∧ ks.Nodup ∧ ks.length ≤ i
  val : ∀ r : Int, valV kvs (.inl r) = if idxs b cs i r = [] then none else some (.ref (ad r))
  lst : ∀ r : Int, idxs b cs i r ≠ [] → H (ad r) = some (.lst ((idxs b cs i r).map V.int))
  inj : ∀ r r' : Int, idxs b cs i r ≠ [] → idxs b cs i r' ≠ [] → ad r = ad r' → r = r'
theorem Grp.same {b : Bool} {cs : List Cell} {i : Nat} {d : Addr} {kvs : List (Key × V)} {ad : Int → Addr} {H H' : Hp} (g : Grp b cs i d kvs ad H) (s : Same H H') : Grp b cs i d kvs ad H' :=
  ⟨s _ _ g.dict, g.keys, g.val, fun r h => s _ _ (g.lst r h), g.inj⟩
theorem Grp.more {b : Bool} {cs : List Cell} {i : Nat} {d : Addr} {kvs : List (Key × V)} {ad : Int → Addr} {H : Hp} {c : Cell} (g : Grp b cs i d kvs ad H) (hc : cs[i]? = some c) (h : idxs b cs i (pick b c) ≠ []) :
    Grp b cs (i + 1) d kvs ad (upd H (ad (pick b c)) (.lst ((idxs b cs i (pick b c)).map V.int ++ [.int (i : Nat)]))) := by
  have same : ∀ r, (idxs b cs (i + 1) r = []) ↔ (idxs b cs i r = []) := fun r => by
    by_cases e : pick b c = r
    · subst e
      rw [idxs_hit hc]
      simp [h]
    · rw [idxs_miss hc e]
  have hd : d ≠ ad (pick b c) := ne_of g.dict (g.lst _ h) (by intro z; cases z)
  obtain ⟨ks, k1, k2, k3⟩ := g.keys
  refine ⟨by rw [upd_ne hd]; exact g.dict, ⟨ks, k1, k2, by omega⟩, fun r => ?_, fun r hr => ?_, fun r r' h1 h2 => g.inj r r' (fun z => h1 ((same r).mpr z)) (fun z => h2 ((same r').mpr z))⟩
  · rw [g.val r]
    by_cases e : idxs b cs i r = []
    · rw [if_pos e, if_pos ((same r).mpr e)]
    · rw [if_neg e, if_neg (fun z => e ((same r).mp z))]
  · have hr' : idxs b cs i r ≠ [] := fun z => hr ((same r).mpr z)
    by_cases e : pick b c = r
    · subst e
      rw [upd_same, idxs_hit hc, List.map_append]
      rfl
    · rw [upd_ne (fun z => e (g.inj _ _ h hr' z.symm)), idxs_miss hc e]
      exact g.lst r hr'
theorem Grp.new {b : Bool} {cs : List Cell} {i : Nat} {d z : Addr} {kvs : List (Key × V)} {ad : Int → Addr} {H : Hp} {c : Cell} (g : Grp b cs i d kvs ad H) (hc : cs[i]? = some c) (h : idxs b cs i (pick b c) = []) (nz : H z = none) :
    Grp b cs (i + 1) d (putK kvs (.inl (pick b c)) (.ref z)) (fun r => if r = pick b c then z else ad r) (upd (upd (upd H z (.lst [])) d (.dK (putK kvs (.inl (pick b c)) (.ref z)))) z (.lst ([] ++ [.int (i : Nat)]))) := by
  have hv : valV kvs (.inl (pick b c)) = none := by
    rw [g.val, if_pos h]
  have hdz : d ≠ z := ne_of_none g.dict nz
  have hput : putK kvs (Sum.inl (pick b c)) (V.ref z) = kvs ++ [(Sum.inl (pick b c), V.ref z)] := by
    unfold putK
    rw [if_neg]
    rw [valV_any, hv]
    simp
  have hit : idxs b cs (i + 1) (pick b c) = [(i : Int)] := by
    rw [idxs_hit hc, h]
    rfl
  obtain ⟨ks, k1, k2, k3⟩ := g.keys
  refine ⟨?_, ⟨ks ++ [pick b c], ?_, ?_, ?_⟩, fun r => ?_, fun r hr => ?_, fun r r' h1 h2 => ?_⟩
  · rw [upd_ne hdz, upd_same]
  · rw [hput, List.map_append, List.map_append, k1]
    rfl
  · rw [List.nodup_append]
    refine ⟨k2, by simp, fun x hx y hy e => ?_⟩
    rw [List.mem_singleton] at hy
    subst hy
    subst e
    apply valV_not hv
    rw [k1]
    exact List.mem_map.mpr ⟨_, hx, rfl⟩
  · rw [List.length_append]
    simp
    omega
  · rw [valV_put]
    by_cases e : r = pick b c
    · subst e
      rw [if_pos rfl, hit, if_neg (by simp), if_pos rfl]
    · rw [if_neg (fun q => e (Sum.inl.inj q)), g.val, idxs_miss hc (Ne.symm e), if_neg e]
  · by_cases e : r = pick b c
    · subst e
      show upd _ _ _ (if _ then z else _) = _
      rw [if_pos rfl, upd_same, hit]
      rfl
    · show upd _ _ _ (if _ then z else _) = _
      rw [if_neg e]
      rw [idxs_miss hc (Ne.symm e)] at hr ⊢
      have hl := g.lst r hr
      rw [upd_ne (ne_of_none hl nz), upd_ne (ne_of hl g.dict (by intro q; cases q)), upd_ne (ne_of_none hl nz)]
      exact hl
  · intro e
    by_cases e1 : r = pick b c
    · by_cases e2 : r' = pick b c
      · rw [e1, e2]
      · have e' : (if r = pick b c then z else ad r) = (if r' = pick b c then z else ad r') := e
        rw [if_pos e1, if_neg e2] at e'
        rw [idxs_miss hc (Ne.symm e2)] at h2
        have := g.lst r' h2
        rw [← e', nz] at this
        cases this
    · have e' : (if r = pick b c then z else ad r) = (if r' = pick b c then z else ad r') := e
      rw [idxs_miss hc (Ne.symm e1)] at h1
      by_cases e2 : r' = pick b c
      · rw [if_neg e1, if_pos e2] at e'
        have := g.lst r h1
        rw [e', nz] at this
        cases this
      · rw [if_neg e1, if_neg e2] at e'
        rw [idxs_miss hc (Ne.symm e2)] at h2
        exact g.inj r r' h1 h2 e'
/-- the sorted keys are the lines in use -/
theorem Grp.used {b : Bool} {cs : List Cell} {d : Addr} {kvs : List (Key × V)} {ad : Int → Addr} {H : Hp} {ks ys : List Int} (g : Grp b cs cs.length d kvs ad H) (gr : ∀ c ∈ cs, InGrid c) (e : kvs.map (·.1) = ks.map Sum.inl) (n : ks.Nodup) (p : ys.Perm ks) (s : ys.Pairwise (· ≤ ·)) : ys = usedOf b cs := by
  refine asc_ext (strict_of s (p.nodup_iff.mpr n)) (used_asc b cs) fun r => ?_
  rw [p.mem_iff, used_mem gr]
  have key : r ∈ ks ↔ (Sum.inl r : Key) ∈ kvs.map (·.1) := by
    rw [e, List.mem_map]
    exact ⟨fun h => ⟨r, h, rfl⟩, fun ⟨x, hx, q⟩ => by cases q; exact hx⟩
  rw [key]
  constructor
  · intro h z
    have hv : valV kvs (.inl r) = none := by rw [g.val, if_pos z]
    exact valV_not hv h
  · intro h
    exact valV_in (v := .ref (ad r)) (by rw [g.val, if_neg h])
end KS
namespace KS
open PySem PySem.Spec PyProof.Rows L2
theorem ints_lay : ∀ l : List Int, PyData.canLayAll0 (l.map PyData.int) = true ∧ PyData.depthAll (l.map PyData.int) = 0
  | [] => ⟨by simp only [List.map_nil, PyData.canLayAll0], by simp only [List.map_nil, PyData.depthAll]⟩
  | x :: l => by
    obtain ⟨h1, h2⟩ := ints_lay l
    simp only [List.map_cons, PyData.canLayAll0, PyData.depthAll, PyData.canLay0, PyData.depth, h1, h2, Bool.and_self, Nat.max_self, and_self]
theorem ints_shaped (l : List Int) : SeqAt.shaped (.list (l.map PyData.int)) = true := by
  obtain ⟨h1, h2⟩ := ints_lay l
  unfold SeqAt.shaped
  simp only [PyData.canLay0, PyData.depth, h1, h2]
  decide
theorem ints_eqv_nil (l : List Int) : PyData.eqv (.list (l.map PyData.int)) (.list []) = l.isEmpty := by
  cases l with
  | nil => decide
  | cons x l => rfl
theorem kind_test (b : Bool) : decide (V.str (if b = true then "C" else "R") = V.str "C") = b := by
  cases b <;> decide +kernel
/-- the lines below r that are in use -/
def lnsTo (b : Bool) (cs : List Cell) (r : Nat) : List (List Int) := ((List.range r).map fun (r : Nat) => idxs b cs cs.length (r : Int)).filter fun l => decide (l ≠ [])
theorem lnsTo_hit {b : Bool} {cs : List Cell} {r : Nat} (h : idxs b cs cs.length (r : Int) ≠ []) : lnsTo b cs (r + 1) = lnsTo b cs r ++ [idxs b cs cs.length (r : Int)] := by
  unfold lnsTo
  rw [List.range_succ, List.map_append, List.filter_append]
  congr 1
  rw [List.map_cons, List.filter_cons_of_pos (by simpa using h)]
  rfl
theorem lnsTo_miss {b : Bool} {cs : List Cell} {r : Nat} (h : idxs b cs cs.length (r : Int) = []) : lnsTo b cs (r + 1) = lnsTo b cs r := by
  unfold lnsTo
  rw [List.range_succ, List.map_append, List.filter_append, List.map_cons, List.filter_cons_of_neg (by simp [h])]
  simp
theorem lnsTo_len (b : Bool) (cs : List Cell) (r : Nat) : (lnsTo b cs r).length ≤ r := by
  unfold lnsTo
  exact Nat.le_trans (List.length_filter_le _ _) (by simp)
end KS
namespace KS
open PySem PySem.Spec PyProof.Rows L2
/-! ### small data can be shown -/
theorem small_int {x : Int} (h0 : 0 ≤ x) (h1 : x < 10000) : PyData.leavesShort 8 (.int x) = true ∧ PyData.showable (.int x) = true ∧ PyData.weight (.int x) ≤ 14 := by
  obtain ⟨n, rfl⟩ := Int.eq_ofNat_of_zero_le h0
  have hn : n < 10000 := by omega
  have hlog : n.log2 < 14 := by
    rcases Nat.eq_zero_or_pos n with z | z
    · subst z
      decide
    · exact (Nat.log2_lt (by omega)).mpr (by omega)
  refine ⟨?_, ?_, ?_⟩
  · simp only [PyData.leavesShort]
    exact decide_eq_true (by
      simp only [PyData.shown]
      exact toString_length_le (k := 8) (by omega) (by decide) (by show (n : Int) < 10 ^ 8; omega))
  · simp only [PyData.showable]
    exact decide_eq_true (by show n.log2 < 1920; omega)
  · simp only [PyData.weight]
    split
    · omega
    · show n.log2 + 1 ≤ 14
      omega
/-- what repr asks of its data -/
structure Shows (d : PyData) (n : Nat) : Prop where
  short : d.leavesShort 8 = true
  show_ : d.showable = true
  nod : d.hasDict = false
  wt : d.weight ≤ n
structure ShowsAll (ds : List PyData) (n : Nat) : Prop where
  short : PyData.leavesShortAll 8 ds = true
  show_ : PyData.showableAll ds = true
  nod : PyData.hasDictAll ds = false
  wt : PyData.weightAll ds ≤ (n + 1) * ds.length
theorem showsAll_of {n : Nat} : ∀ {ds : List PyData}, (∀ d ∈ ds, Shows d n) → ShowsAll ds n
  | [], _ => ⟨by simp only [PyData.leavesShortAll], by simp only [PyData.showableAll], by simp only [PyData.hasDictAll], by simp [PyData.weightAll]⟩
  | d :: ds, h => by
    have h1 := h d List.mem_cons_self
    have h2 := showsAll_of fun x hx => h x (List.mem_cons_of_mem _ hx)
    refine ⟨?_, ?_, ?_, ?_⟩
    · simp only [PyData.leavesShortAll, h1.short, h2.short, Bool.and_self]
    · simp only [PyData.showableAll, h1.show_, h2.show_, Bool.and_self]
    · simp only [PyData.hasDictAll, h1.nod, h2.nod, Bool.or_self]
    · simp only [PyData.weightAll, List.length_cons]
      have a := h1.wt
      have b := h2.wt
      rw [Nat.mul_add, Nat.mul_one]
      omega
theorem shows_tuple {n m : Nat} {ds : List PyData} (h : ShowsAll ds n) (hm : (n + 1) * ds.length ≤ m) : Shows (.tuple ds) m := by
  refine ⟨?_, ?_, ?_, ?_⟩
  · simp only [PyData.leavesShort, h.short]
  · simp only [PyData.showable, h.show_]
  · simp only [PyData.hasDict, h.nod]
  · simp only [PyData.weight]
    exact Nat.le_trans h.wt hm
theorem shows_int {x : Int} (h0 : 0 ≤ x) (h1 : x < 10000) : Shows (.int x) 14 := by
  obtain ⟨a, b, c⟩ := small_int h0 h1
  exact ⟨a, b, by simp only [PyData.hasDict], c⟩
theorem Shows.len {d : PyData} {n : Nat} (h : Shows d n) (hn : n ≤ 1048576) : d.shown.length ≤ sizeLine :=
  PyData.shown_fits (B := 8) (by decide) (by decide) h.short (Nat.le_trans h.wt (by
    show n ≤ 2 ^ 20
    have : (2 : Nat) ^ 20 = 1048576 := by decide
    omega))
theorem shows_line {l : List Int} (h : ∀ x ∈ l, 0 ≤ x ∧ x < 10000) (hl : l.length ≤ 64) : Shows (lineD l) 960 := by
  refine shows_tuple (n := 14) (showsAll_of fun d hd => ?_) ?_
  · obtain ⟨x, hx, rfl⟩ := List.mem_map.mp hd
    exact shows_int (h x hx).1 (h x hx).2
  · rw [List.length_map]
    omega
theorem shows_lines {ls : List (List Int)} (h : ∀ l ∈ ls, (∀ x ∈ l, 0 ≤ x ∧ x < 10000) ∧ l.length ≤ 64) (hl : ls.length ≤ 64) : Shows (linesD ls) 61504 := by
  refine shows_tuple (n := 960) (showsAll_of fun d hd => ?_) ?_
  · obtain ⟨l, hx, rfl⟩ := List.mem_map.mp hd
    exact shows_line (h l hx).1 (h l hx).2
  · rw [List.length_map]
    omega
theorem depth_line (l : List Int) : (lineD l).depth = 1 := by
  simp only [PyData.depth, (ints_lay l).2]
theorem depth_lines : ∀ ls : List (List Int), PyData.depthAll (ls.map lineD) ≤ 1
  | [] => by simp [PyData.depthAll]
  | l :: ls => by
    have a := depth_lines ls
    have b := depth_line l
    simp only [List.map_cons, PyData.depthAll]
    omega
theorem lns_small {b : Bool} {cs : List Cell} (hl : cs.length ≤ 24) : Shows (linesD (lnsOf b cs)) 61504 ∧ (linesD (lnsOf b cs)).depth ≤ 64 := by
  refine ⟨shows_lines (fun l h => ?_) ?_, ?_⟩
  · unfold lnsOf at h
    obtain ⟨r, _, rfl⟩ := List.mem_map.mp (List.mem_filter.mp h).1
    refine ⟨fun x hx => ?_, ?_⟩
    · have := idxs_mem hx
      omega
    · have := idxs_len b cs cs.length (r : Int)
      omega
  · have : (lnsOf b cs).length ≤ 8 := lnsTo_len b cs 8
    omega
  · have := depth_lines (lnsOf b cs)
    simp only [PyData.depth]
    omega
/-! ### sorted cells -/
def keyOf (H : Hp) : V → Int × Int
  | .ref t => match H t with
    | some (.tup [.int i, .int j]) => (i, j)
    | _ => (0, 0)
  | _ => (0, 0)
theorem keyOf_at {H : Hp} {t : Addr} {i j : Int} (h : H t = some (.tup [.int i, .int j])) : keyOf H (.ref t) = (i, j) := by
  show (match H t with
    | some (.tup [.int i, .int j]) => ((i, j) : Int × Int)
    | _ => (0, 0)) = (i, j)
  rw [h]
theorem nodup_of_asc {cs : List Cell} (h : cs.Pairwise lt2) : cs.Nodup := by
  rw [List.nodup_iff_pairwise_ne]
  refine h.imp fun {a b} q e => ?_
  subst e
  rcases q with q | q <;> omega
/-- new cells, in a list -/
def NewCells (H : Hp) : List V → List Cell → Prop := Paired fun x c => ∃ t, x = .ref t ∧ H t = some (.tup [.int c.1, .int c.2])
theorem newCells_mono {H H' : Hp} (k : ∀ t ys, H t = some (.tup ys) → H' t = some (.tup ys)) {xs : List V} {cs : List Cell} (h : NewCells H xs cs) : NewCells H' xs cs :=
  Paired.mono (fun _ _ ⟨t, e, q⟩ => ⟨t, e, k _ _ q⟩) h
theorem newCells_key {H : Hp} : ∀ {xs : List V} {cs : List Cell}, NewCells H xs cs → xs.map (keyOf H) = cs
  | _, _, .nil => rfl
  | _, _, .cons ⟨t, e, h⟩ r => by
    subst e
    rw [List.map_cons, keyOf_at h, newCells_key r]
theorem newCells_mem {H : Hp} : ∀ {xs : List V} {cs : List Cell}, NewCells H xs cs → ∀ x ∈ xs, ∃ t, x = .ref t ∧ H t = some (.tup [.int (keyOf H x).1, .int (keyOf H x).2])
  | _, _, .nil, _, h => nomatch h
  | _, _, .cons ⟨t, e, h⟩ r, x, hx => by
    rcases List.mem_cons.mp hx with z | z
    · subst z
      subst e
      exact ⟨t, rfl, by rw [keyOf_at h]; exact h⟩
    · exact newCells_mem r x z
theorem cells_of_mem {K : PySem.W.Frag} {H : Hp} : ∀ {ys : List V}, (∀ x ∈ ys, ∃ t, x = .ref t ∧ H t = some (.tup [.int (keyOf H x).1, .int (keyOf H x).2])) → CellsAt K H ys (ys.map (keyOf H))
  | [], _ => .nil
  | y :: ys, h => by
    obtain ⟨t, e, q⟩ := h y List.mem_cons_self
    exact .cons ⟨t, e, SqT.of q⟩ (cells_of_mem fun x hx => h x (List.mem_cons_of_mem _ hx))
/-- sorted of new cells, all different: they ascend -/
theorem sorted_cells {K : PySem.W.Frag} {H : Hp} {xs ys : List V} {cs : List Cell} (h : NewCells H xs cs) (nd : cs.Nodup) (hs : SrtO.Srtd (ltP (keyOf H)) ys) (hp : ys.Perm xs) :
    CellsAt K H ys (ys.map (keyOf H)) ∧ (ys.map (keyOf H)).Perm cs ∧ (ys.map (keyOf H)).Pairwise lt2 := by
  have p1 : (ys.map (keyOf H)).Perm cs := by
    rw [← newCells_key h]
    exact hp.map _
  refine ⟨cells_of_mem fun x hx => newCells_mem h x (hp.mem_iff.mp hx), p1, ?_⟩
  have n1 : (ys.map (keyOf H)).Nodup := p1.nodup_iff.mpr nd
  have s1 : (ys.map (keyOf H)).Pairwise fun a b => SrtO.lexB b a = false := by
    rw [List.pairwise_map]
    exact hs
  rw [List.nodup_iff_pairwise_ne] at n1
  refine (s1.and n1).imp fun {a b} q => ?_
  obtain ⟨q1, q2⟩ := q
  have q3 : ¬ (b.1 < a.1 ∨ (b.1 = a.1 ∧ b.2 < a.2)) := fun z => by
    rw [SrtO.lexB_iff.mpr z] at q1
    cases q1
  by_cases e1 : a.1 < b.1
  · exact .inl e1
  · by_cases e2 : a.1 = b.1
    · refine .inr ⟨e2, ?_⟩
      by_cases e3 : a.2 = b.2
      · exact absurd (Prod.ext e2 e3) q2
      · have : ¬ b.2 < a.2 := fun z => q3 (.inr ⟨e2.symm, z⟩)
        omega
    · exact absurd (.inl (by omega)) q3
def mir (c : Cell) : Cell := (c.1, 7 - c.2)
theorem nodup_mir {cs : List Cell} (h : cs.Nodup) : (cs.map mir).Nodup := by
  rw [List.nodup_iff_pairwise_ne] at h ⊢
  rw [List.pairwise_map]
  refine h.imp fun {a b} q e => q ?_
  have e0 : ((a.1, 7 - a.2) : Int × Int) = (b.1, 7 - b.2) := e
  injection e0 with e1 e2
  exact Prod.ext e1 (by omega)
theorem good_mir {cs ds : List Cell} (g : Good cs) (p : ds.Perm (cs.map mir)) (a : ds.Pairwise lt2) : Good ds ∧ ds.length = cs.length := by
  have hl : ds.length = cs.length := by rw [p.length_eq, List.length_map]
  refine ⟨⟨a, fun d hd => ?_, fun z => ?_⟩, hl⟩
  · obtain ⟨c, hc, rfl⟩ := List.mem_map.mp (p.mem_iff.mp hd)
    have := g.grid c hc
    unfold InGrid at this ⊢
    show 0 ≤ c.1 ∧ c.1 ≤ 7 ∧ 0 ≤ 7 - c.2 ∧ 7 - c.2 ≤ 7
    omega
  · rw [z] at hl
    exact g.ne (List.eq_nil_of_length_eq_zero hl.symm)
def spRight : Sp := fun vs H Q _ => ∃ p : Addr, vs = [.ref p] ∧ PoolO (H p) ∧ ∀ H', KeepX p H H' → Q (.bl true) H'
def spLaw (K : PySem.W.Frag) : Sp := fun vs H Q _ => ∃ (a : Addr) (ns : List Int), vs = [.ref a] ∧ SqL K H a (ns.map V.int) ∧ ns.length ≤ 63 ∧ ∀ H', Q (.bl true) H'
end KS
namespace KS
open PySem PySem.Spec PyProof.Rows L2
/-! ### x in t, t a tuple of plain data -/
def rInT (K : PySem.W.Frag) : V → V → Hp → VK → Prop := fun x y H Q => ∃ d ds, Dp K H x d ∧ Dp K H y (.tuple ds) ∧ SeqAt.shaped d = true ∧ SeqAt.shaped (.tuple ds) = true ∧ Q (.bl (ds.any fun z => PyData.eqv z d)) H
theorem op_inT {X : Cx} (hu : X.A.units + 65 < cLine) : OpR X (compareOp .In) (rInT X.K) := by
  intro pins s σ H x y v u Q I rx ry h
  obtain ⟨d, ds, hd, he, sd, se, q⟩ := h
  obtain ⟨as, r1⟩ := Dp.reads I d x v hd rx
  obtain ⟨bs, r2⟩ := Dp.reads I (.tuple ds) y u he ry
  refine SeqAt.in_tuple_reads r2 r1 (SeqAt.canLay_of_shaped se) (SeqAt.canLay_of_shaped sd) ?_ ⟨.bl _, H, I, rfl, q⟩
  have := SeqAt.depth_of_shaped sd
  have h2 : min (PyData.depthAll ds) d.depth ≤ d.depth := Nat.min_le_right _ _
  omega
/-! ### plans as data -/
abbrev cellD (c : Cell) : PyData := .tuple [.int c.1, .int c.2]
abbrev planD (cs : List Cell) : PyData := .tuple (cs.map cellD)
theorem dp_cell {K : PySem.W.Frag} {H : Hp} {t : Addr} {c : Cell} (h : SqT K H t [.int c.1, .int c.2]) : Dp K H (.ref t) (cellD c) := .tup h (.cons (.int _) (.cons (.int _) .nil))
theorem dp_cells {K : PySem.W.Frag} {H : Hp} : ∀ {xs : List V} {cs : List Cell}, CellsAt K H xs cs → DpAll K H xs (cs.map cellD)
  | _, _, .nil => .nil
  | _, _, .cons ⟨t, e, h⟩ r => by
    subst e
    exact .cons (dp_cell h) (dp_cells r)
theorem PlanAt.dp {K : PySem.W.Frag} {H : Hp} {a : Addr} {cs : List Cell} (h : PlanAt K H a cs) : Dp K H (.ref a) (planD cs) := by
  obtain ⟨xs, h1, h2⟩ := h
  exact .tup h1 (dp_cells h2)
theorem cell_lay (c : Cell) : (cellD c).canLay0 = true ∧ (cellD c).depth = 1 := by
  simp [PyData.canLay0, PyData.canLayAll0, PyData.depth, PyData.depthAll]
theorem cells_lay : ∀ cs : List Cell, PyData.canLayAll0 (cs.map cellD) = true ∧ PyData.depthAll (cs.map cellD) ≤ 1
  | [] => ⟨by simp only [List.map_nil, PyData.canLayAll0], by simp [PyData.depthAll]⟩
  | c :: cs => by
    obtain ⟨a, b⟩ := cells_lay cs
    obtain ⟨x, y⟩ := cell_lay c
    refine ⟨?_, ?_⟩
    · rw [List.map_cons, PyData.canLayAll0, x, a]
      rfl
    · rw [List.map_cons, PyData.depthAll, y]
      omega
theorem cell_shaped (c : Cell) : SeqAt.shaped (cellD c) = true := by
  obtain ⟨x, y⟩ := cell_lay c
  unfold SeqAt.shaped
  rw [x, y]
  rfl
theorem plan_shaped (cs : List Cell) : SeqAt.shaped (planD cs) = true := by
  obtain ⟨a, b⟩ := cells_lay cs
  unfold SeqAt.shaped
  rw [Bool.and_eq_true]
  refine ⟨?_, decide_eq_true ?_⟩
  · simp only [PyData.canLay0, a]
  · simp only [PyData.depth]
    omega
theorem cell_eqv (a b : Cell) : PyData.eqv (cellD a) (cellD b) = decide (a = b) := by
  have h : PyData.eqv (cellD a) (cellD b) = (a.1 == b.1 && (a.2 == b.2 && true)) := by
    simp only [PyData.eqv, PyData.eqvAll]
  rw [h, Bool.and_true]
  by_cases e : a = b
  · subst e
    simp
  · rw [decide_eq_false e]
    by_cases e1 : a.1 = b.1
    · have e2 : a.2 ≠ b.2 := fun z => e (Prod.ext e1 z)
      simp [e1, e2]
    · simp [e1]
theorem in_plan (cs : List Cell) (c : Cell) : ((cs.map cellD).any fun z => PyData.eqv z (cellD c)) = decide (c ∈ cs) := by
  rw [List.any_map]
  by_cases h : c ∈ cs
  · rw [decide_eq_true h, List.any_eq_true]
    exact ⟨c, h, by show PyData.eqv (cellD c) (cellD c) = true; rw [cell_eqv]; simp⟩
  · rw [decide_eq_false h, List.any_eq_false]
    intro x hx z
    have z' : PyData.eqv (cellD x) (cellD c) = true := z
    rw [cell_eqv] at z'
    have := of_decide_eq_true z'
    subst this
    exact h hx
theorem shows_plan {cs : List Cell} (g : ∀ c ∈ cs, InGrid c) (hl : cs.length ≤ 64) : Shows (planD cs) 1984 ∧ (planD cs).depth ≤ 64 := by
  refine ⟨shows_tuple (n := 30) (showsAll_of fun d hd => ?_) ?_, ?_⟩
  · obtain ⟨c, hc, rfl⟩ := List.mem_map.mp hd
    have := g c hc
    unfold InGrid at this
    refine shows_tuple (n := 14) (showsAll_of fun d hd => ?_) (by show (14 + 1) * 2 ≤ 30; decide)
    rcases List.mem_cons.mp hd with z | z
    · subst z
      exact shows_int (by omega) (by omega)
    · rcases List.mem_cons.mp z with z | z
      · subst z
        exact shows_int (by omega) (by omega)
      · cases z
  · rw [List.length_map]
    omega
  · have := (cells_lay cs).2
    simp only [PyData.depth]
    omega
/-! ### ascending lists of cells -/
theorem asc_ext2 : ∀ {l m : List Cell}, l.Pairwise lt2 → m.Pairwise lt2 → (∀ x, x ∈ l ↔ x ∈ m) → l = m
  | [], [], _, _, _ => rfl
  | [], y :: m, _, _, h => absurd ((h y).mpr List.mem_cons_self) (by simp)
  | x :: l, [], _, _, h => absurd ((h x).mp List.mem_cons_self) (by simp)
  | x :: l, y :: m, h1, h2, h => by
    rw [List.pairwise_cons] at h1 h2
    have no : ∀ a b : Cell, lt2 a b → lt2 b a → False := fun a b p q => by
      unfold lt2 at p q
      omega
    have e : x = y := by
      rcases List.mem_cons.mp ((h x).mp List.mem_cons_self) with z | z
      · exact z
      · rcases List.mem_cons.mp ((h y).mpr List.mem_cons_self) with z2 | z2
        · exact z2.symm
        · exact (no _ _ (h2.1 x z) (h1.1 y z2)).elim
    subst e
    congr 1
    refine asc_ext2 h1.2 h2.2 fun z => ⟨fun hz => ?_, fun hz => ?_⟩
    · rcases List.mem_cons.mp ((h z).mp (List.mem_cons_of_mem _ hz)) with e | e
      · exact (no _ _ (h1.1 z hz) (e ▸ h1.1 z hz)).elim
      · exact e
    · rcases List.mem_cons.mp ((h z).mpr (List.mem_cons_of_mem _ hz)) with e | e
      · exact (no _ _ (h2.1 z hz) (e ▸ h2.1 z hz)).elim
      · exact e
theorem asc_perm {l m : List Cell} (h1 : l.Pairwise lt2) (h2 : m.Pairwise lt2) (p : l.Perm m) : l = m := asc_ext2 h1 h2 fun x => p.mem_iff
def swp (c : Cell) : Cell := (c.2, c.1)
theorem nodup_swp {cs : List Cell} (h : cs.Nodup) : (cs.map swp).Nodup := by
  rw [List.nodup_iff_pairwise_ne] at h ⊢
  rw [List.pairwise_map]
  refine h.imp fun {a b} q e => q ?_
  have e0 : ((a.2, a.1) : Int × Int) = (b.2, b.1) := e
  injection e0 with e1 e2
  exact Prod.ext e2 e1
theorem good_swp {cs ds : List Cell} (g : Good cs) (p : ds.Perm (cs.map swp)) (a : ds.Pairwise lt2) : Good ds ∧ ds.length = cs.length := by
  have hl : ds.length = cs.length := by rw [p.length_eq, List.length_map]
  refine ⟨⟨a, fun d hd => ?_, fun z => ?_⟩, hl⟩
  · obtain ⟨c, hc, rfl⟩ := List.mem_map.mp (p.mem_iff.mp hd)
    have := g.grid c hc
    unfold InGrid at this ⊢
    show 0 ≤ c.2 ∧ c.2 ≤ 7 ∧ 0 ≤ c.1 ∧ c.1 ≤ 7
    omega
  · rw [z] at hl
    exact g.ne (List.eq_nil_of_length_eq_zero hl.symm)
theorem swp_back {cs ds es : List Cell} (g : cs.Pairwise lt2) (p : ds.Perm (cs.map swp)) (p2 : es.Perm (ds.map swp)) (a : es.Pairwise lt2) : es = cs := by
  refine asc_perm a g (p2.trans ?_)
  have := p.map swp
  refine this.trans ?_
  rw [List.map_map]
  have e : (swp ∘ swp) = id := by
    funext c
    rfl
  rw [e, List.map_id]
/-! ### rectangles -/
def Full (cs : List Cell) : Prop := ∀ r k : Int, (∃ c ∈ cs, c.1 ≤ r) → (∃ c ∈ cs, r ≤ c.1) → (∃ c ∈ cs, c.2 ≤ k) → (∃ c ∈ cs, k ≤ c.2) → (r, k) ∈ cs
noncomputable def rectB (cs : List Cell) : Bool := @decide (Full cs) (Classical.propDecidable _)
theorem rectB_true {cs : List Cell} (h : Full cs) : rectB cs = true := by
  unfold rectB
  exact @decide_eq_true _ (Classical.propDecidable _) h
theorem rectB_false {cs : List Cell} (h : ¬ Full cs) : rectB cs = false := by
  unfold rectB
  exact @decide_eq_false _ (Classical.propDecidable _) h
theorem full_swp {cs ds : List Cell} (p : ds.Perm (cs.map swp)) (h : Full cs) : Full ds := by
  have to : ∀ c : Cell, c ∈ ds → swp c ∈ cs := fun c hc => by
    obtain ⟨x, hx, rfl⟩ := List.mem_map.mp (p.mem_iff.mp hc)
    exact hx
  intro r k ⟨a, ha, a1⟩ ⟨b, hb, b1⟩ ⟨c, hc, c1⟩ ⟨d, hd, d1⟩
  have := h k r ⟨swp c, to c hc, c1⟩ ⟨swp d, to d hd, d1⟩ ⟨swp a, to a ha, a1⟩ ⟨swp b, to b hb, b1⟩
  exact p.mem_iff.mpr (List.mem_map.mpr ⟨(k, r), this, rfl⟩)
theorem rectB_swp {cs ds : List Cell} (p : ds.Perm (cs.map swp)) : rectB ds = rectB cs := by
  have q : cs.Perm (ds.map swp) := by
    have := (p.map swp).symm
    rw [List.map_map] at this
    have e : (swp ∘ swp) = id := by
      funext c
      rfl
    rw [e, List.map_id] at this
    exact this
  by_cases h : Full cs
  · rw [rectB_true h, rectB_true (full_swp p h)]
  · rw [rectB_false h, rectB_false fun z => h (full_swp q z)]
theorem len_of_subset : ∀ {l m : List Cell}, l.Nodup → (∀ x ∈ l, x ∈ m) → l.length ≤ m.length
  | [], _, _, _ => Nat.zero_le _
  | x :: l, m, n, h => by
    rw [List.nodup_cons] at n
    have hx := h x List.mem_cons_self
    have ih := len_of_subset (m := m.erase x) n.2 fun y hy => by
      have hne : y ≠ x := fun e => n.1 (e ▸ hy)
      exact (List.mem_erase_of_ne hne).mpr (h y (List.mem_cons_of_mem _ hy))
    rw [List.length_erase_of_mem hx] at ih
    have : 0 < m.length := List.length_pos_of_mem hx
    rw [List.length_cons]
    omega
/-- the cells of a box: n rows from r, k columns from c -/
def boxOf (r c : Int) (n k : Nat) : List Cell := (List.range n).flatMap fun (i : Nat) => rowCells (r + (i : Int)) c k
theorem box_len (r c : Int) (n k : Nat) : (boxOf r c n k).length = n * k := by
  unfold boxOf
  rw [List.length_flatMap]
  induction n with
  | zero => simp
  | succ n ih =>
    rw [List.range_succ, List.map_append, List.sum_append, ih, List.map_cons, rowCells_len, Nat.succ_mul]
    simp
theorem box_mem {r c : Int} {n k : Nat} {x : Cell} : x ∈ boxOf r c n k ↔ r ≤ x.1 ∧ x.1 < r + n ∧ c ≤ x.2 ∧ x.2 < c + k := by
  unfold boxOf
  rw [List.mem_flatMap]
  constructor
  · rintro ⟨i, hi, hx⟩
    have := List.mem_range.mp hi
    have := rowCells_mem hx
    omega
  · rintro ⟨h1, h2, h3, h4⟩
    refine ⟨(x.1 - r).toNat, List.mem_range.mpr (by omega), ?_⟩
    unfold rowCells
    refine List.mem_map.mpr ⟨(x.2 - c).toNat, List.mem_range.mpr (by omega), ?_⟩
    refine Prod.ext ?_ ?_
    · show r + ((x.1 - r).toNat : Int) = x.1
      omega
    · show c + ((x.2 - c).toNat : Int) = x.2
      omega
theorem box_asc (r c : Int) (k : Nat) : ∀ n : Nat, (boxOf r c n k).Pairwise lt2
  | 0 => List.Pairwise.nil
  | n + 1 => by
    have e : boxOf r c (n + 1) k = boxOf r c n k ++ rowCells (r + (n : Int)) c k := by
      unfold boxOf
      rw [List.range_succ, List.flatMap_append]
      simp
    rw [e, List.pairwise_append]
    refine ⟨box_asc r c k n, rowCells_asc _ _ _, fun a ha b hb => .inl ?_⟩
    have := box_mem.mp ha
    have := rowCells_mem hb
    omega
/-- the count of cells tells the rectangle -/
theorem rect_count {cs : List Cell} {a b c d : Int} (nd : cs.Nodup) (ha : a ∈ cs.map (·.1)) (ha' : ∀ x ∈ cs.map (·.1), a ≤ x) (hb : b ∈ cs.map (·.1)) (hb' : ∀ x ∈ cs.map (·.1), x ≤ b)
    (hc : c ∈ cs.map (·.2)) (hc' : ∀ x ∈ cs.map (·.2), c ≤ x) (hd : d ∈ cs.map (·.2)) (hd' : ∀ x ∈ cs.map (·.2), x ≤ d) : decide ((cs.length : Int) = (b - a + 1) * (d - c + 1)) = rectB cs := by
  have hab : a ≤ b := ha' b hb
  have hcd : c ≤ d := hc' d hd
  have inb : ∀ x ∈ cs, x ∈ boxOf a c (b - a + 1).toNat (d - c + 1).toNat := fun x hx => by
    have h1 := ha' x.1 (List.mem_map.mpr ⟨x, hx, rfl⟩)
    have h2 := hb' x.1 (List.mem_map.mpr ⟨x, hx, rfl⟩)
    have h3 := hc' x.2 (List.mem_map.mpr ⟨x, hx, rfl⟩)
    have h4 := hd' x.2 (List.mem_map.mpr ⟨x, hx, rfl⟩)
    exact box_mem.mpr ⟨h1, by omega, h3, by omega⟩
  have area : (((b - a + 1).toNat * (d - c + 1).toNat : Nat) : Int) = (b - a + 1) * (d - c + 1) := by
    rw [Int.natCast_mul, Int.toNat_of_nonneg (by omega), Int.toNat_of_nonneg (by omega)]
  have le1 := len_of_subset nd inb
  rw [box_len] at le1
  by_cases h : Full cs
  · rw [rectB_true h]
    have le2 : (boxOf a c (b - a + 1).toNat (d - c + 1).toNat).length ≤ cs.length := len_of_subset (nodup_of_asc (box_asc _ _ _ _)) fun x hx => by
      have := box_mem.mp hx
      obtain ⟨xa, ma, ea⟩ := List.mem_map.mp ha
      obtain ⟨xb, mb, eb⟩ := List.mem_map.mp hb
      obtain ⟨xc, mc, ec⟩ := List.mem_map.mp hc
      obtain ⟨xd, md, ed⟩ := List.mem_map.mp hd
      have := h x.1 x.2 ⟨xa, ma, by omega⟩ ⟨xb, mb, by omega⟩ ⟨xc, mc, by omega⟩ ⟨xd, md, by omega⟩
      exact this
    rw [box_len] at le2
    exact decide_eq_true (by rw [← area]; omega)
  · rw [rectB_false h]
    refine decide_eq_false fun e => h ?_
    rw [← area] at e
    have e' : cs.length = (b - a + 1).toNat * (d - c + 1).toNat := by omega
    intro r k ⟨x1, m1, q1⟩ ⟨x2, m2, q2⟩ ⟨x3, m3, q3⟩ ⟨x4, m4, q4⟩
    have h1 := ha' x1.1 (List.mem_map.mpr ⟨x1, m1, rfl⟩)
    have h2 := hb' x2.1 (List.mem_map.mpr ⟨x2, m2, rfl⟩)
    have h3 := hc' x3.2 (List.mem_map.mpr ⟨x3, m3, rfl⟩)
    have h4 := hd' x4.2 (List.mem_map.mpr ⟨x4, m4, rfl⟩)
    have hin : ((r, k) : Cell) ∈ boxOf a c (b - a + 1).toNat (d - c + 1).toNat := box_mem.mpr ⟨by show a ≤ r; omega, by show r < _; omega, by show c ≤ k; omega, by show k < _; omega⟩
    by_cases hm : ((r, k) : Cell) ∈ cs
    · exact hm
    · have le3 := len_of_subset (l := (r, k) :: cs) (List.nodup_cons.mpr ⟨hm, nd⟩) fun x hx => by
        rcases List.mem_cons.mp hx with z | z
        · subst z
          exact hin
        · exact inb x z
      rw [box_len, List.length_cons] at le3
      omega
end KS
namespace KS
open PySem PySem.Spec PyProof.Rows L2
/-! ### t[::-1], t a tuple -/
section
variable {prog : Program} {w : World} {A : Around} {E : Value → Shared → Prop} {s : Shared}
theorem adjust_rev (n : Nat) : Builtin.Slice.sliceAdjust none none (-1) (n : Int) = ((n : Int) - 1, -1) := by
  first
  | rfl
  | simp [Builtin.Slice.sliceAdjust]
theorem places_rev (n : Nat) : Builtin.Slice.slicePlaces ((n : Int) - 1) (-1) (-1) = n := by
  unfold Builtin.Slice.slicePlaces
  by_cases h : n = 0
  · subst h
    decide
  · simp
    omega
theorem applied_rev {sl : Addr} {vl vu vs : Value} {n : Nat} {Q : Int × Int × Nat → Shared → Prop} (hs : s.heap.IsSliceOf sl vl vu vs) (pl : IsPart vl none) (pu : IsPart vu none) (ps : IsPart vs (some (-1)))
    (h : Q ((n : Int) - 1, -1, n) s) : wpAny (model prog w) A (Builtin.Slice.sliceApplied (.ref sl) (pure (n : Int))) Q E s := by
  obtain ⟨os, hos, hcs, hds⟩ := id hs
  unfold Builtin.Slice.sliceApplied Builtin.Slice.sliceFields
  refine wpAny_bind (wpAny_bind (wpAny_field hos hds (x := vl) rfl
    (wpAny_bind (wpAny_field hos hds (x := vu) rfl (wpAny_bind (wpAny_field hos hds (x := vs) rfl (wpAny_pure ?_)))))))
  refine wpAny_bind (HT.slicePart_ ps ?_)
  show wpAny _ _ (if ((-1 : Int) == 0) = true then _ else _) _ _ s
  rw [if_neg (by decide)]
  refine wpAny_bind (HT.slicePart_ pl (wpAny_bind (HT.slicePart_ pu (wpAny_bind (wpAny_pure ?_)))))
  show wpAny _ _ (match Builtin.Slice.sliceAdjust none none (-1) (n : Int) with | (lo, hi) => pure (lo, (-1 : Int), Builtin.Slice.slicePlaces lo hi (-1))) _ _ s
  rw [adjust_rev n]
  show wpAny _ _ (pure ((n : Int) - 1, (-1 : Int), Builtin.Slice.slicePlaces ((n : Int) - 1) (-1) (-1))) _ _ s
  rw [places_rev]
  exact wpAny_pure h
theorem pick_rev (xs : Array Value) : ((List.range xs.size).filterMap fun (k : Nat) => xs[(((xs.size : Int) - 1) + (k : Int) * (-1)).toNat]?).toArray = xs.toList.reverse.toArray := by
  have e : (fun (k : Nat) => xs[(((xs.size : Int) - 1) + (k : Int) * (-1)).toNat]?) = (xs[·]?) ∘ fun k => xs.size - 1 - k := by
    funext k
    show xs[(((xs.size : Int) - 1) + (k : Int) * (-1)).toNat]? = xs[xs.size - 1 - k]?
    have z : (((xs.size : Int) - 1) + (k : Int) * (-1)).toNat = xs.size - 1 - k := by omega
    rw [z]
  rw [e, ← List.filterMap_map, PySem.W.krv_range, List.filterMap_reverse, PySem.W.krv_all]
theorem getItem_tuple_rev {t sl : Addr} {items : Array Value} {vl vu vs : Value} {Q : Value → Shared → Prop} (ht : IsTup s.heap t items) (hs : s.heap.IsSliceOf sl vl vu vs) (pl : IsPart vl none) (pu : IsPart vu none)
    (ps : IsPart vs (some (-1))) (h : Q (.ref s.heap.objs.size) { s with heap := s.heap.push { cls := .type "tuple", data := .seq items.toList.reverse.toArray } }) (hsz : items.size ≤ sizeLine) :
    wpAny (model prog w) A (getItem (.ref t) (.ref sl)) Q E s := by
  have htake : sizeOk (.seq items.toList.reverse.toArray) := by
    show items.toList.reverse.toArray.size ≤ sizeLine
    rw [List.size_toArray, List.length_reverse, Array.length_toList]
    exact hsz
  obtain ⟨os, hos, hcs, hds⟩ := id hs
  have hTs : s.TypeIs (.ref sl) "slice" := ⟨os, hos, hcs⟩
  unfold getItem
  try with_reducible refine wpAny_holding ?_
  first | refine wpAny_bind (wpAny_pure ?_) | skip
  refine wpAny_bind (wpAny_sequenceKey ht.typeIs (by decide) ?_)
  refine wpAny_bind (wpAny_callSpecial?_slot (name := Str.ofString "__getitem__") ht.typeIs PyProof.Rows.slot_tuple_getitem (wpAny_call_entry PyProof.Rows.slot_tuple_getitem ht.typeIs entry_tuple_getitem ?_ (args_tuple_getitem _ _)))
  show wpAny _ _ (Builtin.Tuple.tupleItemsOf (.ref t) >>= _) _ _ s
  refine wpAny_bind (tupleItemsOf_ ht (wpAny_bind (wpAny_typeOf hTs ?_)))
  rw [if_pos (by decide)]
  refine wpAny_bind (applied_rev hs pl pu ps ?_)
  have hno : ¬ ((((items.size : Int) - 1) == 0 && (-1 : Int) == 1 && items.size == items.size) = true) := by
    simp
  show wpAny _ _ (if (((items.size : Int) - 1) == 0 && (-1 : Int) == 1 && items.size == items.size) = true then _ else _) _ _ s
  rw [if_neg hno, pick_rev]
  first
    | exact wpAny_bind (m := Builtin.Tuple.tupleExact _) (wpAny_newObj_type (wpAny_pure ⟨_, rfl, wpAny_pure h⟩) htake)
    | exact wpAny_bind (m := Builtin.Tuple.tupleExact _) (wpAny_newObj_type (wpAny_bind (wpAny_pure (wpAny_pure ⟨_, rfl, wpAny_pure h⟩))) htake)
    | exact wpAny_bind (wpAny_bind (m := Builtin.Tuple.tupleExact _) (wpAny_newObj_type (wpAny_pure (wpAny_pure ⟨_, rfl, wpAny_pure h⟩)) htake))
    | exact wpAny_bind (wpAny_bind (m := Builtin.Tuple.tupleExact _) (wpAny_newObj_type (wpAny_pure ⟨_, rfl, wpAny_pure h⟩) htake))
end
def tRevT (K : PySem.W.Frag) (te : TE) : TE := fun σ H Q => te σ H fun x H1 => ∃ a xs, x = .ref a ∧ SqT K H1 a xs ∧ ∀ p, H1 p = none → Q (.ref p) (upd H1 p (.tup xs.reverse))
theorem pe_revT {X : Cx} {e : Expr} {te : TE} {k : Nat} {p1 p2 p3 pos : Pos} (he : PE X e te) :
    PE X (.Subscript e (.Slice none none (some (.UnaryOp .USub (.Constant (.int 1) k p1) p2)) p3) pos) (tRevT X.K te) := by
  refine ⟨fun pins s σ H Q I h => Subscript_ (thn (he.run pins s σ H _ I h) fun v s1 hh => ?_)⟩
  obtain ⟨x, H1, I1, r1, a, xs, ex, hx, q⟩ := hh
  subst ex
  cases r1
  have hst : PO X (some (.UnaryOp .USub (.Constant (.int 1) k p1) p2)) (tPart (tUn (rU fun i => .int (-i)) (tC (.int 1)))) := po_some (pe_un un_neg pe_int)
  refine wpAny_Slice (thn (po_none.run pins s1 σ H1 (fun o H2 => o = none ∧ H2 = H1) I1 ⟨rfl, rfl⟩) fun vl s2 h2 => ?_)
  obtain ⟨l, H2, I2, pl, el, e2⟩ := h2
  subst el e2
  refine thn (po_none.run pins s2 σ H2 (fun o H3 => o = none ∧ H3 = H2) I2 ⟨rfl, rfl⟩) fun vu s3 h3 => ?_
  obtain ⟨u, H3, I3, pu, eu, e3⟩ := h3
  subst eu e3
  refine thn (hst.run pins s3 σ H3 (fun o H4 => o = some (-1) ∧ H4 = H3) I3 ⟨1, rfl, -1, rfl, rfl, rfl⟩) fun vs s4 h4 => ?_
  obtain ⟨o, H4, I4, ps, eo, e4⟩ := h4
  subst eo e4
  have I5 : Inv X pins σ H4 { s4 with heap := s4.heap.push { cls := .type "slice", data := .fields #[vl, vu, vs] } } :=
    I4.kept (t' := s4.toks) fun b ob q => Heap.get?_push_of_some _ q
  obtain ⟨its, r, ht, hz⟩ := I5.tuple hx
  have hlen := r.length
  show wpAny (model X.prog X.w) X.A (subscriptTail e (.Slice none none (some (.UnaryOp .USub (.Constant (.int 1) k p1) p2)) p3) (.ref a) (.ref s4.heap.objs.size)) (EP X pins σ Q) X.xe
    { s4 with heap := s4.heap.push { cls := .type "slice", data := .fields #[vl, vu, vs] } }
  refine tail_any (ops := [.ref a, .ref s4.heap.objs.size]) ht.typeIs PyProof.Rows.slot_tuple_getitem.lookup ?_ (by with_unfolding_all rfl)
  refine getItem_tuple_rev ht (Heap.IsSliceOf.new _ vl vu vs) pl pu ps ?_ (by rw [List.size_toArray]; omega)
  refine ⟨.ref _, _, I5.laid (t' := s4.toks) (o := .tup xs.reverse) (fun b ob q => Heap.get?_push_of_some _ q) (Nat.le_refl _) ?_, rfl, q _ (I5.hok.fresh (Nat.le_refl _))⟩
  exact ⟨by rw [List.length_reverse]; exact hz, _, r.reverse, IsTup.new _ _⟩
end KS
namespace PySem
namespace XInvalidPlan
open PySem.W PySem.Calls PyProof.Rows PySem.HandSPX
/-! ### the text of __init__ -/
def iA (p1 p2 : Pos) : Arguments := { posonlyargs := [], args := [{ arg := "self", annotation := none, pos := p1 }, { arg := "index", annotation := none, pos := p2 }], vararg := none, kwonlyargs := [], kw_defaults := [], kwarg := none, defaults := [] }
def iB (q1 q2 q3 q4 : Pos) : List Stmt := [.Assign [.Attribute (.Name "self" q1) "index" q2] (.Name "index" q3) q4]
def iS : Scope := { kind := .function, names := [(PySem.Str.ofString "self", .local), (PySem.Str.ofString "index", .local)], isGenerator := false, isCoroutine := false, more := [] }
/-- what the written part says of Low, at C, and of its __init__, at fI -/
structure InvalidPlanTxt (K : Frag) (mg : Str → Option Value) (C fI : Addr) : Prop where
  gC : mg "InvalidPlan" = some (.ref C)
  cls : ∃ nm q N bs bm sn sub ab col dd k0 k1 k2 k3 k5, K.lookup C = some (excClassObj nm q C N bs bm true sn sub ab col dd k0 k1 k2 k3 k5 "ValueError.__new__") ∧ refsVE bm = true
  sa : findIn K (.ref C) "__setattr__" = some (some (.builtin "object.__setattr__"))
  ga : findIn K (.ref C) "__getattribute__" = some (some (.builtin "BaseException.__getattribute__"))
  gg : findIn K (.ref C) "__getattr__" = some none
  noN : findIn K (.ref C) "index" = some none
  iC : findIn K (.ref C) "__init__" = some (some (.ref fI))
  tC : typeIn K (.ref fI) = some (.type "function")
  kC : keepIn K (.ref C) = true
  exC : subIn K (.ref C) (.type "BaseException") = some true
  tyC : typeIn K (.ref C) = some (.type "type")
  hdC : hasDictIn K C = true
  te : exmOne K (.ref C) (.ref C) = some true
  fn : ∃ (oc : Value) (od : Option Addr) (doc pm : Value) (an : Option Addr) (cdv ct : Value) (osl : Array (Option Value)) (p1 p2 q1 q2 q3 q4 : Pos),
    K.lookup fI = some ⟨oc, od, .func (fnOf "__init__" "InvalidPlan.__init__" (iA p1 p2) (iB q1 q2 q3 q4) iS .none .none doc pm an cdv ct), osl⟩ ∧ codeIn K cdv "InvalidPlan.__init__" = true
theorem one_size (v : Value) : [v].length ≤ sizeLine := by
  rw [sizeLine_eq]
  exact (by decide : 1 ≤ 16777216)
theorem kept_but {K : Frag} {h h' : Heap} {x : Addr} (X : K.In h) (hx : K.lookup x = none) (k : ∀ b o, b ≠ x → h.get? b = some o → h'.get? b = some o) : K.In h' := fun a o e =>
  k a o (fun z => by rw [z, hx] at e; cases e) (X a o e)
theorem ldC {M : Model} {s : Shared} {name : Str} {scope : Scope} {L a : Addr} {cd : Value} {m : Str → Option Value} {x : Str} {pos : Pos} {v : Value} {Q : Value → Shared → Prop} {A : Around} {E : Value → Shared → Prop} (hn : s.heap.Ns L m) (hv : m x = some v) (h : Q v s)
    (hk : scope.kind = .function := by rfl) (hl : (envOfC name scope L a cd).kindOf x = some .local := by rfl) (hd : (x == ("__debug__" : Str)) = false := by decide) :
    wpAny M A (eval (.Name x pos) (envOfC name scope L a cd)) Q E s := wpAny_Name (wpAny_loadName_local hk hl hn hv h) hd
/-- what __init__ leaves of a fresh exception at x -/
structure InitEnd (h h' : Heap) (x C dx t1 : Addr) (v : Value) : Prop where
  keep : ∀ b o, b ≠ x → h.get? b = some o → h'.get? b = some o
  obj : h'.get? x = some { cls := .ref C, dict := some dx, data := .fields #[.ref t1, .none, .none, .none, .bool false, .none] }
  dbig : h.objs.size ≤ dx
  dne : dx ≠ x
  ns : h'.Ns1 dx (fun y => if y = "index" then some v else none)
/-- made -/
structure OwnMade (h h' : Heap) (e C d : Addr) (v : Value) : Prop where
  keep : ∀ b o, h.get? b = some o → h'.get? b = some o
  new : h.objs.size ≤ e
  obj : ∃ oe vs, h'.get? e = some oe ∧ oe.cls = .ref C ∧ oe.dict = some d ∧ oe.data = .fields vs ∧ vs[1]? = some .none
  dbig : h.objs.size ≤ d
  dne : d ≠ e
  ns : h'.Ns1 d (fun y => if y = "index" then some v else none)
section
variable {prog : Program} {w : World} {A : Around} {E : Value → Shared → Prop} {R : Result → Shared → Prop} {s : Shared} {K : Frag} {mg : Str → Option Value} {C fI : Addr}
theorem _initInvalidPlan (T : InvalidPlanTxt K mg C fI) {x t0 : Addr} {v : Value} (X : K.In s.heap) (hlim : s.heap.NoLimit) (hx : s.heap.get? x = some (excO C t0)) (hnx : K.lookup x = none) (hroom : A.depth < recursionLimit)
    (hq : ∀ h' tk dx, InitEnd s.heap h' x C dx t0 v → R (.ok (.ret .none)) { s with heap := h', toks := tk }) :
    codeAny (model prog w) A (.call (.ref fI) ⟨[.ref x, v], []⟩) R s := by
  obtain ⟨oc, od, doc, pm, an, cdv, ct, osl, p1, p2, q1, q2, q3, q4, ho, hcd⟩ := T.fn
  obtain ⟨nm, q, N, bs, bm, sn, sub, ab, col, dd, k0, k1, k2, k3, k5, hC, hbm⟩ := T.cls
  have hcl : clsIn K C = some { name := nm, bases := bs, mro := .ref C :: bm, ns := N, qualname := q, hasDict := true, slotNames := sn, subclasses := sub, abstract := ab, collection := col, hasDel := false } := by unfold clsIn; rw [hC] <;> rfl
  refine Att.call_fn (binds := [("self", .ref x), ("index", v)]) X hlim ho hcd hroom (BindsTo.of_eq (by first | rfl | with_unfolding_all rfl)) (by first | rfl | decide | with_unfolding_all rfl) (fun s₁ IC => ?_) rfl rfl rfl
  obtain ⟨h₁, tk₁, rfl⟩ := IC.toInCall.same
  have k : ∀ b o, s.heap.get? b = some o → h₁.get? b = some o := IC.toInCall.keep
  have hn := IC.toInCall.ns
  have hxL : s.heap.objs.size ≠ x := Nat.ne_of_gt (Heap.lt_size hx)
  have X₁ : K.In h₁ := X.keeps k
  have hx₁ := k _ _ hx
  -- self.f = f
  show wpAny _ _ (execs _ _) _ _ _
  refine wpAny_execs_cons (plainObj_wpAny_Assign_Attribute ?_)
  refine ldC (v := v) hn (by first | rfl | with_unfolding_all rfl | kernel_rfl) (ldC (v := .ref x) hn (by first | rfl | with_unfolding_all rfl | kernel_rfl) ?_)
  refine set_plain X₁ (ox := excO C t0) (od := none) ⟨hx₁, rfl, rfl, trivial⟩ T.sa ?_
  refine exc_osa X₁ hx₁ hcl (show refsVE (.ref C :: bm) = true from hbm) rfl T.noN (fun h₃ tk₃ dx k₃ dn dne hx₃ hn₃ => ?_)
  show wpAny _ _ (execs _ _) _ _ _
  have z : s.heap.objs.size < h₁.objs.size := hn.lt
  exact wpAny_execs_nil (hq h₃ tk₃ dx ⟨fun b o hb e => k₃ b o hb (k b o e), hx₃, Nat.le_of_lt (Nat.lt_of_lt_of_le z dn), dne, hn₃⟩)
theorem _madeInvalidPlan (T : InvalidPlanTxt K mg C fI) {v : Value} (X : K.In s.heap) (hlim : s.heap.NoLimit) (hroom : A.depth + 1 < recursionLimit)
    (hq : ∀ h' tk e d, OwnMade s.heap h' e C d v → R (.ok (.ret (.ref e))) { s with heap := h', toks := tk }) :
    codeAny (model prog w) A (.call (.ref C) ⟨[v], []⟩) R s := by
  obtain ⟨nm, q, N, bs, bm, sn, sub, ab, col, dd, k0, k1, k2, k3, k5, hC, hbm⟩ := T.cls
  obtain ⟨hp, g, dr, tk, os⟩ := s
  have k : ∀ b o, hp.get? b = some o → ((hp.push (kdv_tup [v])).push (excO C hp.objs.size)).get? b = some o := fun b o e => Heap.get?_push_of_some _ (Heap.get?_push_of_some _ e)
  have hget : ((hp.push (kdv_tup [v])).push (excO C hp.objs.size)).get? (hp.objs.size + 1) = some (excO C hp.objs.size) := by heap_get
  have hnx : K.lookup (hp.objs.size + 1) = none := by
    cases e : K.lookup (hp.objs.size + 1) with
    | none => rfl
    | some o =>
      have z : hp.get? (hp.objs.size + 1) = some o := X _ _ e
      exact absurd (Nat.lt_of_succ_lt (Heap.lt_size z)) (Nat.lt_irrefl _)
  refine call_own F.excBase_ValueError (fun X => refsVE_contains X bm hbm) (X _ _ hC) (looks_findIn X T.iC) (fun self => bind_fn X self T.tC) (one_size v) ?_
  refine _initInvalidPlan (s := ⟨(hp.push (kdv_tup [v])).push (excO C hp.objs.size), g, dr, tk, os⟩) T (X.keeps k) (hlim.keeps k) hget hnx ?_ fun h' tk' dx ⟨k', hx, dn, dne, hns⟩ => ?_
  · show A.depth + 1 < recursionLimit
    exact hroom
  · have old : ∀ b o, hp.get? b = some o → h'.get? b = some o := fun b o e => k' b o (Nat.ne_of_lt (Nat.lt_succ_of_lt (Heap.lt_size e))) (k b o e)
    have z : hp.objs.size + 1 + 1 ≤ dx := by
      first
        | (simpa only [Heap.size_push] using dn)
        | exact dn
        | (have q := dn; rw [Heap.size_push, Heap.size_push] at q; exact q)
    exact ⟨rfl, hq h' tk' (hp.objs.size + 1) dx ⟨old, Nat.le_succ _, ⟨_, _, hx, rfl, rfl, rfl, rfl⟩, Nat.le_trans (Nat.le_trans (Nat.le_succ _) (Nat.le_succ _)) z, dne, hns⟩⟩
end
end XInvalidPlan
end PySem
namespace L2
open PySem PySem.Spec PyProof.Rows
theorem relO_InvalidPlan {v : V} {v' : Value} (r : RelV v v') (f : Str) : RelO (List.lookup f [(("index" : Str), v)]) (if f = "index" then some v' else none) := by
  by_cases hw : f = "index"
  · subst hw
    rw [if_pos rfl]
    have q : List.lookup ("index" : Str) [(("index" : Str), v)] = some v := by simp [List.lookup]
    rw [q]
    exact r
  · rw [if_neg hw]
    have qw : (f == ("index" : Str)) = false := by simpa using hw
    have q2 : List.lookup f [(("index" : Str), v)] = none := by simp [List.lookup, qw]
    rw [q2]
    trivial
section
variable {X : Cx} {C fI : Addr}
/-- Low(e) -/
def tMkInvalidPlan (C : Addr) (ta : TA) : St → Hp → XK → Prop := fun σ H Q => ta σ H fun vs H1 => ∃ v, vs = [v] ∧ ∀ d, H1 d = none → Q (.ref C) (some d) (upd H1 d (.xd [(("index" : Str), v)]))
theorem pmk_InvalidPlan {a : Expr} {ta : TA} {p pos : Pos} {k : Nat} (T : PySem.XInvalidPlan.InvalidPlanTxt X.K X.mg C fI) (hr : Room k X.A) (ha : PA X [a] ta) (hg : Gl X "InvalidPlan" := by rfl)
    (he : starEach (a :: []) X.env = (false, eval a X.env) :: starEach [] X.env := by rfl) (hpl : (backTo pos (starEach [] X.env)).any (·.1) = false := by rfl) :
    PMk X (.Call (.Name "InvalidPlan" p) [a] [] pos) (tMkInvalidPlan C ta) := by
  intro pins s σ H Q I h
  refine wpAny_Call_Name_kw (ld_glob I hg T.gC ?_)
  refine PySem.W.callWith_K (h₀ := X.base) I.ok.mod.kin T.kC (thn (ha.run pos pins s σ H _ I h) fun us s1 hh => ?_) he hpl
  obtain ⟨vs, H1, I1, r1, v, ev, q1⟩ := hh
  subst ev
  refine ⟨I1.kIn, ?_⟩
  cases r1 with
  | cons rv rn =>
    rename_i v' us'
    cases rn
    show wpAny _ _ (call (.ref C) [v']) _ _ _
    have hlim := I1.nolimit
    obtain ⟨hp, g, dr, tk, os⟩ := s1
    refine wpAny_call (PySem.XInvalidPlan._madeInvalidPlan T I1.kIn hlim (by have := hr.dp; omega) fun h' tk' e d M => ?_)
    show MkP X pins σ Q (.ref e) ⟨h', g, dr, tk', os⟩
    obtain ⟨oe, fv, hoe, hc, hd, hdat, h1⟩ := M.obj
    have hns := M.ns
    obtain ⟨G', g1, g2⟩ := restrict h' fun b => decide (b ≠ e)
    have gk : ∀ b, b ≠ e → G'.get? b = h'.get? b := fun b hb => g1 b (decide_eq_true hb)
    have ge : G'.get? e = none := g2 e (by simp)
    have old : ∀ b o, hp.get? b = some o → G'.get? b = some o := fun b o q => (gk b (Nat.ne_of_lt (Nat.lt_of_lt_of_le (Heap.lt_size q) M.new))).trans (M.keep b o q)
    have ob : ObjOk X.prog X.w (upd H1 d (.xd [(("index" : Str), v)])) G' d (.xd [(("index" : Str), v)]) :=
      ⟨_, hns.at (fun o q => (gk d M.dne).trans q), fun f => relO_InvalidPlan rv f⟩
    have J : Inv X pins σ (upd H1 d (.xd [(("index" : Str), v)])) ⟨G', g, dr, tk', os⟩ := I1.laid (t' := tk') old M.dbig ob
    refine ⟨e, oe, fv, ⟨G', g, dr, tk', os⟩, _, .ref C, some d, rfl, J, fun b o q => ?_, ge, hoe, ⟨hc, hd⟩, hdat, h1, ?_, rfl, I1.bare, raises_own T.exC T.tyC, q1 d (I1.hok.fresh M.dbig)⟩
    · by_cases hb : b = e
      · have q' : G'.get? b = some o := q
        rw [hb, ge] at q'; cases q'
      · exact (gk b hb).symm.trans q
    · rw [upd_ne (Ne.symm M.dne)]
      exact I1.hok.fresh M.new
/-- raise C(e) -/
def tRaiseInvalidPlan (C : Addr) (W : WX) (ta : TA) : TS := fun _ σ H => tMkInvalidPlan C ta σ H fun cls d H' => W cls d σ H'
theorem ps_raiseInvalidPlan {a : Expr} {ta : TA} {W : WX} {p pos pos2 : Pos} {k : Nat} (hc : X.calm = true) (T : PySem.XInvalidPlan.InvalidPlanTxt X.K X.mg C fI) (hr : Room k X.A) (tk : Takes X W) (ha : PA X [a] ta) (hg : Gl X "InvalidPlan" := by rfl)
    (he : starEach (a :: []) X.env = (false, eval a X.env) :: starEach [] X.env := by rfl) (hpl : (backTo pos (starEach [] X.env)).any (·.1) = false := by rfl) :
    PS X (.Raise (some (.Call (.Name "InvalidPlan" p) [a] [] pos)) none pos2) (tRaiseInvalidPlan C W ta) := ps_raise hc tk (pmk_InvalidPlan T hr ha hg he hpl)
/-- x.f, low the exception that the suite holds (at a; its class cls, its dict d) -/
def tByInvalidPlan (C : Addr) (a : Addr) (cls : Value) (d : Option Addr) (te : TE) : TE := fun σ H Q => te σ H fun x H1 => x = .ref a ∧ cls = .ref C ∧ ∃ (dd : Addr) (v : V), d = some dd ∧ H1 dd = some (.xd [(("index" : Str), v)]) ∧ Q v H1
theorem pe_byInvalidPlan {a : Addr} {oe : Obj} {cls : Value} {d : Option Addr} {pn : List (Addr × Obj)} {e : Expr} {te : TE} {pos : Pos} (T : PySem.XInvalidPlan.InvalidPlanTxt X.K X.mg C fI) (hz : Zc cls d oe) (hf : ∃ vs, oe.data = .fields vs) (he : PE (X.suite a ((a, oe) :: pn)) e te)
    (hb : attributeBase e "index" X.env (eval e X.env) = eval e X.env := by rfl) :
    PE (X.suite a ((a, oe) :: pn)) (.Attribute e "index" pos) (tByInvalidPlan C a cls d te) := by
  refine ⟨fun pins s σ H Q I h => ?_⟩
  refine attr_of hb (thn (he.run pins s σ H _ I h) fun u s1 hh => ?_)
  obtain ⟨x, H1, I1, rx, ex, ec, dd, v, ed, ea, q⟩ := hh
  subst ex
  obtain rfl : u = Value.ref a := rx
  subst ec
  subst ed
  obtain ⟨ha, _⟩ := I1.pin (a, oe) (List.mem_append_left _ List.mem_cons_self)
  obtain ⟨vs, hd⟩ := hf
  have hx : ObjOk X.prog X.w H1 s1.heap dd (.xd [(("index" : Str), v)]) := I1.hok dd _ ea
  obtain ⟨mA, hns, hr⟩ := hx
  obtain ⟨od, ho, hl⟩ := lookIn_ns hns
  have l : List.lookup ("index" : Str) [(("index" : Str), v)] = some v := by simp [List.lookup]
  obtain ⟨u, hu, ru⟩ := RelO.some_of (v := v) (o := mA "index") (by rw [← l]; exact hr "index")
  have J : PySem.W.InstAt s1.heap a oe C (some od) := ⟨ha, hz.1, by unfold PySem.W.notCls; rw [hd] <;> rfl, by rw [hz.2]; exact ho⟩
  exact HandSPX.exc_get I1.kIn J T.ga T.gg T.exC (PySem.W.findObj_own T.hdC T.noN rfl (by rw [hl, hu])) (handed_of ru) ⟨v, H1, I1.tok _, ru, q⟩
end
end L2

namespace KS
open PySem PySem.Spec PyProof.Rows L2
theorem exm_self {K : PySem.W.Frag} {S : Addr} (h1 : PySem.W.subIn K (.ref S) (.type "BaseException") = some true) (h2 : PySem.W.isClsIn K S = true) (h3 : PySem.W.typeIn K (.ref S) = some (.type "type")) (h4 : PySem.W.subIn K (.ref S) (.ref S) = some true) :
    PySem.W.exmOne K (.ref S) (.ref S) = some true := by
  have e1 : (PySem.W.subIn K (.ref S) (.type "BaseException") == some true) = true := by rw [h1] <;> rfl
  have e2 : ((PySem.W.clsIn K S).isSome && PySem.W.typeIn K (.ref S) == some (.type "type")) = true := by
    have h2' : (PySem.W.clsIn K S).isSome = true := h2
    rw [h2', h3] <;> rfl
  show (if (PySem.W.subIn K (.ref S) (.type "BaseException") == some true) = true then (if ((PySem.W.clsIn K S).isSome && PySem.W.typeIn K (.ref S) == some (.type "type")) = true then PySem.W.subIn K (.ref S) (.ref S) else none) else none) = some true
  rw [if_pos e1, if_pos e2]
  exact h4
end KS
namespace KS
open PySem PySem.Spec PyProof.Rows L2
/-! ### things of any kind, as is_plan and its law look at them -/
inductive Oth (K : PySem.W.Frag) (H : Hp) : V → String → Prop
  | non : Oth K H .non "NoneType"
  | bl (b : Bool) : Oth K H (.bl b) "bool"
  | int (i : Int) : Oth K H (.int i) "int"
  | str (x : Str) : Oth K H (.str x) "str"
  | lst {a : Addr} {xs : List V} : H a = some (.lst xs) → Oth K H (.ref a) "list"
  | dct {a : Addr} {kvs : List (Key × V)} : H a = some (.dK kvs) → Oth K H (.ref a) "dict"
  | tup {a : Addr} {xs : List V} : SqT K H a xs → Oth K H (.ref a) "tuple"
theorem Oth.ty {K : PySem.W.Frag} {H : Hp} {v : V} {t : String} (h : Oth K H v t) : TyX K H v (.type t) := by
  cases h with
  | non => exact .base .non
  | bl b => exact .base (.bl b)
  | int i => exact .base (.int i)
  | str x => exact .base (.str x)
  | lst e => exact .base (.lst e)
  | dct e => exact .base (.dK e)
  | tup e => exact tyx_tup e
/-- a number of a row or column (true), or a known other thing -/
def PlR (K : PySem.W.Frag) (H : Hp) (v : V) : Bool → Prop
  | true => ∃ i, v = .int i ∧ 0 ≤ i ∧ i ≤ 7
  | false => (∃ i, v = .int i ∧ ¬ (0 ≤ i ∧ i ≤ 7)) ∨ ∃ t, Oth K H v t ∧ t ≠ "int"
/-- an int between bounds (true), or a known other thing -/
def BwR (K : PySem.W.Frag) (H : Hp) (v : V) (lo hi : Int) : Bool → Prop
  | true => ∃ i, v = .int i ∧ lo ≤ i ∧ i ≤ hi
  | false => (∃ i, v = .int i ∧ ¬ (lo ≤ i ∧ i ≤ hi)) ∨ ∃ t, Oth K H v t ∧ t ≠ "int"
def spBetweenG (K : PySem.W.Frag) : Sp := fun vs H Q _ => ∃ (v : V) (lo hi : Int) (b : Bool), vs = [v, .int lo, .int hi] ∧ BwR K H v lo hi b ∧ Q (.bl b) H
theorem bw_of_pl {K : PySem.W.Frag} {H : Hp} {v : V} {b : Bool} (h : PlR K H v b) : BwR K H v 0 7 b := by
  cases b <;> exact h
/-- a cell, or a known other thing -/
def ElR (K : PySem.W.Frag) (H : Hp) (x : V) : Option Cell → Prop
  | some c => CellAt K H x c ∧ InGrid c
  | none => (∃ t, Oth K H x t ∧ t ≠ "tuple") ∨ (∃ t ys, x = .ref t ∧ SqT K H t ys ∧ ys.length ≠ 2) ∨
      ∃ t y0 y1 b0 b1, x = .ref t ∧ SqT K H t [y0, y1] ∧ PlR K H y0 b0 ∧ PlR K H y1 b1 ∧ (b0 && b1) = false
abbrev Els (K : PySem.W.Frag) (H : Hp) : List V → List (Option Cell) → Prop := Paired (ElR K H)
/-- the first i elements are cells that ascend -/
def OkTo (rs : List (Option Cell)) (i : Nat) : Prop := ∀ j, j < i → ∃ c, rs[j]? = some (some c) ∧ ∀ k, j = k + 1 → ∃ c', rs[k]? = some (some c') ∧ lt2 c' c
def BadAt (rs : List (Option Cell)) (i : Nat) : Prop := rs[i]? = some none ∨ ∃ c c' k, rs[i]? = some (some c) ∧ i = k + 1 ∧ rs[k]? = some (some c') ∧ ¬ lt2 c' c
inductive Verd | ok | non | at (i : Nat)
/-- what a thing is worth as a plan -/
def PlanV (K : PySem.W.Frag) (H : Hp) (v : V) : Verd → Prop
  | .ok => ∃ a xs rs, v = .ref a ∧ SqT K H a xs ∧ 1 ≤ xs.length ∧ xs.length ≤ 24 ∧ Els K H xs rs ∧ OkTo rs rs.length
  | .non => (∃ t, Oth K H v t ∧ t ≠ "tuple") ∨ ∃ a xs, v = .ref a ∧ SqT K H a xs ∧ (xs.length = 0 ∨ 24 < xs.length)
  | .at i => ∃ a xs rs, v = .ref a ∧ SqT K H a xs ∧ 1 ≤ xs.length ∧ xs.length ≤ 24 ∧ Els K H xs rs ∧ OkTo rs i ∧ BadAt rs i
def Verd.good : Verd → Bool
  | .ok => true
  | _ => false
theorem lt2_dec (a b : Cell) : lt2 a b ∨ ¬ lt2 a b := Classical.em _
/-- each list of verdicts has a first fault, or none -/
theorem first_bad (rs : List (Option Cell)) : ∀ n, n ≤ rs.length → OkTo rs n ∨ ∃ i, i < n ∧ OkTo rs i ∧ BadAt rs i
  | 0, _ => .inl fun j hj => absurd hj (Nat.not_lt_zero _)
  | n + 1, h => by
    rcases first_bad rs n (by omega) with ok | ⟨i, h1, h2, h3⟩
    · have hn : n < rs.length := by omega
      cases e : rs[n]? with
      | none =>
        have := List.getElem?_eq_none_iff.mp e
        omega
      | some o =>
        cases o with
        | none => exact .inr ⟨n, by omega, ok, .inl e⟩
        | some c =>
          have fin : (∀ k, n = k + 1 → ∃ c', rs[k]? = some (some c') ∧ lt2 c' c) → OkTo rs (n + 1) := fun q j hj => by
            by_cases z : j < n
            · exact ok j z
            · have : j = n := by omega
              subst this
              exact ⟨c, e, q⟩
          cases n with
          | zero => exact .inl (fin fun k z => by omega)
          | succ m =>
            obtain ⟨c', e', _⟩ := ok m (by omega)
            rcases lt2_dec c' c with z | z
            · exact .inl (fin fun k hk => by
                have : k = m := by omega
                subst this
                exact ⟨c', e', z⟩)
            · exact .inr ⟨m + 1, by omega, ok, .inr ⟨c, c', m, e, rfl, e', z⟩⟩
    · exact .inr ⟨i, by omega, h2, h3⟩
/-- a tuple whose elements are known has a worth -/
theorem planV_of {K : PySem.W.Frag} {H : Hp} {a : Addr} {xs : List V} {rs : List (Option Cell)} (h : SqT K H a xs) (e : Els K H xs rs) : ∃ v, PlanV K H (.ref a) v := by
  by_cases c : xs.length = 0 ∨ 24 < xs.length
  · exact ⟨.non, .inr ⟨a, xs, rfl, h, c⟩⟩
  · have hl := Paired.length e
    rcases first_bad rs rs.length (Nat.le_refl _) with ok | ⟨i, _, h2, h3⟩
    · exact ⟨.ok, a, xs, rs, rfl, h, by omega, by omega, e, ok⟩
    · exact ⟨.at i, a, xs, rs, rfl, h, by omega, by omega, e, h2, h3⟩
theorem els_cells {K : PySem.W.Frag} {H : Hp} : ∀ {xs : List V} {cs : List Cell}, CellsAt K H xs cs → (∀ c ∈ cs, InGrid c) → Els K H xs (cs.map some)
  | _, _, .nil, _ => .nil
  | _, _, .cons r t, g => .cons ⟨r, g _ List.mem_cons_self⟩ (els_cells t fun c hc => g c (List.mem_cons_of_mem _ hc))
theorem okTo_good {cs : List Cell} (h : cs.Pairwise lt2) : OkTo (cs.map some) (cs.map some).length := by
  intro j hj
  rw [List.length_map] at hj
  refine ⟨cs[j], by rw [List.getElem?_map, List.getElem?_eq_getElem hj]; rfl, fun k hk => ?_⟩
  subst hk
  have hk : k < cs.length := by omega
  exact ⟨cs[k], by rw [List.getElem?_map, List.getElem?_eq_getElem hk]; rfl, (List.pairwise_iff_getElem.mp h) k (k + 1) hk hj (by omega)⟩
theorem planV_good {K : PySem.W.Frag} {H : Hp} {a : Addr} {cs : List Cell} (h : PlanAt K H a cs) (g : Good cs) (hl : cs.length ≤ 24) : PlanV K H (.ref a) .ok := by
  obtain ⟨xs, h1, h2⟩ := h
  have hlen := Paired.length h2
  have hpos : 0 < cs.length := by
    rcases Nat.eq_zero_or_pos cs.length with z | z
    · exact absurd (List.eq_nil_of_length_eq_zero z) g.ne
    · exact z
  exact ⟨a, xs, cs.map some, rfl, h1, by omega, by omega, els_cells h2 g.grid, okTo_good g.asc⟩
/-! ### what stays -/
theorem Oth.same {K : PySem.W.Frag} {H H' : Hp} {v : V} {t : String} (s : Same H H') (h : Oth K H v t) : Oth K H' v t := by
  cases h with
  | non => exact .non
  | bl b => exact .bl b
  | int i => exact .int i
  | str x => exact .str x
  | lst e => exact .lst (s _ _ e)
  | dct e => exact .dct (s _ _ e)
  | tup e => exact .tup (same_seqT s e)
theorem PlR.same {K : PySem.W.Frag} {H H' : Hp} {v : V} {b : Bool} (s : Same H H') (h : PlR K H v b) : PlR K H' v b := by
  cases b with
  | true => exact h
  | false =>
    rcases h with h | ⟨t, h, n⟩
    · exact .inl h
    · exact .inr ⟨t, h.same s, n⟩
theorem ElR.same {K : PySem.W.Frag} {H H' : Hp} {x : V} {o : Option Cell} (s : Same H H') (h : ElR K H x o) : ElR K H' x o := by
  cases o with
  | some c => exact ⟨h.1.kt (.of_same s), h.2⟩
  | none =>
    rcases h with ⟨t, h, n⟩ | ⟨t, ys, e, h, n⟩ | ⟨t, y0, y1, b0, b1, e, h, p0, p1, n⟩
    · exact .inl ⟨t, h.same s, n⟩
    · exact .inr (.inl ⟨t, ys, e, same_seqT s h, n⟩)
    · exact .inr (.inr ⟨t, y0, y1, b0, b1, e, same_seqT s h, p0.same s, p1.same s, n⟩)
theorem els_same {K : PySem.W.Frag} {H H' : Hp} (s : Same H H') {xs : List V} {rs : List (Option Cell)} (h : Els K H xs rs) : Els K H' xs rs := Paired.mono (fun _ _ q => q.same s) h
theorem PlanV.same {K : PySem.W.Frag} {H H' : Hp} {v : V} {b : Verd} (s : Same H H') (h : PlanV K H v b) : PlanV K H' v b := by
  cases b with
  | ok =>
    obtain ⟨a, xs, rs, e, h1, h2, h3, h4, h5⟩ := h
    exact ⟨a, xs, rs, e, same_seqT s h1, h2, h3, els_same s h4, h5⟩
  | non =>
    rcases h with ⟨t, h, n⟩ | ⟨a, xs, e, h, n⟩
    · exact .inl ⟨t, h.same s, n⟩
    · exact .inr ⟨a, xs, e, same_seqT s h, n⟩
  | «at» i =>
    obtain ⟨a, xs, rs, e, h1, h2, h3, h4, h5⟩ := h
    exact ⟨a, xs, rs, e, same_seqT s h1, h2, h3, els_same s h4, h5⟩
/-! ### the promises -/
def spWholeG (K : PySem.W.Frag) : Sp := fun vs H Q _ => ∃ (v : V) (t : String), vs = [v] ∧ Oth K H v t ∧ Q (.bl (decide (t = "int"))) H
def spPlaceG (K : PySem.W.Frag) : Sp := fun vs H Q _ => ∃ (v : V) (b : Bool), vs = [v] ∧ PlR K H v b ∧ Q (.bl b) H
def spIsCellG (K : PySem.W.Frag) : Sp := fun vs H Q _ => ∃ (v : V) (o : Option Cell), vs = [v] ∧ ElR K H v o ∧ ∀ H', Same H H' → Q (.bl o.isSome) H'
def vIdx : Verd → V
  | .at i => .int (i : Nat)
  | _ => .non
def spCheckG (K : PySem.W.Frag) (C : Addr) : Sp := fun vs H Q E => ∃ (v : V) (b : Verd), vs = [v] ∧ PlanV K H v b ∧ (b.good = true → ∀ H', Same H H' → Q .non H') ∧
  (b.good = false → ∀ H' d, Same H H' → H d = none → H' d = some (.xd [(("index" : Str), vIdx b)]) → E (.ref C) (some d) H')
def spIsPlan (K : PySem.W.Frag) : Sp := fun vs H Q _ => ∃ (v : V) (b : Verd), vs = [v] ∧ PlanV K H v b ∧ ∀ H', Same H H' → Q (.bl b.good) H'
theorem le2_iff {a b : Cell} : Ob.lexAt (fun j => decide (([b.1, b.2] : List Int).getD j 0 = ([a.1, a.2] : List Int).getD j 0)) (fun j => decide (([b.1, b.2] : List Int).getD j 0 ≤ ([a.1, a.2] : List Int).getD j 0)) (decide (([b.1, b.2] : List Int).length ≤ ([a.1, a.2] : List Int).length)) 0 (min ([b.1, b.2] : List Int).length ([a.1, a.2] : List Int).length) = true ↔ ¬ lt2 a b := by
  constructor
  · intro h z
    rw [not_le2 z] at h
    cases h
  · intro h
    show Ob.lexAt _ _ _ 0 2 = true
    rw [Ob.lexAt_succ, Ob.lexAt_succ]
    show (if decide (b.1 = a.1) = true then (if decide (b.2 = a.2) = true then _ else decide (b.2 ≤ a.2)) else decide (b.1 ≤ a.1)) = true
    unfold lt2 at h
    by_cases e1 : b.1 = a.1
    · rw [if_pos (by simpa using e1)]
      by_cases e2 : b.2 = a.2
      · rw [if_pos (by simpa using e2)]
        rfl
      · rw [if_neg (by simpa using e2)]
        simp
        omega
    · rw [if_neg (by simpa using e1)]
      simp
      omega
/-- isinstance's answers -/
theorem kit_int {K : PySem.W.Frag} {H : Hp} {v : V} {t : String} (h : Oth K H v t) : PySem.W.kitOne K (.type t) (.type "int") = some (decide (t = "int" ∨ t = "bool")) := by
  cases h <;> exact kit_ty (by decide +kernel)
theorem kit_bool {K : PySem.W.Frag} {H : Hp} {v : V} {t : String} (h : Oth K H v t) : PySem.W.kitOne K (.type t) (.type "bool") = some (decide (t = "bool")) := by
  cases h <;> exact kit_ty (by decide +kernel)
theorem kit_tuple {K : PySem.W.Frag} {H : Hp} {v : V} {t : String} (h : Oth K H v t) : PySem.W.kitOne K (.type t) (.type "tuple") = some (decide (t = "tuple")) := by
  cases h <;> exact kit_ty (by decide +kernel)
end KS
namespace KS
open PySem PySem.Spec PyProof.Rows L2
theorem ok_notBad {rs : List (Option Cell)} {n i : Nat} (h : OkTo rs n) (hi : i < n) : ¬ BadAt rs i := by
  obtain ⟨c, e, k⟩ := h i hi
  rintro (z | ⟨c1, c2, j, e1, e2, e3, e4⟩)
  · rw [e] at z
    cases z
  · rw [e] at e1
    cases e1
    obtain ⟨c3, e5, e6⟩ := k j e2
    rw [e3] at e5
    cases e5
    exact e4 e6
theorem bad_lt {rs : List (Option Cell)} {i : Nat} (h : BadAt rs i) : i < rs.length := by
  rcases h with z | ⟨c1, c2, j, e1, _⟩
  · exact (List.getElem?_eq_some_iff.mp z).1
  · exact (List.getElem?_eq_some_iff.mp e1).1
/-- the two ways of a tuple of a right length -/
def TwoWays (rs : List (Option Cell)) (b : Verd) : Prop := (b.good = true ∧ OkTo rs rs.length) ∨ ∃ i, b = .at i ∧ OkTo rs i ∧ BadAt rs i
theorem TwoWays.bad {rs : List (Option Cell)} {b : Verd} {i : Nat} (h : TwoWays rs b) (ok : OkTo rs i) (bad : BadAt rs i) : b = .at i := by
  rcases h with ⟨_, h⟩ | ⟨j, e, h1, h2⟩
  · exact absurd bad (ok_notBad h (bad_lt bad))
  · have : i = j := by
      rcases Nat.lt_trichotomy i j with z | z | z
      · exact absurd bad (ok_notBad h1 z)
      · exact z
      · exact absurd h2 (ok_notBad ok z)
    rw [this]
    exact e
theorem TwoWays.ok {rs : List (Option Cell)} {b : Verd} (h : TwoWays rs b) (ok : OkTo rs rs.length) : b.good = true := by
  rcases h with ⟨h, _⟩ | ⟨j, e, h1, h2⟩
  · exact h
  · exact absurd h2 (ok_notBad ok (bad_lt h2))
theorem PlanV.split {K : PySem.W.Frag} {H : Hp} {v : V} {b : Verd} (h : PlanV K H v b) : (b = .non ∧ ((∃ t, Oth K H v t ∧ t ≠ "tuple") ∨ ∃ a xs, v = .ref a ∧ SqT K H a xs ∧ (xs.length = 0 ∨ 24 < xs.length))) ∨
    ∃ a xs rs, v = .ref a ∧ SqT K H a xs ∧ 1 ≤ xs.length ∧ xs.length ≤ 24 ∧ Els K H xs rs ∧ TwoWays rs b := by
  cases b with
  | ok =>
    obtain ⟨a, xs, rs, e, h1, h2, h3, h4, h5⟩ := h
    exact .inr ⟨a, xs, rs, e, h1, h2, h3, h4, .inl ⟨rfl, h5⟩⟩
  | non => exact .inl ⟨rfl, h⟩
  | «at» i =>
    obtain ⟨a, xs, rs, e, h1, h2, h3, h4, h5, h6⟩ := h
    exact .inr ⟨a, xs, rs, e, h1, h2, h3, h4, .inr ⟨i, rfl, h5, h6⟩⟩
theorem okTo_succ {rs : List (Option Cell)} {i : Nat} {c : Cell} (h : OkTo rs i) (e : rs[i]? = some (some c)) (k : ∀ j, i = j + 1 → ∃ c', rs[j]? = some (some c') ∧ lt2 c' c) : OkTo rs (i + 1) := fun j hj => by
  by_cases z : j < i
  · exact h j z
  · have : j = i := by omega
    subst this
    exact ⟨c, e, k⟩
end KS
namespace KS
open PySem PySem.Spec PyProof.Rows L2
section
variable {K : PySem.W.Frag} {H H' : Hp} {p : Addr}
theorem Oth.keepX {v : V} {t : String} (hp : PoolO (H p)) (hp' : PoolO (H' p)) (k : KeepX p H H') (h : Oth K H v t) : Oth K H' v t := by
  obtain ⟨x1, x2, x3, e1, _⟩ := hp
  cases h with
  | non => exact .non
  | bl b => exact .bl b
  | int i => exact .int i
  | str x => exact .str x
  | @lst a xs e =>
    by_cases z : a = p
    · subst z
      obtain ⟨y1, y2, y3, e2, _⟩ := hp'
      exact .lst e2
    · exact .lst (k _ _ z e)
  | @dct a kvs e => exact .dct (k _ _ (ne_of e e1 (by intro q; cases q)) e)
  | tup e => exact .tup (keepX_seqT ⟨x1, x2, x3, e1, by assumption⟩ k e)
theorem PlR.keepX {v : V} {b : Bool} (hp : PoolO (H p)) (hp' : PoolO (H' p)) (k : KeepX p H H') (h : PlR K H v b) : PlR K H' v b := by
  cases b with
  | true => exact h
  | false =>
    rcases h with h | ⟨t, h, n⟩
    · exact .inl h
    · exact .inr ⟨t, h.keepX hp hp' k, n⟩
theorem ElR.keepX {x : V} {o : Option Cell} (hp : PoolO (H p)) (hp' : PoolO (H' p)) (k : KeepX p H H') (h : ElR K H x o) : ElR K H' x o := by
  cases o with
  | some c => exact ⟨h.1.kt (.of_keepX hp k), h.2⟩
  | none =>
    rcases h with ⟨t, h, n⟩ | ⟨t, ys, e, h, n⟩ | ⟨t, y0, y1, b0, b1, e, h, p0, p1, n⟩
    · exact .inl ⟨t, h.keepX hp hp' k, n⟩
    · exact .inr (.inl ⟨t, ys, e, keepX_seqT hp k h, n⟩)
    · exact .inr (.inr ⟨t, y0, y1, b0, b1, e, keepX_seqT hp k h, p0.keepX hp hp' k, p1.keepX hp hp' k, n⟩)
theorem PlanV.keepX {v : V} {b : Verd} (hp : PoolO (H p)) (hp' : PoolO (H' p)) (k : KeepX p H H') (h : PlanV K H v b) : PlanV K H' v b := by
  have lift : ∀ {xs : List V} {rs : List (Option Cell)}, Els K H xs rs → Els K H' xs rs := fun h => Paired.mono (fun _ _ q => q.keepX hp hp' k) h
  cases b with
  | ok =>
    obtain ⟨a, xs, rs, e, h1, h2, h3, h4, h5⟩ := h
    exact ⟨a, xs, rs, e, keepX_seqT hp k h1, h2, h3, lift h4, h5⟩
  | non =>
    rcases h with ⟨t, h, n⟩ | ⟨a, xs, e, h, n⟩
    · exact .inl ⟨t, h.keepX hp hp' k, n⟩
    · exact .inr ⟨a, xs, e, keepX_seqT hp k h, n⟩
  | «at» i =>
    obtain ⟨a, xs, rs, e, h1, h2, h3, h4, h5⟩ := h
    exact ⟨a, xs, rs, e, keepX_seqT hp k h1, h2, h3, lift h4, h5⟩
/-- odd things -/
theorem odd2 {t : Addr} {y0 y1 : V} {b0 b1 : Bool} (h : H t = some (.tup [y0, y1])) (p0 : PlR K H y0 b0) (p1 : PlR K H y1 b1) (n : (b0 && b1) = false) : ElR K H (.ref t) none :=
  .inr (.inr ⟨t, y0, y1, b0, b1, rfl, SqT.of h, p0, p1, n⟩)
theorem oddN {t : Addr} {ys : List V} (h : SqT K H t ys) (n : ys.length ≠ 2) : ElR K H (.ref t) none := .inr (.inl ⟨t, ys, rfl, h, n⟩)
theorem oddO {x : V} {t : String} (h : Oth K H x t) (n : t ≠ "tuple") : ElR K H x none := .inl ⟨t, h, n⟩
theorem pl_yes {i : Int} (h : 0 ≤ i ∧ i ≤ 7) : PlR K H (.int i) true := ⟨i, rfl, h.1, h.2⟩
theorem pl_no {i : Int} (h : ¬ (0 ≤ i ∧ i ≤ 7)) : PlR K H (.int i) false := .inl ⟨i, rfl, h⟩
theorem pl_oth {x : V} {t : String} (h : Oth K H x t) (n : t ≠ "int") : PlR K H x false := .inr ⟨t, h, n⟩
theorem odd_plan {a : Addr} {cs : List Cell} (h : PlanAt K H a cs) : ElR K H (.ref a) none := by
  obtain ⟨xs, h1, h2⟩ := h
  by_cases c : xs.length = 2
  · cases h2 with
    | nil => cases c
    | @cons x c0 xs1 cs1 r0 h3 =>
      cases h3 with
      | nil => cases c
      | @cons y c1 xs2 cs2 r1 h4 =>
        cases h4 with
        | cons _ _ =>
          simp at c
        | nil =>
          obtain ⟨t0, e0, q0⟩ := r0
          obtain ⟨t1, e1, q1⟩ := r1
          subst e0
          subst e1
          exact .inr (.inr ⟨a, _, _, false, false, rfl, h1, pl_oth (.tup q0) (by decide), pl_oth (.tup q1) (by decide), rfl⟩)
  · exact oddN h1 c
end
def spBent (K : PySem.W.Frag) : Sp := fun vs H Q _ => ∃ (p a : Addr) (cs : List Cell), vs = [.ref p, .ref a] ∧ PoolO (H p) ∧ PlanAt K H a cs ∧ Good cs ∧ cs.length ≤ 24 ∧
  ∀ H' v b, KeepX p H H' → PoolO (H' p) → PlanV K H' v b → Q v H'
end KS
namespace KS
open PySem PySem.Spec PyProof.Rows L2
section
variable {K : PySem.W.Frag} {σ : L2.St} {H : Hp} {Q : VK} {ta : TA}
/-- a display of values that are at hand: a new object -/
theorem tup_ok (vs : List V) (h : ∀ R : List V → Hp → Prop, R vs H → ta σ H R) (hl : vs.length ≤ 64) (k : ∀ H' t, Same H H' → H' t = some (.tup vs) → H t = none → Q (.ref t) H') : tTup ta σ H Q :=
  h _ ⟨Nat.le_of_lt (small64 hl), fun p np => k _ p (same_new np) upd_same np⟩
theorem lst_ok (vs : List V) (h : ∀ R : List V → Hp → Prop, R vs H → ta σ H R) (hl : vs.length ≤ 64) (k : ∀ H' t, Same H H' → H' t = some (.lst vs) → H t = none → Q (.ref t) H') : tLst ta σ H Q :=
  h _ ⟨Nat.le_of_lt (small64 hl), fun p np => k _ p (same_new np) upd_same np⟩
theorem dnew_ok (k : ∀ H' t, Same H H' → H' t = some (.dK []) → H t = none → Q (.ref t) H') : tDNewK σ H Q :=
  fun p np => k _ p (same_new np) upd_same np
theorem catA_ok {a b : Addr} {xs ys : List V} (ha : SqT K H a xs) (hb : SqT K H b ys) (hl : xs.length + ys.length ≤ 64)
    (k : ∀ H' u, Same H H' → SqT K H' u (xs ++ ys) → Q (.ref u) H') : rCatA K (.ref a) (.ref b) H Q := by
  refine ⟨a, b, xs, ys, rfl, rfl, ha, hb, Nat.le_of_lt (small64 hl), fun e => ?_, fun _ e => ?_, fun _ _ p np => ?_⟩
  · subst e
    exact k H b (Same.refl _) hb
  · subst e
    exact k H a (Same.refl _) (by rw [List.append_nil]; exact ha)
  · exact k _ p (same_new np) (SqT.of upd_same)
theorem cut_to {xs : List V} {k : Nat} (h : k ≤ xs.length) : cutV xs none (some (k : Int)) = xs.take k := by
  unfold cutV
  rw [HT.sIx_none, HT.sIx_nat, Nat.min_eq_left h]
  simp
theorem cut_from {xs : List V} {k : Nat} (h : k ≤ xs.length) : cutV xs (some (k : Int)) none = xs.drop k := by
  unfold cutV
  rw [HT.sIx_none, HT.sIx_nat, Nat.min_eq_left h]
  exact List.take_of_length_le (by rw [List.length_drop]; exact Nat.le_refl _)
/-- t[:k], t[k:], whatever object comes -/
theorem slTo_ok {a : Addr} {xs : List V} {n : Nat} (ha : SqT K H a xs) (hn : n ≤ xs.length) (k : ∀ H' u, Same H H' → SqT K H' u (xs.take n) → Q (.ref u) H') : rSlA K (.ref a) none (some (n : Int)) H Q := by
  refine ⟨a, xs, rfl, ha, fun z => ?_, fun _ p np => ?_⟩
  · obtain ⟨_, z2⟩ := z
    rw [show HT.sIx xs.length xs.length (some (n : Int)) = min n xs.length from HT.sIx_nat _ _ n] at z2
    have e : n = xs.length := by omega
    refine k H a (Same.refl _) ?_
    rw [e, List.take_length]
    exact ha
  · refine k _ p (same_new np) (SqT.of ?_)
    rw [upd_same, cut_to hn]
theorem slFrom_ok {a : Addr} {xs : List V} {n : Nat} (ha : SqT K H a xs) (hn : n ≤ xs.length) (k : ∀ H' u, Same H H' → SqT K H' u (xs.drop n) → Q (.ref u) H') : rSlA K (.ref a) (some (n : Int)) none H Q := by
  refine ⟨a, xs, rfl, ha, fun z => ?_, fun _ p np => ?_⟩
  · obtain ⟨z1, _⟩ := z
    rw [show HT.sIx xs.length 0 (some (n : Int)) = min n xs.length from HT.sIx_nat _ _ n] at z1
    refine k H a (Same.refl _) ?_
    rcases Nat.eq_zero_or_pos n with e | e
    · subst e
      exact ha
    · have e2 : xs.length = 0 := by omega
      have e3 := List.eq_nil_of_length_eq_zero e2
      subst e3
      simpa using ha
  · refine k _ p (same_new np) (SqT.of ?_)
    rw [upd_same, cut_from hn]
theorem paired_take {α β : Type} {F : α → β → Prop} : ∀ {l₁ : List α} {l₂ : List β} (i : Nat), Paired F l₁ l₂ → Paired F (l₁.take i) (l₂.take i)
  | _, _, 0, _ => .nil
  | _, _, _ + 1, .nil => .nil
  | _, _, i + 1, .cons r t => .cons r (paired_take i t)
theorem paired_drop {α β : Type} {F : α → β → Prop} : ∀ {l₁ : List α} {l₂ : List β} (i : Nat), Paired F l₁ l₂ → Paired F (l₁.drop i) (l₂.drop i)
  | _, _, 0, h => h
  | _, _, _ + 1, .nil => .nil
  | _, _, i + 1, .cons _ t => paired_drop i t
theorem paired_rev {α β : Type} {F : α → β → Prop} : ∀ {l₁ : List α} {l₂ : List β}, Paired F l₁ l₂ → Paired F l₁.reverse l₂.reverse
  | _, _, .nil => .nil
  | _, _, .cons r t => by
    rw [List.reverse_cons, List.reverse_cons]
    exact paired_append (paired_rev t) (.cons r .nil)
end
end KS
namespace KS
open PySem PySem.Spec PyProof.Rows L2
theorem new_ok {H : Hp} {o : HO} {Q : VK} (k : ∀ H' t, Same H H' → H' t = some o → H t = none → Q (.ref t) H') : ∀ p, H p = none → Q (.ref p) (upd H p o) := fun p np => k _ p (same_new np) upd_same np
theorem pick_ok {items : List V} {r : Int} (h0 : 0 ≤ r) (h1 : r < (items.length : Int)) : ∃ x, x ∈ items ∧ atI items r = some x := by
  obtain ⟨n, rfl⟩ := Int.eq_ofNat_of_zero_le h0
  have hn : n < items.length := by omega
  exact ⟨items[n], List.getElem_mem hn, atI_nat (List.getElem?_eq_getElem hn)⟩
end KS
namespace PySem
namespace XInvalidFilling
open PySem.W PySem.Calls PyProof.Rows PySem.HandSPX
/-! ### the text of __init__ -/
def iA (p1 p2 : Pos) : Arguments := { posonlyargs := [], args := [{ arg := "self", annotation := none, pos := p1 }, { arg := "index", annotation := none, pos := p2 }], vararg := none, kwonlyargs := [], kw_defaults := [], kwarg := none, defaults := [] }
def iB (q1 q2 q3 q4 : Pos) : List Stmt := [.Assign [.Attribute (.Name "self" q1) "index" q2] (.Name "index" q3) q4]
def iS : Scope := { kind := .function, names := [(PySem.Str.ofString "self", .local), (PySem.Str.ofString "index", .local)], isGenerator := false, isCoroutine := false, more := [] }
/-- what the written part says of Low, at C, and of its __init__, at fI -/
structure InvalidFillingTxt (K : Frag) (mg : Str → Option Value) (C fI : Addr) : Prop where
  gC : mg "InvalidFilling" = some (.ref C)
  cls : ∃ nm q N bs bm sn sub ab col dd k0 k1 k2 k3 k5, K.lookup C = some (excClassObj nm q C N bs bm true sn sub ab col dd k0 k1 k2 k3 k5 "ValueError.__new__") ∧ refsVE bm = true
  sa : findIn K (.ref C) "__setattr__" = some (some (.builtin "object.__setattr__"))
  ga : findIn K (.ref C) "__getattribute__" = some (some (.builtin "BaseException.__getattribute__"))
  gg : findIn K (.ref C) "__getattr__" = some none
  noN : findIn K (.ref C) "index" = some none
  iC : findIn K (.ref C) "__init__" = some (some (.ref fI))
  tC : typeIn K (.ref fI) = some (.type "function")
  kC : keepIn K (.ref C) = true
  exC : subIn K (.ref C) (.type "BaseException") = some true
  tyC : typeIn K (.ref C) = some (.type "type")
  hdC : hasDictIn K C = true
  te : exmOne K (.ref C) (.ref C) = some true
  fn : ∃ (oc : Value) (od : Option Addr) (doc pm : Value) (an : Option Addr) (cdv ct : Value) (osl : Array (Option Value)) (p1 p2 q1 q2 q3 q4 : Pos),
    K.lookup fI = some ⟨oc, od, .func (fnOf "__init__" "InvalidFilling.__init__" (iA p1 p2) (iB q1 q2 q3 q4) iS .none .none doc pm an cdv ct), osl⟩ ∧ codeIn K cdv "InvalidFilling.__init__" = true
theorem one_size (v : Value) : [v].length ≤ sizeLine := by
  rw [sizeLine_eq]
  exact (by decide : 1 ≤ 16777216)
theorem kept_but {K : Frag} {h h' : Heap} {x : Addr} (X : K.In h) (hx : K.lookup x = none) (k : ∀ b o, b ≠ x → h.get? b = some o → h'.get? b = some o) : K.In h' := fun a o e =>
  k a o (fun z => by rw [z, hx] at e; cases e) (X a o e)
theorem ldC {M : Model} {s : Shared} {name : Str} {scope : Scope} {L a : Addr} {cd : Value} {m : Str → Option Value} {x : Str} {pos : Pos} {v : Value} {Q : Value → Shared → Prop} {A : Around} {E : Value → Shared → Prop} (hn : s.heap.Ns L m) (hv : m x = some v) (h : Q v s)
    (hk : scope.kind = .function := by rfl) (hl : (envOfC name scope L a cd).kindOf x = some .local := by rfl) (hd : (x == ("__debug__" : Str)) = false := by decide) :
    wpAny M A (eval (.Name x pos) (envOfC name scope L a cd)) Q E s := wpAny_Name (wpAny_loadName_local hk hl hn hv h) hd
/-- what __init__ leaves of a fresh exception at x -/
structure InitEnd (h h' : Heap) (x C dx t1 : Addr) (v : Value) : Prop where
  keep : ∀ b o, b ≠ x → h.get? b = some o → h'.get? b = some o
  obj : h'.get? x = some { cls := .ref C, dict := some dx, data := .fields #[.ref t1, .none, .none, .none, .bool false, .none] }
  dbig : h.objs.size ≤ dx
  dne : dx ≠ x
  ns : h'.Ns1 dx (fun y => if y = "index" then some v else none)
/-- made -/
structure OwnMade (h h' : Heap) (e C d : Addr) (v : Value) : Prop where
  keep : ∀ b o, h.get? b = some o → h'.get? b = some o
  new : h.objs.size ≤ e
  obj : ∃ oe vs, h'.get? e = some oe ∧ oe.cls = .ref C ∧ oe.dict = some d ∧ oe.data = .fields vs ∧ vs[1]? = some .none
  dbig : h.objs.size ≤ d
  dne : d ≠ e
  ns : h'.Ns1 d (fun y => if y = "index" then some v else none)
section
variable {prog : Program} {w : World} {A : Around} {E : Value → Shared → Prop} {R : Result → Shared → Prop} {s : Shared} {K : Frag} {mg : Str → Option Value} {C fI : Addr}
theorem _initInvalidFilling (T : InvalidFillingTxt K mg C fI) {x t0 : Addr} {v : Value} (X : K.In s.heap) (hlim : s.heap.NoLimit) (hx : s.heap.get? x = some (excO C t0)) (hnx : K.lookup x = none) (hroom : A.depth < recursionLimit)
    (hq : ∀ h' tk dx, InitEnd s.heap h' x C dx t0 v → R (.ok (.ret .none)) { s with heap := h', toks := tk }) :
    codeAny (model prog w) A (.call (.ref fI) ⟨[.ref x, v], []⟩) R s := by
  obtain ⟨oc, od, doc, pm, an, cdv, ct, osl, p1, p2, q1, q2, q3, q4, ho, hcd⟩ := T.fn
  obtain ⟨nm, q, N, bs, bm, sn, sub, ab, col, dd, k0, k1, k2, k3, k5, hC, hbm⟩ := T.cls
  have hcl : clsIn K C = some { name := nm, bases := bs, mro := .ref C :: bm, ns := N, qualname := q, hasDict := true, slotNames := sn, subclasses := sub, abstract := ab, collection := col, hasDel := false } := by unfold clsIn; rw [hC] <;> rfl
  refine Att.call_fn (binds := [("self", .ref x), ("index", v)]) X hlim ho hcd hroom (BindsTo.of_eq (by first | rfl | with_unfolding_all rfl)) (by first | rfl | decide | with_unfolding_all rfl) (fun s₁ IC => ?_) rfl rfl rfl
  obtain ⟨h₁, tk₁, rfl⟩ := IC.toInCall.same
  have k : ∀ b o, s.heap.get? b = some o → h₁.get? b = some o := IC.toInCall.keep
  have hn := IC.toInCall.ns
  have hxL : s.heap.objs.size ≠ x := Nat.ne_of_gt (Heap.lt_size hx)
  have X₁ : K.In h₁ := X.keeps k
  have hx₁ := k _ _ hx
  -- self.f = f
  show wpAny _ _ (execs _ _) _ _ _
  refine wpAny_execs_cons (plainObj_wpAny_Assign_Attribute ?_)
  refine ldC (v := v) hn (by first | rfl | with_unfolding_all rfl | kernel_rfl) (ldC (v := .ref x) hn (by first | rfl | with_unfolding_all rfl | kernel_rfl) ?_)
  refine set_plain X₁ (ox := excO C t0) (od := none) ⟨hx₁, rfl, rfl, trivial⟩ T.sa ?_
  refine exc_osa X₁ hx₁ hcl (show refsVE (.ref C :: bm) = true from hbm) rfl T.noN (fun h₃ tk₃ dx k₃ dn dne hx₃ hn₃ => ?_)
  show wpAny _ _ (execs _ _) _ _ _
  have z : s.heap.objs.size < h₁.objs.size := hn.lt
  exact wpAny_execs_nil (hq h₃ tk₃ dx ⟨fun b o hb e => k₃ b o hb (k b o e), hx₃, Nat.le_of_lt (Nat.lt_of_lt_of_le z dn), dne, hn₃⟩)
theorem _madeInvalidFilling (T : InvalidFillingTxt K mg C fI) {v : Value} (X : K.In s.heap) (hlim : s.heap.NoLimit) (hroom : A.depth + 1 < recursionLimit)
    (hq : ∀ h' tk e d, OwnMade s.heap h' e C d v → R (.ok (.ret (.ref e))) { s with heap := h', toks := tk }) :
    codeAny (model prog w) A (.call (.ref C) ⟨[v], []⟩) R s := by
  obtain ⟨nm, q, N, bs, bm, sn, sub, ab, col, dd, k0, k1, k2, k3, k5, hC, hbm⟩ := T.cls
  obtain ⟨hp, g, dr, tk, os⟩ := s
  have k : ∀ b o, hp.get? b = some o → ((hp.push (kdv_tup [v])).push (excO C hp.objs.size)).get? b = some o := fun b o e => Heap.get?_push_of_some _ (Heap.get?_push_of_some _ e)
  have hget : ((hp.push (kdv_tup [v])).push (excO C hp.objs.size)).get? (hp.objs.size + 1) = some (excO C hp.objs.size) := by heap_get
  have hnx : K.lookup (hp.objs.size + 1) = none := by
    cases e : K.lookup (hp.objs.size + 1) with
    | none => rfl
    | some o =>
      have z : hp.get? (hp.objs.size + 1) = some o := X _ _ e
      exact absurd (Nat.lt_of_succ_lt (Heap.lt_size z)) (Nat.lt_irrefl _)
  refine call_own F.excBase_ValueError (fun X => refsVE_contains X bm hbm) (X _ _ hC) (looks_findIn X T.iC) (fun self => bind_fn X self T.tC) (one_size v) ?_
  refine _initInvalidFilling (s := ⟨(hp.push (kdv_tup [v])).push (excO C hp.objs.size), g, dr, tk, os⟩) T (X.keeps k) (hlim.keeps k) hget hnx ?_ fun h' tk' dx ⟨k', hx, dn, dne, hns⟩ => ?_
  · show A.depth + 1 < recursionLimit
    exact hroom
  · have old : ∀ b o, hp.get? b = some o → h'.get? b = some o := fun b o e => k' b o (Nat.ne_of_lt (Nat.lt_succ_of_lt (Heap.lt_size e))) (k b o e)
    have z : hp.objs.size + 1 + 1 ≤ dx := by
      first
        | (simpa only [Heap.size_push] using dn)
        | exact dn
        | (have q := dn; rw [Heap.size_push, Heap.size_push] at q; exact q)
    exact ⟨rfl, hq h' tk' (hp.objs.size + 1) dx ⟨old, Nat.le_succ _, ⟨_, _, hx, rfl, rfl, rfl, rfl⟩, Nat.le_trans (Nat.le_trans (Nat.le_succ _) (Nat.le_succ _)) z, dne, hns⟩⟩
end
end XInvalidFilling
end PySem
namespace L2
open PySem PySem.Spec PyProof.Rows
theorem relO_InvalidFilling {v : V} {v' : Value} (r : RelV v v') (f : Str) : RelO (List.lookup f [(("index" : Str), v)]) (if f = "index" then some v' else none) := by
  by_cases hw : f = "index"
  · subst hw
    rw [if_pos rfl]
    have q : List.lookup ("index" : Str) [(("index" : Str), v)] = some v := by simp [List.lookup]
    rw [q]
    exact r
  · rw [if_neg hw]
    have qw : (f == ("index" : Str)) = false := by simpa using hw
    have q2 : List.lookup f [(("index" : Str), v)] = none := by simp [List.lookup, qw]
    rw [q2]
    trivial
section
variable {X : Cx} {C fI : Addr}
/-- Low(e) -/
def tMkInvalidFilling (C : Addr) (ta : TA) : St → Hp → XK → Prop := fun σ H Q => ta σ H fun vs H1 => ∃ v, vs = [v] ∧ ∀ d, H1 d = none → Q (.ref C) (some d) (upd H1 d (.xd [(("index" : Str), v)]))
theorem pmk_InvalidFilling {a : Expr} {ta : TA} {p pos : Pos} {k : Nat} (T : PySem.XInvalidFilling.InvalidFillingTxt X.K X.mg C fI) (hr : Room k X.A) (ha : PA X [a] ta) (hg : Gl X "InvalidFilling" := by rfl)
    (he : starEach (a :: []) X.env = (false, eval a X.env) :: starEach [] X.env := by rfl) (hpl : (backTo pos (starEach [] X.env)).any (·.1) = false := by rfl) :
    PMk X (.Call (.Name "InvalidFilling" p) [a] [] pos) (tMkInvalidFilling C ta) := by
  intro pins s σ H Q I h
  refine wpAny_Call_Name_kw (ld_glob I hg T.gC ?_)
  refine PySem.W.callWith_K (h₀ := X.base) I.ok.mod.kin T.kC (thn (ha.run pos pins s σ H _ I h) fun us s1 hh => ?_) he hpl
  obtain ⟨vs, H1, I1, r1, v, ev, q1⟩ := hh
  subst ev
  refine ⟨I1.kIn, ?_⟩
  cases r1 with
  | cons rv rn =>
    rename_i v' us'
    cases rn
    show wpAny _ _ (call (.ref C) [v']) _ _ _
    have hlim := I1.nolimit
    obtain ⟨hp, g, dr, tk, os⟩ := s1
    refine wpAny_call (PySem.XInvalidFilling._madeInvalidFilling T I1.kIn hlim (by have := hr.dp; omega) fun h' tk' e d M => ?_)
    show MkP X pins σ Q (.ref e) ⟨h', g, dr, tk', os⟩
    obtain ⟨oe, fv, hoe, hc, hd, hdat, h1⟩ := M.obj
    have hns := M.ns
    obtain ⟨G', g1, g2⟩ := restrict h' fun b => decide (b ≠ e)
    have gk : ∀ b, b ≠ e → G'.get? b = h'.get? b := fun b hb => g1 b (decide_eq_true hb)
    have ge : G'.get? e = none := g2 e (by simp)
    have old : ∀ b o, hp.get? b = some o → G'.get? b = some o := fun b o q => (gk b (Nat.ne_of_lt (Nat.lt_of_lt_of_le (Heap.lt_size q) M.new))).trans (M.keep b o q)
    have ob : ObjOk X.prog X.w (upd H1 d (.xd [(("index" : Str), v)])) G' d (.xd [(("index" : Str), v)]) :=
      ⟨_, hns.at (fun o q => (gk d M.dne).trans q), fun f => relO_InvalidFilling rv f⟩
    have J : Inv X pins σ (upd H1 d (.xd [(("index" : Str), v)])) ⟨G', g, dr, tk', os⟩ := I1.laid (t' := tk') old M.dbig ob
    refine ⟨e, oe, fv, ⟨G', g, dr, tk', os⟩, _, .ref C, some d, rfl, J, fun b o q => ?_, ge, hoe, ⟨hc, hd⟩, hdat, h1, ?_, rfl, I1.bare, raises_own T.exC T.tyC, q1 d (I1.hok.fresh M.dbig)⟩
    · by_cases hb : b = e
      · have q' : G'.get? b = some o := q
        rw [hb, ge] at q'; cases q'
      · exact (gk b hb).symm.trans q
    · rw [upd_ne (Ne.symm M.dne)]
      exact I1.hok.fresh M.new
/-- raise C(e) -/
def tRaiseInvalidFilling (C : Addr) (W : WX) (ta : TA) : TS := fun _ σ H => tMkInvalidFilling C ta σ H fun cls d H' => W cls d σ H'
theorem ps_raiseInvalidFilling {a : Expr} {ta : TA} {W : WX} {p pos pos2 : Pos} {k : Nat} (hc : X.calm = true) (T : PySem.XInvalidFilling.InvalidFillingTxt X.K X.mg C fI) (hr : Room k X.A) (tk : Takes X W) (ha : PA X [a] ta) (hg : Gl X "InvalidFilling" := by rfl)
    (he : starEach (a :: []) X.env = (false, eval a X.env) :: starEach [] X.env := by rfl) (hpl : (backTo pos (starEach [] X.env)).any (·.1) = false := by rfl) :
    PS X (.Raise (some (.Call (.Name "InvalidFilling" p) [a] [] pos)) none pos2) (tRaiseInvalidFilling C W ta) := ps_raise hc tk (pmk_InvalidFilling T hr ha hg he hpl)
/-- x.f, low the exception that the suite holds (at a; its class cls, its dict d) -/
def tByInvalidFilling (C : Addr) (a : Addr) (cls : Value) (d : Option Addr) (te : TE) : TE := fun σ H Q => te σ H fun x H1 => x = .ref a ∧ cls = .ref C ∧ ∃ (dd : Addr) (v : V), d = some dd ∧ H1 dd = some (.xd [(("index" : Str), v)]) ∧ Q v H1
theorem pe_byInvalidFilling {a : Addr} {oe : Obj} {cls : Value} {d : Option Addr} {pn : List (Addr × Obj)} {e : Expr} {te : TE} {pos : Pos} (T : PySem.XInvalidFilling.InvalidFillingTxt X.K X.mg C fI) (hz : Zc cls d oe) (hf : ∃ vs, oe.data = .fields vs) (he : PE (X.suite a ((a, oe) :: pn)) e te)
    (hb : attributeBase e "index" X.env (eval e X.env) = eval e X.env := by rfl) :
    PE (X.suite a ((a, oe) :: pn)) (.Attribute e "index" pos) (tByInvalidFilling C a cls d te) := by
  refine ⟨fun pins s σ H Q I h => ?_⟩
  refine attr_of hb (thn (he.run pins s σ H _ I h) fun u s1 hh => ?_)
  obtain ⟨x, H1, I1, rx, ex, ec, dd, v, ed, ea, q⟩ := hh
  subst ex
  obtain rfl : u = Value.ref a := rx
  subst ec
  subst ed
  obtain ⟨ha, _⟩ := I1.pin (a, oe) (List.mem_append_left _ List.mem_cons_self)
  obtain ⟨vs, hd⟩ := hf
  have hx : ObjOk X.prog X.w H1 s1.heap dd (.xd [(("index" : Str), v)]) := I1.hok dd _ ea
  obtain ⟨mA, hns, hr⟩ := hx
  obtain ⟨od, ho, hl⟩ := lookIn_ns hns
  have l : List.lookup ("index" : Str) [(("index" : Str), v)] = some v := by simp [List.lookup]
  obtain ⟨u, hu, ru⟩ := RelO.some_of (v := v) (o := mA "index") (by rw [← l]; exact hr "index")
  have J : PySem.W.InstAt s1.heap a oe C (some od) := ⟨ha, hz.1, by unfold PySem.W.notCls; rw [hd] <;> rfl, by rw [hz.2]; exact ho⟩
  exact HandSPX.exc_get I1.kIn J T.ga T.gg T.exC (PySem.W.findObj_own T.hdC T.noN rfl (by rw [hl, hu])) (handed_of ru) ⟨v, H1, I1.tok _, ru, q⟩
end
end L2
namespace KS
open PySem PySem.Spec PyProof.Rows L2
/-! ### a sort of lines, as mathematics -/
def sortI (l : List Int) : List Int := l.mergeSort (fun a b => decide (a ≤ b))
theorem sortI_perm (l : List Int) : (sortI l).Perm l := List.mergeSort_perm _ _
theorem sortI_asc (l : List Int) : (sortI l).Pairwise (· ≤ ·) := by
  have h := List.pairwise_mergeSort (le := fun (a b : Int) => decide (a ≤ b)) (by
    intro a b c h1 h2
    have h1 := of_decide_eq_true h1
    have h2 := of_decide_eq_true h2
    exact decide_eq_true (by omega)) (by
    intro a b
    rw [Bool.or_eq_true, decide_eq_true_eq, decide_eq_true_eq]
    omega) l
  exact h.imp fun z => of_decide_eq_true z
theorem sortI_eq {l m : List Int} (p : m.Perm l) (a : m.Pairwise (· ≤ ·)) : m = sortI l :=
  List.Perm.eq_of_pairwise (fun x y _ _ h1 h2 => by omega) a (sortI_asc l) (p.trans (sortI_perm l).symm)
theorem sortI_len (l : List Int) : (sortI l).length = l.length := (sortI_perm l).length_eq
def getI (vs : List Int) (k : Int) : Int := vs.getD k.toNat 0
def putZ (acc : List Int) (zs : List (Int × Int)) : List Int := zs.foldl (fun a z => a.set z.1.toNat z.2) acc
theorem putZ_len (zs : List (Int × Int)) : ∀ acc, (putZ acc zs).length = acc.length := by
  induction zs with
  | nil => intro acc; rfl
  | cons z zs ih =>
    intro acc
    show (putZ (acc.set z.1.toNat z.2) zs).length = _
    rw [ih, List.length_set]
theorem putZ_more (acc : List Int) (zs : List (Int × Int)) (z : Int × Int) : putZ acc (zs ++ [z]) = (putZ acc zs).set z.1.toNat z.2 := by
  unfold putZ
  rw [List.foldl_append]
  rfl
def srtL (vs acc : List Int) (l : List Int) : List Int := putZ acc (l.zip (sortI (l.map (getI vs))))
def srtTo (vs : List Int) (ls : List (List Int)) : List Int := ls.foldl (srtL vs) vs
/-- the values after a sort of this kind -/
def srt (b : Bool) (cs : List Cell) (vs : List Int) : List Int := srtTo vs (lnsOf b cs)
theorem srtTo_more (vs : List Int) (ls : List (List Int)) (l : List Int) : srtTo vs (ls ++ [l]) = srtL vs (srtTo vs ls) l := by
  unfold srtTo
  rw [List.foldl_append]
  rfl
theorem srtL_len (vs acc l : List Int) : (srtL vs acc l).length = acc.length := putZ_len _ _
theorem foldl_len {f : List Int → List Int → List Int} (h : ∀ a l, (f a l).length = a.length) : ∀ (ls : List (List Int)) (a : List Int), (ls.foldl f a).length = a.length
  | [], _ => rfl
  | l :: ls, a => by
    show (ls.foldl f (f a l)).length = _
    rw [foldl_len h ls, h]
theorem srtTo_len (vs : List Int) (ls : List (List Int)) : (srtTo vs ls).length = vs.length := foldl_len (srtL_len vs) ls vs
theorem srt_len (b : Bool) (cs : List Cell) (vs : List Int) : (srt b cs vs).length = vs.length := srtTo_len _ _
theorem idxs_nat {b : Bool} {cs : List Cell} {i : Nat} {r k : Int} (h : k ∈ idxs b cs i r) : ∃ j : Nat, k = (j : Int) ∧ j < i := by
  unfold idxs at h
  obtain ⟨j, hj, rfl⟩ := List.mem_map.mp h
  exact ⟨j, rfl, List.mem_range.mp (List.mem_filter.mp hj).1⟩
theorem lns_mem {b : Bool} {cs : List Cell} {l : List Int} (h : l ∈ lnsOf b cs) : (∀ k ∈ l, ∃ j : Nat, k = (j : Int) ∧ j < cs.length) ∧ l.length ≤ cs.length := by
  unfold lnsOf at h
  obtain ⟨r, _, rfl⟩ := List.mem_map.mp (List.mem_filter.mp h).1
  exact ⟨fun k hk => idxs_nat hk, idxs_len _ _ _ _⟩
theorem getI_at {vs : List Int} {j : Nat} (h : j < vs.length) : (vs.map V.int)[j]? = some (.int (getI vs (j : Int))) := by
  unfold getI
  rw [List.getElem?_map, Int.toNat_natCast, List.getD_eq_getElem?_getD, List.getElem?_eq_getElem h]
  rfl
theorem ixN_at {n j : Nat} (h : j < n) : ixN n (j : Int) = some j := by
  unfold ixN
  rw [if_pos (by omega), if_pos (by omega), Int.toNat_natCast]
/-- the law's own sort: of a tuple of whole numbers -/
def spLSorted (K : PySem.W.Frag) : Sp := fun xs H Q _ => ∃ (a t : Addr) (b : Bool) (cs : List Cell) (vs : List Int), xs = [.ref a, .ref t, .str (if b = true then "C" else "R")] ∧ PlanAt K H a cs ∧ cs.length ≤ 24 ∧
  SqT K H t (vs.map V.int) ∧ vs.length = cs.length ∧ ∀ H' u, Same H H' → SqT K H' u ((srt b cs vs).map V.int) → H u = none → Q (.ref u) H'
end KS
namespace KS
open PySem PySem.Spec PyProof.Rows L2
theorem ints_eqvAll : ∀ l m : List Int, PyData.eqvAll (l.map PyData.int) (m.map PyData.int) = decide (l = m)
  | [], [] => by simp [PyData.eqvAll]
  | [], _ :: _ => by simp [PyData.eqvAll]
  | _ :: _, [] => by simp [PyData.eqvAll]
  | x :: l, y :: m => by
    have h : PyData.eqvAll ((x :: l).map PyData.int) ((y :: m).map PyData.int) = (x == y && PyData.eqvAll (l.map PyData.int) (m.map PyData.int)) := by
      simp only [List.map_cons, PyData.eqvAll, PyData.eqv]
    rw [h, ints_eqvAll l m]
    by_cases e : x = y <;> by_cases e2 : l = m <;> simp [e, e2]
theorem ints_eqvL (l m : List Int) : PyData.eqv (.list (l.map PyData.int)) (.list (m.map PyData.int)) = decide (l = m) := by
  have h : PyData.eqv (.list (l.map PyData.int)) (.list (m.map PyData.int)) = PyData.eqvAll (l.map PyData.int) (m.map PyData.int) := by simp only [PyData.eqv]
  rw [h, ints_eqvAll]
theorem ints_eqvT (l m : List Int) : PyData.eqv (.tuple (l.map PyData.int)) (.tuple (m.map PyData.int)) = decide (l = m) := by
  have h : PyData.eqv (.tuple (l.map PyData.int)) (.tuple (m.map PyData.int)) = PyData.eqvAll (l.map PyData.int) (m.map PyData.int) := by simp only [PyData.eqv]
  rw [h, ints_eqvAll]
/-- whether the values of a line ascend -/
def upL (vs l : List Int) : Bool := decide (l.map (getI vs) = sortI (l.map (getI vs)))
/-- whether each line of the kind ascends -/
def rises (b : Bool) (cs : List Cell) (vs : List Int) : Bool := (lnsOf b cs).all (upL vs)
def spLRises (K : PySem.W.Frag) : Sp := fun xs H Q _ => ∃ (a t : Addr) (b : Bool) (cs : List Cell) (vs : List Int), xs = [.ref a, .ref t, .str (if b = true then "C" else "R")] ∧ PlanAt K H a cs ∧ cs.length ≤ 24 ∧
  SqT K H t (vs.map V.int) ∧ vs.length = cs.length ∧ ∀ H', Same H H' → Q (.bl (rises b cs vs)) H'
/-- the law's own words: the sorts of the letters, from left to right -/
def kindS (b : Bool) : Str := if b = true then "C" else "R"
def aft (cs : List Cell) (w : List Bool) (vs : List Int) : List Int := w.foldl (fun a b => srt b cs a) vs
theorem aft_len (cs : List Cell) : ∀ (w : List Bool) (vs : List Int), (aft cs w vs).length = vs.length
  | [], _ => rfl
  | b :: w, vs => by
    show (aft cs w (srt b cs vs)).length = _
    rw [aft_len cs w, srt_len]
theorem aft_more (cs : List Cell) (w : List Bool) (b : Bool) (vs : List Int) : aft cs (w ++ [b]) vs = srt b cs (aft cs w vs) := by
  unfold aft
  rw [List.foldl_append]
  rfl
end KS
namespace KS
open PySem PySem.Spec PyProof.Rows L2
/-- the values of a line, a new list -/
theorem pick_line {K : PySem.W.Frag} {t' : Addr} {σ : L2.St} {H : Hp} {Q : VK} {vs l : List Int} {i1 i2 i3 : Nat} {tt : Addr} (h1 : σ[i1]? = some (some (.ref t'))) (h2 : σ[i2]? = some (some (.ref tt))) (hlt : H t' = some (.lst (l.map V.int))) (ht : SqT K H tt (vs.map V.int))
    (hm : ∀ k ∈ l, ∃ j : Nat, k = (j : Int) ∧ j < vs.length) (hl : l.length ≤ 24) (h3 : i3 < σ.length) (h13 : i2 ≠ i3)
    (k : ∀ D, H D = none → Q (.ref D) (upd H D (.lst ((l.map (getI vs)).map V.int)))) :
    tLc (iList K (tVar i1)) (gName i3) tYes (tOp (rIxT K) (tVar i2) (tVar i3)) [i3] σ H Q := by
  refine ⟨_, h1, t', rfl, ⟨_, SqL.of hlt⟩, fun D nD => ?_⟩
  have ntD : t' ≠ D := ne_of_none hlt nD
  refine lc_list (K := K) (a := t') (xs := l.map V.int) (fun j G => G = upd H D (.lst (((l.take j).map (getI vs)).map V.int))) ?_ ?_ ?_ ?_
  · rfl
  · rintro j G _ rfl
    exact SqL.of (by rw [upd_ne ntD]; exact hlt)
  · rintro j x G hj rfl
    rw [List.getElem?_map] at hj
    cases ev : l[j]? with
    | none =>
      rw [ev] at hj
      cases hj
    | some k =>
      rw [ev] at hj
      cases hj
      obtain ⟨j', rfl, hj'⟩ := hm k (List.mem_of_getElem? ev)
      refine ⟨?_, .ref tt, ?_, .int (j' : Int), ?_, tt, _, _, .int (getI vs (j' : Int)), rfl, rfl, same_seqT (same_new nD) ht, atI_nat (getI_at hj'), _, upd_same, ?_, ?_⟩
      · show ((σ.set i3 none).set i3 _).set i3 none = σ.set i3 none
        rw [List.set_set, List.set_set]
      · show ((σ.set i3 none).set i3 _)[i2]? = _
        rw [List.set_set, List.getElem?_set_ne (Ne.symm h13)]
        exact h2
      · show ((σ.set i3 none).set i3 _)[i3]? = _
        rw [List.set_set, List.getElem?_set_self h3]
      · rw [List.length_map, List.length_map, List.length_take]
        exact small64 (by omega)
      · rw [upd_upd, List.take_add_one, ev, List.map_append, List.map_append]
        rfl
  · rintro G rfl
    rw [List.length_map, List.take_length]
    exact k D nD
end KS
namespace KS
open PySem PySem.Spec PyProof.Rows L2
theorem rd_ifNe {K : PySem.W.Frag} {ta tb : TE} {t u : TS} {D : Ends} {σ : L2.St} {H : Hp} (h : ta σ H fun x H1 => tb σ H1 fun y H2 => rNeD K x y H2 fun v H3 => ∃ k, v = .bl k ∧ if k = true then t D σ H3 else u D σ H3) :
    tIfS (tTest (tOp (rNeD K) ta tb)) t u D σ H := h
theorem rd_cb1 {r : List V → Hp → VK → Prop} {ta : TE} {σ : L2.St} {H : Hp} {Q : VK} (h : ta σ H fun x H1 => r [x] H1 Q) : tCB r (tCons ta tNil) σ H Q := h
theorem up_if {K : PySem.W.Frag} {t' : Addr} {σ : L2.St} {H : Hp} {vs l : List Int} {i1 i2 i3 : Nat} {tt : Addr} {tb : TS} {D : Ends} (h1 : σ[i1]? = some (some (.ref t'))) (h2 : σ[i2]? = some (some (.ref tt))) (hlt : H t' = some (.lst (l.map V.int))) (ht : SqT K H tt (vs.map V.int))
    (hm : ∀ k ∈ l, ∃ j : Nat, k = (j : Int) ∧ j < vs.length) (hl : l.length ≤ 24) (h3 : i3 < σ.length) (h13 : i2 ≠ i3)
    (k1 : ∀ H', Same H H' → upL vs l = true → D.nx σ H') (k2 : ∀ H', Same H H' → upL vs l = false → tb D σ H') :
    tIfS (tTest (tOp (rNeD K) (tLc (iList K (tVar i1)) (gName i3) tYes (tOp (rIxT K) (tVar i2) (tVar i3)) [i3]) (tCB (rSortedI K) (tCons (tLc (iList K (tVar i1)) (gName i3) tYes (tOp (rIxT K) (tVar i2) (tVar i3)) [i3]) tNil)))) tb tNext D σ H := by
  refine rd_ifNe (pick_line (K := K) (σ := σ) h1 h2 hlt ht hm hl h3 h13 (fun D1 n1 => ?_))
  have s1 := same_new (o := .lst ((l.map (getI vs)).map V.int)) n1
  refine rd_cb1 (pick_line (K := K) (σ := σ) h1 h2 (s1 _ _ hlt) (same_seqT s1 ht) hm hl h3 h13 (fun D2 n2 => ?_))
  have s2 := same_new (o := .lst ((l.map (getI vs)).map V.int)) n2
  refine ⟨D2, _, rfl, SqL.of upd_same, fun ys D3 perm asc n3 => ?_⟩
  have ey := sortI_eq perm asc
  have s3 := same_new (o := .lst (ys.map V.int)) n3
  refine ⟨_, _, .lst (SqL.of (s3 _ _ (s2 _ _ upd_same))) (dp_ints _), .lst (SqL.of upd_same) (dp_ints _), ints_shaped _, ints_shaped _, _, rfl, ?_⟩
  rw [ints_eqvL]
  have sm := (s1.trans s2).trans s3
  by_cases c : l.map (getI vs) = ys
  · rw [decide_eq_true c]
    refine k1 _ sm ?_
    unfold upL
    rw [← ey]
    exact decide_eq_true c
  · rw [decide_eq_false c]
    refine k2 _ sm ?_
    unfold upL
    rw [← ey]
    exact decide_eq_false c
end KS
namespace KS
open PySem PySem.Spec PyProof.Rows L2
/-- so many different whole numbers from 1 to 9999 -/
structure Vals9 (n : Nat) (fs : List Int) : Prop where
  len : fs.length = n
  nd : fs.Nodup
  bd : ∀ v ∈ fs, 1 ≤ v ∧ v ≤ 9999
def spValues (K : PySem.W.Frag) : Sp := fun vs H Q _ => ∃ (p : Addr) (n : Nat), vs = [.ref p, .int n] ∧ PoolO (H p) ∧ 1 ≤ n ∧ n ≤ 24 ∧
  ∀ H' t fs, KeepX p H H' → PoolO (H' p) → SqT K H' t (fs.map V.int) → Vals9 n fs → H t = none → Q (.ref t) H'
theorem Vals9.perm {n : Nat} {as bs : List Int} (h : Vals9 n as) (p : as.Perm bs) : Vals9 n bs := ⟨p.length_eq ▸ h.len, p.nodup_iff.mp h.nd, fun v m => h.bd v (p.mem_iff.mpr m)⟩
theorem map_eraseIdx {f : Int → V} : ∀ (l : List Int) (k : Nat), (l.map f).eraseIdx k = (l.eraseIdx k).map f
  | [], _ => rfl
  | _ :: _, 0 => rfl
  | x :: l, k + 1 => by
    show f x :: (l.map f).eraseIdx k = f x :: (l.eraseIdx k).map f
    rw [map_eraseIdx l k]
theorem erase_perm : ∀ {l : List Int} {k : Nat} (h : k < l.length), l.Perm (l[k] :: l.eraseIdx k)
  | _ :: _, 0, _ => List.Perm.refl _
  | x :: l, k + 1, h => ((erase_perm (l := l) (k := k) (Nat.lt_of_succ_lt_succ h)).cons x).trans (List.Perm.swap _ _ _)
theorem pick_perm {fs l : List Int} {k : Nat} (h : k < l.length) : (fs ++ l).Perm ((fs ++ [l[k]]) ++ l.eraseIdx k) := by
  rw [List.append_assoc]
  exact (erase_perm h).append_left fs
def rgI (a b : Int) : List Int := (List.range (b - a).toNat).map fun (i : Nat) => a + (i : Int)
theorem rgV_ints (a b : Int) : rgV a b = (rgI a b).map V.int := by
  unfold rgV rgI
  rw [List.map_map]
  rfl
theorem rgI_len (a b : Int) : (rgI a b).length = (b - a).toNat := by
  unfold rgI
  rw [List.length_map, List.length_range]
theorem rgI_nd (a b : Int) : (rgI a b).Nodup := by
  unfold rgI
  refine List.pairwise_map.2 (List.nodup_range.imp ?_)
  intro x y h e
  exact h (by omega)
theorem rgI_mem {a b v : Int} (h : v ∈ rgI a b) : a ≤ v ∧ v < b := by
  unfold rgI at h
  obtain ⟨i, hi, rfl⟩ := List.mem_map.mp h
  have := List.mem_range.mp hi
  omega
theorem vals9_low {n : Nat} (n1 : n ≤ 24) : Vals9 n (rgI 1 ((n : Int) + 1)) := by
  refine ⟨by rw [rgI_len]; omega, rgI_nd _ _, fun v h => ?_⟩
  have := rgI_mem h
  omega
theorem vals9_high {n : Nat} (n1 : n ≤ 24) : Vals9 n (rgI (10000 - (n : Int)) 10000) := by
  refine ⟨by rw [rgI_len]; omega, rgI_nd _ _, fun v h => ?_⟩
  have := rgI_mem h
  omega
theorem vals9_step {n : Nat} {st : Int} (n0 : 1 ≤ n) (s0 : 1 ≤ st) (s1 : st ≤ 9999 / (n : Int)) : Vals9 n ((rgI 1 ((n : Int) + 1)).map fun v => st * v) := by
  refine ⟨by rw [List.length_map, rgI_len]; omega, List.pairwise_map.2 ((rgI_nd _ _).imp ?_), fun v h => ?_⟩
  · intro x y h e
    exact h (Int.eq_of_mul_eq_mul_left (by omega) e)
  · obtain ⟨u, hu, rfl⟩ := List.mem_map.mp h
    have b := rgI_mem hu
    have h1 : st * (n : Int) ≤ 9999 := (Int.le_ediv_iff_mul_le (by omega)).mp s1
    have h2 : st * u ≤ st * (n : Int) := Int.mul_le_mul_of_nonneg_left (by omega) (by omega)
    have h3 : 1 * 1 ≤ st * u := Int.mul_le_mul s0 b.1 (by omega) (by omega)
    omega
def VSt (p : Addr) (n : Nat) (mode : Int) (H : Hp) (σ : L2.St) (H' : Hp) : Prop := ∃ (e : Addr) (y4 : Option V) (ls : List Int), σ = [some (.ref p), some (.int n), some (.int mode), some (.ref e), y4, none, none, none] ∧
  H e = none ∧ e ≠ p ∧ H' e = some (.lst (ls.map V.int)) ∧ Vals9 n ls ∧ KeepX p H H' ∧ PoolO (H' p)
theorem KeepX.free {p q : Addr} {H H' : Hp} (k : KeepX p H H') (po : PoolO (H' p)) (n : H' q = none) : H q = none := by
  cases z : H q with
  | none => rfl
  | some o =>
    have := k q o (Ne.symm (po.ne n)) z
    rw [n] at this
    cases this
theorem vals_ifs {K : PySem.W.Frag} {p e : Addr} {n : Nat} {mode : Int} {H H2 : Hp} {tr : TS} {D : Ends} (n0 : 1 ≤ n) (n1 : n ≤ 24) (he0 : H e = none) (hep : e ≠ p) (he : H2 e = some (.lst (rgV 1 ((n : Int) + 1)))) (kx : KeepX p H H2) (po : PoolO (H2 p))
    (k : ∀ σ' H', VSt p n mode H σ' H' → tr D σ' H') :
    tSeq (tIfS (tTest (tOp rEq (tVar 2) (tC (V.int 1)))) (tAsg (tLstRg (tRg2 (tOp (rI0 fun i j => V.int (i - j)) (tC (V.int 10000)) (tVar 1)) (tC (V.int 10000)))) (gName 3)) tNext)
      (tSeq (tIfS (tTest (tOp (rI0 fun i j => V.bl (decide (i > j))) (tVar 2) (tC (V.int 1))))
        (tSeq (tAsg (tOp (rI0 fun i j => V.int (i + j)) (tC (V.int 1)) (tCall spDraw [] E0 (tCons (tVar 0) (tCons (tOp (rI CDiv fun i j => V.int (i / j)) (tC (V.int 9999)) (tVar 1)) tNil)))) (gName 4))
          (tAsg (tLc (iList K (tVar 3)) (gName 7) tYes (tOp (rI CMul fun i j => V.int (i * j)) (tVar 4) (tVar 7)) [7]) (gName 3))) tNext) tr) D
      [some (.ref p), some (.int n), some (.int mode), some (.ref e), none, none, none, none] H2 := by
  refine ⟨_, rfl, rfl, _, rfl, ite2 (fun c => ?_) (fun c => ?_)⟩
  · have cm : mode = 1 := V.int.inj (of_decide_eq_true c)
    subst cm
    refine ⟨_, rfl, _, _, rfl, rfl, _, _, rfl, rfl, ⟨by omega, by omega, by omega, by omega, by omega⟩, fun g ng => ?_⟩
    have sg := same_new (o := .lst (rgV (10000 - (n : Int)) 10000)) ng
    refine ⟨_, rfl, _, _, rfl, rfl, _, rfl, ite2 (fun c => ?_) (fun c => ?_)⟩
    · exact absurd (of_decide_eq_true c) (by decide)
    · refine k _ _ ⟨g, none, rgI (10000 - (n : Int)) 10000, rfl, kx.free po ng, Ne.symm (po.ne ng), ?_, vals9_high n1, kx.trans (.of_same sg), po.same sg⟩
      rw [upd_same, rgV_ints]
  · refine ⟨_, rfl, _, _, rfl, rfl, _, rfl, ite2 (fun c => ?_) (fun c => ?_)⟩
    · have qd : 1 ≤ (9999 : Int) / (n : Int) := (Int.le_ediv_iff_mul_le (by omega)).mpr (by omega)
      have qu : (9999 : Int) / (n : Int) ≤ 9999 := Int.ediv_le_self _ (by decide)
      refine ⟨_, rfl, _, rfl, _, _, rfl, rfl, ⟨by omega, by omega⟩, p, _, rfl, po, by omega, by omega, fun H3 r k3 po3 r0 r1 => ?_⟩
      refine ⟨_, _, rfl, rfl, ?_⟩
      have he3 := k3 _ _ hep he
      refine ⟨_, rfl, e, rfl, ⟨_, SqL.of he3⟩, fun D0 nD => ?_⟩
      have neD : e ≠ D0 := ne_of_none he3 nD
      refine lc_list (K := K) (a := e) (xs := rgV 1 ((n : Int) + 1)) (fun j G => G = upd H3 D0 (.lst (((rgI 1 ((n : Int) + 1)).take j).map fun v => V.int ((1 + r) * v)))) ?_ ?_ ?_ ?_
      · rfl
      · rintro j G _ rfl
        exact SqL.of (by rw [upd_ne neD]; exact he3)
      · rintro j x G hj rfl
        rw [rgV_ints, List.getElem?_map] at hj
        cases ev : (rgI 1 ((n : Int) + 1))[j]? with
        | none =>
          rw [ev] at hj
          cases hj
        | some v =>
          rw [ev] at hj
          cases hj
          have hv := rgI_mem (List.mem_of_getElem? ev)
          refine ⟨rfl, _, rfl, _, rfl, _, _, rfl, rfl, .inl ⟨by omega, by omega⟩, _, upd_same, ?_, ?_⟩
          · rw [List.length_map, List.length_take]
            refine small64 ?_
            rw [rgI_len]
            omega
          · rw [upd_upd, List.take_add_one, ev, List.map_append]
            rfl
      · rintro G rfl
        rw [rgV_length, List.take_of_length_le (by rw [rgI_len]; omega)]
        have sD := same_new (o := .lst ((rgI 1 ((n : Int) + 1)).map fun v => V.int ((1 + r) * v))) nD
        refine k _ _ ⟨D0, _, (rgI 1 ((n : Int) + 1)).map fun v => (1 + r) * v, rfl, (kx.trans k3).free po3 nD, Ne.symm (po3.ne nD), ?_, vals9_step n0 (by omega) (by omega), (kx.trans k3).trans (.of_same sD), po3.same sD⟩
        rw [upd_same, List.map_map]
        rfl
    · refine k _ _ ⟨e, none, rgI 1 ((n : Int) + 1), rfl, he0, hep, ?_, vals9_low n1, kx, po⟩
      rw [← rgV_ints]
      exact he
end KS
namespace KS
open PySem PySem.Spec PyProof.Rows L2
def Small4 (l : List Int) : Prop := ∀ x ∈ l, 0 ≤ x ∧ x < 10000
theorem Vals9.small {n : Nat} {vs : List Int} (h : Vals9 n vs) : Small4 vs := fun x hx => by
  have := h.bd x hx
  omega
theorem getI_small {vs : List Int} (h : Small4 vs) (k : Int) : 0 ≤ getI vs k ∧ getI vs k < 10000 := by
  unfold getI
  rw [List.getD_eq_getElem?_getD]
  cases e : vs[k.toNat]? with
  | none => exact ⟨by decide, by decide⟩
  | some v => exact h v (List.mem_of_getElem? e)
theorem putZ_small : ∀ {zs : List (Int × Int)} {acc : List Int}, Small4 acc → (∀ z ∈ zs, 0 ≤ z.2 ∧ z.2 < 10000) → Small4 (putZ acc zs)
  | [], _, h, _ => h
  | z :: zs, acc, h, hz => by
    refine putZ_small (zs := zs) (acc := acc.set z.1.toNat z.2) (fun x hx => ?_) (fun y hy => hz y (List.mem_cons_of_mem _ hy))
    rcases List.mem_or_eq_of_mem_set hx with m | rfl
    · exact h x m
    · exact hz z List.mem_cons_self
theorem srtL_small {vs acc l : List Int} (h : Small4 vs) (ha : Small4 acc) : Small4 (srtL vs acc l) := by
  refine putZ_small ha fun z hz => ?_
  have m := (List.of_mem_zip (show (z.1, z.2) ∈ _ from hz)).2
  have m2 := (sortI_perm _).mem_iff.mp m
  obtain ⟨k, _, e⟩ := List.mem_map.mp m2
  rw [← e]
  exact getI_small h k
theorem foldl_small {vs : List Int} (h : Small4 vs) : ∀ (ls : List (List Int)) {acc : List Int}, Small4 acc → Small4 (ls.foldl (srtL vs) acc)
  | [], _, ha => ha
  | l :: ls, _, ha => foldl_small h ls (srtL_small h ha)
theorem srt_small {b : Bool} {cs : List Cell} {vs : List Int} (h : Small4 vs) : Small4 (srt b cs vs) := foldl_small h _ h
theorem line_small {l : List Int} (h : Small4 l) (hl : l.length ≤ 64) : Shows (lineD l) 960 ∧ (lineD l).depth ≤ 64 := ⟨shows_line h hl, by rw [depth_line]; decide⟩
/-- a plan and its values, as data -/
def tabD (cs : List Cell) (vs : List Int) : PyData := .tuple [planD cs, lineD vs]
theorem tab_small {cs : List Cell} {vs : List Int} (g : ∀ c ∈ cs, InGrid c) (hl : cs.length ≤ 64) (h : Small4 vs) (hv : vs.length ≤ 64) : Shows (tabD cs vs) 8000 ∧ (tabD cs vs).depth ≤ 64 := by
  have hp := shows_plan g hl
  have hn := line_small h hv
  refine ⟨shows_tuple (n := 1984) (showsAll_of fun d hd => ?_) (by show (1984 + 1) * 2 ≤ 8000; decide), ?_⟩
  · rcases List.mem_cons.mp hd with z | z
    · subst z
      exact hp.1
    · rcases List.mem_cons.mp z with z | z
      · subst z
        exact ⟨hn.1.short, hn.1.show_, hn.1.nod, Nat.le_trans hn.1.wt (by decide)⟩
      · cases z
  · have a := (cells_lay cs).2
    have b := (ints_lay vs).2
    show (PyData.tuple [.tuple (cs.map cellD), .tuple (vs.map PyData.int)]).depth ≤ 64
    simp only [PyData.depth, PyData.depthAll]
    omega
def rev3 {α : Type} : List α → List α
  | [a, b, c] => [c, b, a]
  | _ => []
theorem rev3_rel {zs : List V} {ws : List Value} (r : Vals zs ws) : Vals (rev3 zs) (rev3 ws) := by
  cases r with
  | nil => exact .nil
  | cons r1 r =>
    cases r with
    | nil => exact .nil
    | cons r2 r =>
      cases r with
      | nil => exact .nil
      | cons r3 r =>
        cases r with
        | nil => exact .cons r3 (.cons r2 (.cons r1 .nil))
        | cons r4 r => exact .nil
/-- the program's sort -/
def spSortL (K : PySem.W.Frag) : Sp := fun xs H Q _ => ∃ (a t : Addr) (b : Bool) (cs : List Cell) (vs : List Int), xs = [.ref a, .ref t, .str (if b = true then "C" else "R")] ∧ PlanAt K H a cs ∧ Good cs ∧ cs.length ≤ 24 ∧
  SqT K H t (vs.map V.int) ∧ Vals9 cs.length vs ∧ ∀ H' u, Same H H' → SqT K H' u ((srt b cs vs).map V.int) → Q (.ref u) H'
end KS
namespace KS
open PySem PySem.Spec PyProof.Rows L2
/-- the letter of a kind, and a word -/
def ltr (b : Bool) : Nat := if b = true then 67 else 82
def wS (w : List Bool) : Str := ⟨(w.map ltr).toArray⟩
theorem wS_len (w : List Bool) : (wS w).length = w.length := by
  show (w.map ltr).toArray.size = _
  rw [List.size_toArray, List.length_map]
theorem ltr_str (b : Bool) : V.str ⟨#[ltr b]⟩ = V.str (if b = true then "C" else "R") := by
  cases b <;> decide +kernel
theorem wS_at {w : List Bool} {i : Nat} {c : Nat} (h : (wS w).cps[i]? = some c) : ∃ b, w[i]? = some b ∧ c = ltr b := by
  have h' : (w.map ltr).toArray[i]? = some c := h
  rw [List.getElem?_toArray, List.getElem?_map] at h'
  cases e : w[i]? with
  | none =>
    rw [e] at h'
    cases h'
  | some b =>
    rw [e] at h'
    cases h'
    exact ⟨b, rfl, rfl⟩
def spLAfter (K : PySem.W.Frag) : Sp := fun xs H Q _ => ∃ (a t : Addr) (w : List Bool) (cs : List Cell) (vs : List Int), xs = [.ref a, .ref t, .str (wS w)] ∧ PlanAt K H a cs ∧ cs.length ≤ 24 ∧
  SqT K H t (vs.map V.int) ∧ vs.length = cs.length ∧ ∀ H' u, Same H H' → SqT K H' u ((aft cs w vs).map V.int) → Q (.ref u) H'
end KS
namespace KS
open PySem PySem.Spec PyProof.Rows L2
/-- one letter, so many times -/
def rRepC : R2 := fun x y H Q => ∃ (c : Nat) (n : Nat), x = .str ⟨#[c]⟩ ∧ y = .int n ∧ 1 ≤ n ∧ n ≤ 64 ∧ Q (.str ⟨(List.replicate n c).toArray⟩) H
theorem rep_fold (c : Nat) : ∀ (n : Nat) (a : Array Nat), (List.replicate n #[c]).foldl (· ++ ·) a = a ++ (List.replicate n c).toArray
  | 0, a => by simp
  | n + 1, a => by
    rw [List.replicate_succ, List.foldl_cons, rep_fold c n, List.replicate_succ]
    apply Array.ext'
    simp
theorem op_repC {X : Cx} : OpR X (binaryOp .Mult) rRepC := by
  intro pins s σ H x y v u Q I rx ry h
  obtain ⟨c, n, rfl, rfl, n0, n1, q⟩ := h
  obtain ⟨t, rfl⟩ := rx
  obtain ⟨t', rfl⟩ := ry
  have e1 : ¬ ((n : Int) < 1) := by omega
  refine P.mul_str ?_ ?_ ?_ ?_
  · have h1 : ¬ (n : Int) < -(2 ^ 63 : Int) := by omega
    have h2 : ¬ (n : Int) ≥ 2 ^ 63 := by omega
    rw [decide_eq_false h1, decide_eq_false h2]
    rfl
  · intro _ _
    show ¬ ((1 : Int) > (2 ^ 63 - 1) / (n : Int))
    have : (1 : Int) ≤ (2 ^ 63 - 1) / (n : Int) := (Int.le_ediv_iff_mul_le (by omega)).mpr (by omega)
    omega
  · intro _ _
    show decide (1 * (n : Int).toNat > sizeLine) = false
    refine decide_eq_false ?_
    rw [sizeLine_eq]
    omega
  · rw [if_neg e1]
    by_cases e : n = 1
    · subst e
      exact ⟨.str ⟨#[c]⟩, H, I, ⟨_, rfl⟩, q⟩
    · have z : (((n : Int) == 1) || ((⟨#[c]⟩ : Str).length == 0)) = false := by
        have : ((n : Int) == 1) = false := by
          rw [beq_eq_false_iff_ne]
          omega
        rw [this]
        rfl
      rw [if_neg (by rw [z]; decide)]
      have ez : (⟨(List.replicate (n : Int).toNat (⟨#[c]⟩ : Str).cps).foldl (· ++ ·) #[]⟩ : Str) = ⟨(List.replicate n c).toArray⟩ := by
        rw [Int.toNat_natCast]
        show (⟨(List.replicate n #[c]).foldl (· ++ ·) #[]⟩ : Str) = _
        rw [rep_fold]
        simp
      rw [ez]
      refine ⟨?_, .str ⟨(List.replicate n c).toArray⟩, H, I.tok _, ⟨_, rfl⟩, q⟩
      show (List.replicate n c).toArray.size ≤ sizeLine
      rw [List.size_toArray, List.length_replicate, sizeLine_eq]
      omega
theorem wS_app (a b : List Bool) : wS a ++ wS b = wS (a ++ b) := by
  show (⟨(a.map ltr).toArray ++ (b.map ltr).toArray⟩ : Str) = ⟨((a ++ b).map ltr).toArray⟩
  rw [List.map_append]
  simp
theorem wS_rep (b : Bool) (n : Nat) : (⟨(List.replicate n (ltr b)).toArray⟩ : Str) = wS (List.replicate n b) := by
  unfold wS
  rw [List.map_replicate]
theorem wS_cut (a : List Bool) (n : Nat) (h : n ≤ a.length) : cutS (wS a) none (some (n : Int)) = wS (a.take n) := by
  have hl := wS_len a
  unfold cutS
  have e0 : HT.sIx (wS a).length 0 none = 0 := rfl
  have e1 : HT.sIx (wS a).length (wS a).length (some (n : Int)) = n := by
    rw [HT.sIx_nat, hl]
    omega
  rw [e0, e1]
  show (⟨(((a.map ltr).toArray.toList.drop 0).take (n - 0)).toArray⟩ : Str) = ⟨((a.take n).map ltr).toArray⟩
  simp
/-- a word of at most so many letters -/
def spLWord (K : PySem.W.Frag) : Sp := fun xs H Q _ => ∃ (p : Addr) (m : Nat), xs = [.ref p, .int m] ∧ PoolO (H p) ∧ m ≤ 400 ∧ ∀ H' w, KeepX p H H' → PoolO (H' p) → w.length ≤ m → Q (.str (wS w)) H'
end KS
namespace KS
open PySem PySem.Spec PyProof.Rows L2
theorem aft_small {cs : List Cell} : ∀ (w : List Bool) {vs : List Int}, Small4 vs → Small4 (aft cs w vs)
  | [], _, h => h
  | b :: w, _, h => aft_small w (srt_small (b := b) (cs := cs) h)
/-- the program's word -/
def spAfterP (K : PySem.W.Frag) : Sp := fun xs H Q _ => ∃ (a t : Addr) (w : List Bool) (cs : List Cell) (vs : List Int), xs = [.ref a, .ref t, .str (wS w)] ∧ PlanAt K H a cs ∧ Good cs ∧ cs.length ≤ 24 ∧
  SqT K H t (vs.map V.int) ∧ Vals9 cs.length vs ∧ w.length ≤ 400 ∧ ∀ H' u, Same H H' → SqT K H' u ((aft cs w vs).map V.int) → Q (.ref u) H'
theorem wS_nil : V.str (wS []) = V.str "" := by decide +kernel
theorem line_shaped (l : List Int) : SeqAt.shaped (lineD l) = true := by
  obtain ⟨h1, h2⟩ := ints_lay l
  show SeqAt.shaped (.tuple (l.map PyData.int)) = true
  unfold SeqAt.shaped
  simp only [PyData.canLay0, PyData.depth, h1, h2]
  decide
end KS
namespace KS
open PySem PySem.Spec PyProof.Rows L2
def lS (b : Bool) : Str := ⟨#[ltr b]⟩
theorem lS_w (b : Bool) : lS b = wS [b] := rfl
theorem join_ws : ∀ w : List Bool, Str.join "" (w.map lS) = wS w
  | [] => by decide +kernel
  | [b] => rfl
  | b :: c :: r => by
    have h := join_ws (c :: r)
    show lS b ++ "" ++ Str.join "" ((c :: r).map lS) = _
    rw [h, show ("" : Str) = wS [] from by decide +kernel, lS_w, wS_app, wS_app]
    rfl
theorem join_letters (w : List Bool) : Txt.join "" (w.map lS) = wS w := by
  show Builtin.Str.glued "" (w.map lS) = _
  rw [StrLaws.glued_eq_join, join_ws]
theorem lS_sum : ∀ w : List Bool, ((w.map lS).map (·.length)).sum = w.length
  | [] => rfl
  | b :: w => by
    show 1 + ((w.map lS).map (·.length)).sum = _
    rw [lS_sum w, List.length_cons]
    omega
def pcell (j : Nat) : Cell := (((j : Int) / 2), ((j : Int) / 2 + (j : Int) % 2))
def pathTo (n : Nat) : List Cell := (List.range n).map pcell
theorem pathTo_succ (n : Nat) : pathTo (n + 1) = pathTo n ++ [pcell n] := by
  unfold pathTo
  rw [List.range_succ, List.map_append]
  rfl
theorem path_good : Good (pathTo 15) := by
  refine ⟨?_, ?_, by decide⟩
  · unfold pathTo
    refine List.pairwise_map.2 (List.pairwise_lt_range.imp ?_)
    intro x y h
    show ((x : Int) / 2 < (y : Int) / 2) ∨ ((x : Int) / 2 = (y : Int) / 2 ∧ (x : Int) / 2 + (x : Int) % 2 < (y : Int) / 2 + (y : Int) % 2)
    omega
  · intro c hc
    obtain ⟨j, hj, rfl⟩ := List.mem_map.mp hc
    have := List.mem_range.mp hj
    show 0 ≤ (j : Int) / 2 ∧ (j : Int) / 2 ≤ 7 ∧ 0 ≤ (j : Int) / 2 + (j : Int) % 2 ∧ (j : Int) / 2 + (j : Int) % 2 ≤ 7
    omega
def four : List Cell := [(0, 0), (0, 1), (1, 1), (2, 0)]
theorem four_good : Good four := by
  refine ⟨?_, ?_, by decide⟩
  · simp [four, lt2]
  · simp [four, InGrid]
end KS
namespace KS
open PySem PySem.Spec PyProof.Rows L2
/-! ### zip(t, l): t a tuple, l a list, of one length -/
def ItTL (K : PySem.W.Frag) (a b : Addr) : It where
  go := fun i H => ∃ (ts ls : List V) (x y : V), SqT K H a ts ∧ SqL K H b ls ∧ ts[i]? = some x ∧ ls[i]? = some y
  yld := fun i H v H' => ∃ (T : Addr) (x y : V), v = .ref T ∧ H T = none ∧ H' = upd H T (.tup [x, y]) ∧ (∀ ts, SqT K H a ts → ts[i]? = some x) ∧ (∀ ls, SqL K H b ls → ls[i]? = some y)
  stop := fun i H => ∃ ts ls : List V, SqT K H a ts ∧ SqL K H b ls ∧ ts.length = i ∧ ls.length = i
def TLs (a b z TI TO i1 i2 : Addr) (i : Nat) (h : Heap) : Prop :=
  IsZip h z TI TO .none ∧ IsTupOf2 h TI (.ref i1) (.ref i2) ∧ (∃ x y, IsTupOf2 h TO x y) ∧ h.IsTupleIter i1 a i ∧ h.IsListIter i2 b i
theorem mem5 {c z TI TO i1 i2 : Addr} (h : c ∈ [z, TI, TO, i1, i2]) : c = z ∨ c = TI ∨ c = TO ∨ c = i1 ∨ c = i2 := by simpa using h
theorem out4 {c z TI TO i1 i2 : Addr} (h : c ∉ [z, TI, TO, i1, i2]) : c ≠ z ∧ c ≠ TO ∧ c ≠ i1 ∧ c ≠ i2 := by
  simp only [List.mem_cons, not_or] at h
  exact ⟨h.1, h.2.2.1, h.2.2.2.1, h.2.2.2.2.1⟩
theorem apart_sep {z TI TO i1 i2 a b : Addr} (D : ZipApart z TI TO i1 i2 a b) : ZipSep2 z TI TO i1 i2 [i1, a] [i2, b] where
  TIz := D.TIz
  TOz := D.TOz
  TITO := D.TITO
  TIi1 := D.TIi1
  TIi2 := D.TIi2
  mem1 := List.mem_cons_self
  mem2 := List.mem_cons_self
  zf1 := by simp [D.i1z.symm, D.l1z.symm]
  zf2 := by simp [D.i2z.symm, D.l2z.symm]
  Tf1 := by simp [D.TOi1, D.l1TO.symm]
  Tf2 := by simp [D.TOi2, D.l2TO.symm]
  sep1_2 := by simp [D.i12, D.l2i1.symm]
  sep2_1 := by simp [D.i12.symm, D.l1i2.symm]
theorem tls_lt {a b z TI TO i1 i2 : Addr} {i : Nat} {h : Heap} (st : TLs a b z TI TO i1 i2 i h) {c : Addr} (hc : c ∈ [z, TI, TO, i1, i2]) : ∃ o, h.get? c = some o ∧ ∀ v, o.data ≠ .cell v := by
  obtain ⟨q0, q1, ⟨x, y, q2⟩, ⟨o3, q3, _, d3⟩, ⟨o4, q4, _, d4⟩⟩ := st
  rcases mem5 hc with e | e | e | e | e <;> subst e
  · exact ⟨_, q0, fun v z => nomatch z⟩
  · exact ⟨_, q1, fun v z => nomatch z⟩
  · exact ⟨_, q2, fun v z => nomatch z⟩
  · exact ⟨o3, q3, fun v z => by rw [d3] at z; cases z⟩
  · exact ⟨o4, q4, fun v z => by rw [d4] at z; cases z⟩
theorem turn_TL {P : Program} {w : World} {K : PySem.W.Frag} {elts : List Expr} {kk : Nat} {tpos : Pos} {a b z TI TO i1 i2 : Addr} (D : ZipApart z TI TO i1 i2 a b) :
    Turn P w K (.Tuple elts kk tpos) (ItTL K a b) [z, TI, TO, i1, i2] z (TLs a b z TI TO i1 i2) where
  mem := List.mem_cons_self
  obj := fun i h st c hc => tls_lt st hc
  keep := fun i h h' st k => by
    obtain ⟨q0, q1, ⟨x, y, q2⟩, q3, q4⟩ := st
    exact ⟨k z (by simp) _ q0, k TI (by simp) _ q1, ⟨x, y, k TO (by simp) _ q2⟩, q3.at fun o e => k i1 (by simp) o e, q4.at fun o e => k i2 (by simp) o e⟩
  self := fun A i s Q E st h => wpAny_pyIter_zip st.1 h
  item := by
    intro X hP hw hK hc i pins s σ H E I hf st hg
    subst hP hw hK
    have st0 := st
    obtain ⟨q0, q1, ⟨x0, y0, q2⟩, q3, q4⟩ := st
    obtain ⟨ts, ls, x, y, ht, hl, ex, ey⟩ := hg
    obtain ⟨its, rv, p1, _⟩ := I.tuple ht
    obtain ⟨jts, rw', p2, _⟩ := I.list hl
    obtain ⟨u, hu, ru⟩ := rv.get ex
    obtain ⟨v, hv, rv'⟩ := rw'.get ey
    have n1 : i < its.toArray.size := by
      have := (List.getElem?_eq_some_iff.mp hu).1
      simpa using this
    have n2 : i < jts.toArray.size := by
      have := (List.getElem?_eq_some_iff.mp hv).1
      simpa using this
    have hh : X.A.in1.handled = none := I.ok.hd hc
    have zlt : z < s.heap.objs.size := Heap.lt_size q0
    refine wpAny_pyNext_zipD2_item (apart_sep D) (Draws.tuple hh i1 a D.l1i1 its.toArray) (Draws.list hh i2 b D.l2i2 jts.toArray) q0 q1 q2 ⟨q3, p1⟩ ⟨q4, p2.isList⟩ n1 n2 fun u' v' h1 tk hu' hv' z1 o1 a1 b1 hT sz kp => ?_
    have eu : u' = u := by
      have z : its[i]? = some u' := by simpa using hu'
      rw [hu] at z
      exact (Option.some.inj z).symm
    have ev : v' = v := by
      have z : jts[i]? = some v' := by simpa using hv'
      rw [hv] at z
      exact (Option.some.inj z).symm
    subst eu ev
    refine ⟨_, rfl, wpAny_letOwnedTupleGo_zip (s := { s with heap := h1, toks := tk }) z1 fun h2 z2 sb => ?_⟩
    have hT2 : h2.get? s.heap.objs.size = some { cls := .type "tuple", data := .seq #[u', v'] } := (sb.2 _ (Nat.ne_of_gt zlt)).trans hT
    have nw : ObjOk X.prog X.w (upd H s.heap.objs.size (.tup [x, y])) h2 s.heap.objs.size (.tup [x, y]) := ⟨by show 2 ≤ sizeLine; decide, [u', v'], .cons ru (.cons rv' .nil), ⟨_, hT2, rfl, _, rfl⟩⟩
    have I1 : Inv X pins σ (upd H s.heap.objs.size (.tup [x, y])) { s with heap := h2, toks := tk } := by
      refine I.turnedNew (ch := [z, TI, TO, i1, i2]) (fun c o n e => ?_) hf (Nat.le_refl _) nw
      obtain ⟨n1, n2, n3, n4⟩ := out4 n
      exact (sb.2 c n1).trans (kp c o n1 n2 n3 n4 e)
    refine ⟨.ref s.heap.objs.size, _, I1, rfl, ⟨_, x, y, rfl, I.hok.fresh (Nat.le_refl _), rfl, fun m hm => by rw [I.tuple_inj hm ht]; exact ex, fun m hm => by rw [I.list_inj hm hl]; exact ey⟩, ⟨z2, ?_, ⟨u', v', ?_⟩, ?_, ?_⟩, fun c hcm => ?_⟩
    · exact (sb.2 TI D.TIz).trans (kp TI _ D.TIz D.TITO D.TIi1 D.TIi2 q1)
    · exact (sb.2 TO D.TOz).trans o1
    · exact a1.1.at fun o e => (sb.2 i1 D.i1z).trans e
    · exact b1.1.at fun o e => (sb.2 i2 D.i2z).trans e
    · obtain ⟨o, ho, _⟩ := tls_lt st0 hcm
      rw [upd_ne (Nat.ne_of_lt (Heap.lt_size ho))]
      exact (hf c hcm).1
  done := by
    intro X hP hw hK hc i pins s σ H E I hf st hg
    subst hP hw hK
    obtain ⟨q0, q1, ⟨x0, y0, q2⟩, q3, q4⟩ := st
    obtain ⟨ts, ls, ht, hl, e1, e2⟩ := hg
    obtain ⟨its, rv, p1, _⟩ := I.tuple ht
    obtain ⟨jts, rw', p2, _⟩ := I.list hl
    have m1 : its.toArray.size = i := by
      have := rv.length
      simp
      omega
    have m2 : jts.toArray.size = i := by
      have := rw'.length
      simp
      omega
    have hh : X.A.in1.handled = none := I.ok.hd hc
    refine wpAny_pyNext_zipD2_end (apart_sep D) (Draws.tuple hh i1 a D.l1i1 its.toArray) (Draws.list hh i2 b D.l2i2 jts.toArray) q0 q1 q2 ⟨q3, p1⟩ ⟨q4, p2.isList⟩ (by omega) (by omega) (.inl m1.symm) fun h1 tk kp => ⟨rfl, ?_⟩
    refine I.turnedL (ch := [z, TI, TO, i1, i2]) (fun c o n e => ?_) hf
    obtain ⟨n1, n2, n3, n4⟩ := out4 n
    exact kp c o n1 n2 n3 n4 e
def iZipTL (K : PySem.W.Frag) (ta : TA) : TI := fun σ H R => ta σ H fun vs H1 => ∃ a b ts ls, vs = [.ref a, .ref b] ∧ SqT K H1 a ts ∧ SqL K H1 b ls ∧ R (ItTL K a b) H1
theorem pi_zipTL {X : Cx} {e e2 : Expr} {ta : TA} {p pos tpos : Pos} {elts : List Expr} {kk : Nat} (hg : Gl X "zip") (hm : X.mg "zip" = none) (ha : PA X [e, e2] ta)
    (hs : starEach [e, e2] X.env = (false, eval e X.env) :: starEach [e2] X.env := by rfl) (hpl : (backTo pos (starEach [e2] X.env)).any (·.1) = false := by rfl) :
    PI X (.Tuple elts kk tpos) (.Call (.Name "zip" p) [e, e2] [] pos) (iZipTL X.K ta) := by
  refine ⟨fun pins s σ H R I h => Call_ (ld_blt I hg hm PyProof.Rows.boot_zip (PyProof.Rows.callWith_type1 (thn (ha.run pos pins s σ H _ I h) fun us s1 hh => ?_) hs hpl))⟩
  obtain ⟨vs, H1, I1, r1, a, b, ts, ls, ev, ht, hl, q⟩ := hh
  subst ev
  cases r1 with
  | cons r rr =>
    cases rr with
    | cons r' rr =>
      cases rr
      cases r
      cases r'
      obtain ⟨its, rv, p1, _⟩ := I1.tuple ht
      obtain ⟨jts, rw', p2, _⟩ := I1.list hl
      have la : a < s1.heap.objs.size := by
        obtain ⟨o, ho, _⟩ := id p1
        exact Heap.lt_size ho
      refine zip_begins2 (begins_tuple a its.toArray) (begins_list b jts.toArray) p1 p2.isList fun h1 z1 t1 o1 g1 g2 sz kp => wpAny_pyIter_zip z1 ?_
      have I2 : Inv X pins σ H1 { s1 with heap := h1 } := I1.kept (t' := s1.toks) kp
      refine ⟨_, [s1.heap.objs.size + 4, s1.heap.objs.size + 2, s1.heap.objs.size + 3, s1.heap.objs.size, s1.heap.objs.size + 1], _, _, H1, rfl, I2, turn_TL (PySem.W.ktu_apart s1.heap.objs.size a b la p2.lt), ⟨z1, t1, ⟨_, _, o1⟩, ⟨_, g1, rfl, rfl⟩, ⟨_, g2, rfl, rfl⟩⟩, fun c hc => ?_, q⟩
      have le : s1.heap.objs.size ≤ c := by
        rcases mem5 hc with e | e | e | e | e <;> rw [e] <;> first | exact Nat.le_add_right _ _ | exact Nat.le_refl _
      exact I1.fpOk le (I1.hok.fresh le)
/-- a loop over zip(t, l), of one length -/
theorem for_zipTL {K : PySem.W.Frag} {a b : Addr} {xs ys : List V} {g : TG} {tb : TS} {D : Ends} {σ : L2.St} {H : Hp} (hl : xs.length = ys.length) (Pv : Nat → L2.St → Hp → Prop) (h0 : Pv 0 σ H) (hq : ∀ i σ H, Pv i σ H → SqT K H a xs ∧ SqL K H b ys)
    (hs : ∀ (i : Nat) (x y : V) (T : Addr) (σ : L2.St) (G : Hp), xs[i]? = some x → ys[i]? = some y → Pv i σ G → G T = none → g (.ref T) σ (upd G T (.tup [x, y])) fun σ2 G2 => tb { D with nx := Pv (i + 1), ct := Pv (i + 1), bk := D.nx } σ2 G2) (hd : ∀ σ G, Pv xs.length σ G → D.nx σ G) :
    ∃ W : Nat → Nat → L2.St → Hp → Prop, (∃ m, W 0 m σ H) ∧ ∀ i m σ H, W i m σ H → ((ItTL K a b).stop i H ∧ D.nx σ H) ∨ ((ItTL K a b).go i H ∧ ∃ N : L2.St → Hp → Prop, (∀ σ' H', N σ' H' → ∃ m', m' < m ∧ W (i + 1) m' σ' H') ∧
      ∀ v H', (ItTL K a b).yld i H v H' → g v σ H' fun σ2 H2 => tb { D with nx := N, ct := N, bk := D.nx } σ2 H2) := by
  refine ⟨fun i m σ G => m + i = xs.length ∧ Pv i σ G, ⟨xs.length, rfl, h0⟩, fun i m σ G hw => ?_⟩
  obtain ⟨hm, p⟩ := hw
  obtain ⟨qx, qy⟩ := hq i σ G p
  cases m with
  | zero =>
    have e : i = xs.length := by omega
    subst e
    exact .inl ⟨⟨xs, ys, qx, qy, rfl, hl.symm⟩, hd σ G p⟩
  | succ m =>
    have l1 : i < xs.length := by omega
    have l2 : i < ys.length := by omega
    refine .inr ⟨⟨xs, ys, _, _, qx, qy, List.getElem?_eq_getElem l1, List.getElem?_eq_getElem l2⟩, Pv (i + 1), fun σ' G' p' => ⟨m, Nat.lt_succ_self _, by omega, p'⟩, fun v G' y => ?_⟩
    obtain ⟨T, x, y, rfl, nT, rfl, f1, f2⟩ := y
    exact hs i x y T σ G (f1 xs qx) (f2 ys qy) p nT
end KS
namespace KS
open PySem PySem.Spec PyProof.Rows L2
/-! ### what the program's own helpers keep, for good values -/
def spFF (K : PySem.W.Frag) : Sp := fun xs H Q _ => ∃ (t : Addr) (m : Int) (vs : List Int), xs = [.ref t, .int m] ∧ SqT K H t (vs.map V.int) ∧ vs.Nodup ∧ (∀ v ∈ vs, 1 ≤ v ∧ v ≤ m) ∧ ∀ H', Same H H' → Q .non H'
def spCheckF (K : PySem.W.Frag) : Sp := fun xs H Q _ => ∃ (n : Nat) (t : Addr) (vs : List Int), xs = [.int n, .ref t] ∧ SqT K H t (vs.map V.int) ∧ Vals9 n vs ∧ n ≤ 24 ∧ ∀ H', Same H H' → Q .non H'
def spAlong (K : PySem.W.Frag) : Sp := fun xs H Q _ => ∃ (g t : Addr) (gs : List V) (ls : List (List Int)) (vs : List Int), xs = [.ref g, .ref t] ∧ SqT K H g gs ∧ Paired (TupI K H) gs ls ∧
  (∀ l ∈ ls, (∀ k ∈ l, ∃ j : Nat, k = (j : Int) ∧ j < vs.length) ∧ l.length ≤ 24) ∧ SqT K H t (vs.map V.int) ∧ ∀ H' u, Same H H' → SqT K H' u ((srtTo vs ls).map V.int) → H u = none → Q (.ref u) H'
theorem inV_take {vs : List Int} (nd : vs.Nodup) {i : Nat} {v : Int} (h : vs[i]? = some v) : inV (.int v) ((vs.take i).map V.int) = false := by
  unfold inV
  rw [List.any_eq_false]
  intro x hx
  obtain ⟨y, hy, rfl⟩ := List.mem_map.mp hx
  obtain ⟨j, hj⟩ := List.mem_iff_getElem?.mp hy
  rw [List.getElem?_take] at hj
  split at hj
  · rename_i hlt
    show ¬ ((y == v) = true)
    intro e
    have e' : y = v := by simpa using e
    subst e'
    obtain ⟨l1, e1⟩ := List.getElem?_eq_some_iff.mp h
    obtain ⟨l2, e2⟩ := List.getElem?_eq_some_iff.mp hj
    have := (List.pairwise_iff_getElem.mp nd) j i l2 l1 hlt
    rw [e1, e2] at this
    exact this rfl
  · cases hj
theorem flat_ints (l : List Int) : (l.map V.int).all flatV = true := by
  rw [List.all_eq_true]
  intro x hx
  obtain ⟨y, _, rfl⟩ := List.mem_map.mp hx
  rfl
theorem cut_take {l : List V} {i : Nat} (h : i ≤ l.length) : cutV l none (some (i : Int)) = l.take i := by
  unfold cutV
  have e0 : HT.sIx l.length 0 none = 0 := rfl
  have e1 : HT.sIx l.length l.length (some (i : Int)) = i := by
    rw [HT.sIx_nat]
    omega
  rw [e0, e1]
  simp
theorem cut_not {l : List V} {i : Nat} (h : i < l.length) : ¬ (HT.sIx l.length 0 none = 0 ∧ HT.sIx l.length l.length (some (i : Int)) = l.length) := by
  intro z
  have e1 : HT.sIx l.length l.length (some (i : Int)) = i := by
    rw [HT.sIx_nat]
    omega
  omega
theorem lns_ok {b : Bool} {cs : List Cell} {vs : List Int} (hl : cs.length ≤ 24) (hv : vs.length = cs.length) : ∀ l ∈ lnsOf b cs, (∀ k ∈ l, ∃ j : Nat, k = (j : Int) ∧ j < vs.length) ∧ l.length ≤ 24 := fun l h => by
  have := lns_mem h
  rw [hv]
  exact ⟨this.1, by omega⟩
end KS
namespace KS
open PySem PySem.Spec PyProof.Rows L2 RZ
/-! ### things of any kind, as a filling -/
/-- a value (some), or a known other thing -/
def VlR (K : PySem.W.Frag) (H : Hp) (v : V) : Option Int → Prop
  | some i => v = .int i ∧ 1 ≤ i ∧ i ≤ 9999
  | none => BwR K H v 1 9999 false
abbrev Vls (K : PySem.W.Frag) (H : Hp) : List V → List (Option Int) → Prop := Paired (VlR K H)
def OkV (rs : List (Option Int)) (i : Nat) : Prop := ∀ j, j < i → ∃ x, rs[j]? = some (some x) ∧ ∀ k, k < j → rs[k]? ≠ some (some x)
def BadV (rs : List (Option Int)) (i : Nat) : Prop := rs[i]? = some none ∨ ∃ x k, rs[i]? = some (some x) ∧ k < i ∧ rs[k]? = some (some x)
/-- what a thing is worth as a filling of n cells -/
def FilV (K : PySem.W.Frag) (H : Hp) (n : Nat) (v : V) : Verd → Prop
  | .ok => ∃ a xs rs, v = .ref a ∧ SqT K H a xs ∧ xs.length = n ∧ Vls K H xs rs ∧ OkV rs rs.length
  | .non => (∃ t, Oth K H v t ∧ t ≠ "tuple") ∨ ∃ a xs, v = .ref a ∧ SqT K H a xs ∧ xs.length ≠ n
  | .at i => ∃ a xs rs, v = .ref a ∧ SqT K H a xs ∧ xs.length = n ∧ Vls K H xs rs ∧ OkV rs i ∧ BadV rs i
theorem okV_succ {rs : List (Option Int)} {i : Nat} {x : Int} (h : OkV rs i) (e : rs[i]? = some (some x)) (k : ∀ k, k < i → rs[k]? ≠ some (some x)) : OkV rs (i + 1) := fun j hj => by
  rcases Nat.lt_or_ge j i with z | z
  · exact h j z
  · have : j = i := by omega
    subst this
    exact ⟨x, e, k⟩
theorem first_badV (rs : List (Option Int)) : ∀ n, n ≤ rs.length → OkV rs n ∨ ∃ i, i < n ∧ OkV rs i ∧ BadV rs i
  | 0, _ => .inl fun j hj => absurd hj (Nat.not_lt_zero _)
  | n + 1, h => by
    rcases first_badV rs n (by omega) with ok | ⟨i, h1, h2, h3⟩
    · cases e : rs[n]? with
      | none =>
        have := List.getElem?_eq_none_iff.mp e
        omega
      | some o =>
        cases o with
        | none => exact .inr ⟨n, by omega, ok, .inl e⟩
        | some x =>
          by_cases c : ∃ k, k < n ∧ rs[k]? = some (some x)
          · obtain ⟨k, k1, k2⟩ := c
            exact .inr ⟨n, by omega, ok, .inr ⟨x, k, e, k1, k2⟩⟩
          · exact .inl (okV_succ ok e fun k hk z => c ⟨k, hk, z⟩)
    · exact .inr ⟨i, by omega, h2, h3⟩
theorem okV_notBad {rs : List (Option Int)} {n i : Nat} (h : OkV rs n) (hi : i < n) : ¬ BadV rs i := by
  obtain ⟨x, e, k⟩ := h i hi
  rintro (z | ⟨y, m, e', hm, ek⟩)
  · rw [e] at z
    cases z
  · rw [e] at e'
    cases e'
    exact k m hm ek
theorem badV_lt {rs : List (Option Int)} {i : Nat} (h : BadV rs i) : i < rs.length := by
  rcases h with z | ⟨_, _, z, _⟩ <;> exact (List.getElem?_eq_some_iff.mp z).1
def TwoV (rs : List (Option Int)) (b : Verd) : Prop := (b.good = true ∧ OkV rs rs.length) ∨ ∃ i, b = .at i ∧ OkV rs i ∧ BadV rs i
theorem TwoV.bad {rs : List (Option Int)} {b : Verd} {i : Nat} (h : TwoV rs b) (ok : OkV rs i) (bad : BadV rs i) : b = .at i := by
  rcases h with ⟨_, h⟩ | ⟨j, rfl, h1, h2⟩
  · exact absurd bad (okV_notBad h (badV_lt bad))
  · rcases Nat.lt_trichotomy i j with z | z | z
    · exact absurd bad (okV_notBad h1 z)
    · rw [z]
    · exact absurd h2 (okV_notBad ok z)
theorem TwoV.ok {rs : List (Option Int)} {b : Verd} (h : TwoV rs b) (ok : OkV rs rs.length) : b.good = true := by
  rcases h with ⟨g, _⟩ | ⟨j, rfl, _, h2⟩
  · exact g
  · exact absurd h2 (okV_notBad ok (badV_lt h2))
theorem FilV.split {K : PySem.W.Frag} {H : Hp} {n : Nat} {v : V} {b : Verd} (h : FilV K H n v b) : (b = .non ∧ ((∃ t, Oth K H v t ∧ t ≠ "tuple") ∨ ∃ a xs, v = .ref a ∧ SqT K H a xs ∧ xs.length ≠ n)) ∨
    ∃ a xs rs, v = .ref a ∧ SqT K H a xs ∧ xs.length = n ∧ Vls K H xs rs ∧ TwoV rs b := by
  cases b with
  | ok =>
    obtain ⟨a, xs, rs, e, h1, h2, h3, h4⟩ := h
    exact .inr ⟨a, xs, rs, e, h1, h2, h3, .inl ⟨rfl, h4⟩⟩
  | non => exact .inl ⟨rfl, h⟩
  | «at» i =>
    obtain ⟨a, xs, rs, e, h1, h2, h3, h4, h5⟩ := h
    exact .inr ⟨a, xs, rs, e, h1, h2, h3, .inr ⟨i, rfl, h4, h5⟩⟩
theorem filV_of {K : PySem.W.Frag} {H : Hp} {n : Nat} {a : Addr} {xs : List V} {rs : List (Option Int)} (h : SqT K H a xs) (e : Vls K H xs rs) : ∃ v, FilV K H n (.ref a) v := by
  by_cases c : xs.length = n
  · rcases first_badV rs rs.length (Nat.le_refl _) with ok | ⟨i, _, h1, h2⟩
    · exact ⟨.ok, a, xs, rs, rfl, h, c, e, ok⟩
    · exact ⟨.at i, a, xs, rs, rfl, h, c, e, h1, h2⟩
  · exact ⟨.non, .inr ⟨a, xs, rfl, h, c⟩⟩
theorem filV_oth {K : PySem.W.Frag} {H : Hp} {n : Nat} {v : V} {t : String} (h : Oth K H v t) (ne : t ≠ "tuple") : FilV K H n v .non := .inl ⟨t, h, ne⟩
theorem BwR.same {K : PySem.W.Frag} {H H' : Hp} {v : V} {lo hi : Int} {b : Bool} (s : Same H H') (h : BwR K H v lo hi b) : BwR K H' v lo hi b := by
  cases b with
  | true => exact h
  | false =>
    rcases h with h | ⟨t, h1, h2⟩
    · exact .inl h
    · exact .inr ⟨t, h1.same s, h2⟩
theorem VlR.same {K : PySem.W.Frag} {H H' : Hp} {v : V} {o : Option Int} (s : Same H H') (h : VlR K H v o) : VlR K H' v o := by
  cases o with
  | some i => exact h
  | none => exact BwR.same (lo := 1) (hi := 9999) (b := false) s (show BwR K H v 1 9999 false from h)
theorem vls_same {K : PySem.W.Frag} {H H' : Hp} (s : Same H H') {xs : List V} {rs : List (Option Int)} (h : Vls K H xs rs) : Vls K H' xs rs := Paired.mono (fun _ _ q => q.same s) h
theorem FilV.same {K : PySem.W.Frag} {H H' : Hp} {n : Nat} {v : V} {b : Verd} (s : Same H H') (h : FilV K H n v b) : FilV K H' n v b := by
  cases b with
  | ok =>
    obtain ⟨a, xs, rs, e, h1, h2, h3, h4⟩ := h
    exact ⟨a, xs, rs, e, same_seqT s h1, h2, vls_same s h3, h4⟩
  | non =>
    rcases h with ⟨t, h1, h2⟩ | ⟨a, xs, e, h1, h2⟩
    · exact .inl ⟨t, h1.same s, h2⟩
    · exact .inr ⟨a, xs, e, same_seqT s h1, h2⟩
  | «at» i =>
    obtain ⟨a, xs, rs, e, h1, h2, h3, h4, h5⟩ := h
    exact ⟨a, xs, rs, e, same_seqT s h1, h2, vls_same s h3, h4, h5⟩
theorem vls_ints {K : PySem.W.Frag} {H : Hp} : ∀ {vs : List Int}, (∀ v ∈ vs, 1 ≤ v ∧ v ≤ 9999) → Vls K H (vs.map V.int) (vs.map some)
  | [], _ => .nil
  | v :: vs, h => .cons ⟨rfl, h v List.mem_cons_self⟩ (vls_ints fun z hz => h z (List.mem_cons_of_mem _ hz))
theorem okV_ints {vs : List Int} (nd : vs.Nodup) : OkV (vs.map some) (vs.map some).length := fun j hj => by
  rw [List.length_map] at hj
  refine ⟨vs[j], by rw [List.getElem?_map, List.getElem?_eq_getElem hj]; rfl, fun k hk z => ?_⟩
  rw [List.getElem?_map, List.getElem?_eq_getElem (show k < vs.length by omega)] at z
  have e : vs[k] = vs[j] := Option.some.inj (Option.some.inj z)
  exact List.pairwise_iff_getElem.mp (List.nodup_iff_pairwise_ne.mp nd) k j (by omega) hj hk e
theorem filV_good {K : PySem.W.Frag} {H : Hp} {n : Nat} {a : Addr} {vs : List Int} (h : SqT K H a (vs.map V.int)) (v9 : Vals9 n vs) : FilV K H n (.ref a) .ok :=
  ⟨a, _, vs.map some, rfl, h, by rw [List.length_map]; exact v9.len, vls_ints v9.bd, okV_ints v9.nd⟩
/-- up to the first fault all are numbers, each once -/
theorem okV_take {K : PySem.W.Frag} {H : Hp} : ∀ {xs : List V} {rs : List (Option Int)}, Vls K H xs rs → ∀ {i : Nat}, OkV rs i → ∃ is : List Int, xs.take i = is.map V.int ∧ rs.take i = is.map some := by
  intro xs rs h
  induction h with
  | nil =>
    intro i _
    exact ⟨[], by rw [List.take_nil]; rfl, by rw [List.take_nil]; rfl⟩
  | @cons x o xs rs hx h ih =>
    intro i ok
    cases i with
    | zero => exact ⟨[], rfl, rfl⟩
    | succ i =>
      obtain ⟨y, ey, _⟩ := ok 0 (by omega)
      have ey : some o = some (some y) := ey
      cases ey
      obtain ⟨e1, _⟩ := hx
      have ok' : OkV rs i := fun j hj => by
        obtain ⟨z, ez, kz⟩ := ok (j + 1) (by omega)
        exact ⟨z, ez, fun k hk => kz (k + 1) (by omega)⟩
      obtain ⟨is, h1, h2⟩ := ih ok'
      refine ⟨y :: is, ?_, ?_⟩
      · rw [List.take_succ_cons, h1, e1]
        rfl
      · rw [List.take_succ_cons, h2]
        rfl
theorem in_ints (x : Int) (is : List Int) : inV (.int x) (is.map V.int) = decide (x ∈ is) := by
  induction is with
  | nil => rfl
  | cons y is ih =>
    show (eqV (.int y) (.int x) || inV (.int x) (is.map V.int)) = _
    rw [ih]
    have e : eqV (.int y) (.int x) = decide (y = x) := by
      first | rfl | (simp [eqV]) | (unfold eqV; rfl)
    rw [e, Bool.eq_iff_iff, Bool.or_eq_true, decide_eq_true_iff, decide_eq_true_iff, decide_eq_true_iff, List.mem_cons]
    constructor
    · rintro (z | z)
      · exact .inl z.symm
      · exact .inr z
    · rintro (z | z)
      · exact .inl z.symm
      · exact .inr z
theorem seen_iff {rs : List (Option Int)} {i : Nat} {is : List Int} {x : Int} (h : rs.take i = is.map some) : x ∈ is ↔ ∃ k, k < i ∧ rs[k]? = some (some x) := by
  constructor
  · intro hx
    have : some x ∈ rs.take i := by rw [h]; exact List.mem_map_of_mem hx
    obtain ⟨k, hk⟩ := List.getElem?_of_mem this
    have hl := (List.getElem?_eq_some_iff.mp hk).1
    rw [List.length_take] at hl
    rw [List.getElem?_take_of_lt (by omega)] at hk
    exact ⟨k, by omega, hk⟩
  · rintro ⟨k, hk, e⟩
    have : some x ∈ rs.take i := List.mem_of_getElem? (i := k) (by rw [List.getElem?_take_of_lt hk]; exact e)
    rw [h] at this
    obtain ⟨y, hy, ey⟩ := List.mem_map.mp this
    cases ey
    exact hy
/-! ### the promises -/
def spFFG (K : PySem.W.Frag) : Sp := fun xs H Q _ => ∃ (t : Addr) (ys : List V) (rs : List (Option Int)) (b : Verd), xs = [.ref t, .int 9999] ∧ SqT K H t ys ∧ Vls K H ys rs ∧ TwoV rs b ∧ ∀ H', Same H H' → Q (vIdx b) H'
def spCheckFG (K : PySem.W.Frag) (C : Addr) : Sp := fun vs H Q E => ∃ (n : Nat) (v : V) (b : Verd), vs = [.int (n : Nat), v] ∧ FilV K H n v b ∧ (b.good = true → ∀ H', Same H H' → Q .non H') ∧
  (b.good = false → ∀ H' d, Same H H' → H d = none → H' d = some (.xd [(("index" : Str), vIdx b)]) → E (.ref C) (some d) H')
def spIsFill (K : PySem.W.Frag) : Sp := fun vs H Q _ => ∃ (p : Addr) (cs : List Cell) (v : V) (b : Verd), vs = [.ref p, v] ∧ PlanAt K H p cs ∧ Good cs ∧ cs.length ≤ 24 ∧ FilV K H cs.length v b ∧ ∀ H', Same H H' → Q (.bl b.good) H'
def spVFault (K : PySem.W.Frag) : Sp := fun vs H Q _ => ∃ (n : Nat) (v : V) (b : Verd), vs = [v, .int (n : Nat)] ∧ FilV K H n v b ∧ ∀ H' p, Same H H' → H' p = some (.lst (if b.good = true then [] else [vIdx b])) → Q (.ref p) H'
end KS
namespace KS
open PySem PySem.Spec PyProof.Rows L2
abbrev sIsKind : Stmt := topS 35
abbrev sKind : Stmt := topS 36
theorem scIsKind : FnScope ["value"] ["value"] (defScope sIsKind) := ⟨rfl, rfl, rfl, by decide +kernel, rfl, by decide +kernel, by decide +kernel⟩
theorem scKind : FnScope ["kind"] ["kind"] (defScope sKind) := ⟨rfl, rfl, rfl, by decide +kernel, rfl, by decide +kernel, by decide +kernel⟩
section
variable {P : Program} {w : World} {K : PySem.W.Frag} {mg : Str → Option Value} {base : Heap}
theorem ok_isKind {f : Addr} {fd : FuncData} (F : Fun K "is_kind" "is_kind" sIsKind f fd) (mi : mg "isinstance" = none) (mS : mg "str" = none) : FnOk P w K mg base CX0 1 f fd ["value"] spIsKind := by
  refine F.ok scIsKind (fun vs H Q E h => ?_) (fun cdv A outer s H vs Q E hr h => ?_)
  · obtain ⟨b, rfl, _⟩ := h
    rfl
  · obtain ⟨b, rfl, q⟩ := h
    refine ⟨_, pss_one (ps_ret (pe_and (pe_callB call_isi (by rfl) mi (by decide +kernel) (pa_cons (pv 0) (pa_cons (pe_bltn (v := .ty "str") (by rfl) mS (by decide +kernel) rfl) pa_nil)))
        (pe_one (pe_cmpR op_in_seq (pv 0) (pe_tup (pa_cons pe_str (pa_cons pe_str pa_nil))) (by rfl))))), ?_⟩
    refine ⟨_, rfl, _, _, _, _, true, rfl, .ty "str", .base (.str _), kit_ty (by decide +kernel), true, rfl, ?_⟩
    refine ⟨_, rfl, (by show 2 ≤ sizeLine; decide), fun t nt => ⟨t, _, rfl, .inr (SqT.of upd_same), rfl, rfl, ?_⟩⟩
    have e : inV (V.str (if b = true then "C" else "R")) [V.str "R", V.str "C"] = true := by cases b <;> decide +kernel
    show Q (V.bl (inV (V.str (if b = true then "C" else "R")) [V.str "R", V.str "C"])) _
    rw [e]
    exact q _ (same_new nt)
theorem ok_kind {f fI : Addr} {fd fdI : FuncData} (F : Fun K "check_kind" "check_kind" sKind f fd) (GI : FnOk P w K mg base CX0 1 fI fdI ["value"] spIsKind) (bI : Binds K fdI ["value"] []) (gI : mg "is_kind" = some (.ref fI)) (kI : PySem.W.keepIn K (.ref fI) = true) : FnOk P w K mg base CX0 2 f fd ["kind"] spKind := by
  refine F.ok scKind (fun vs H Q E h => ?_) (fun cdv A outer s H vs Q E hr h => ?_)
  · obtain ⟨b, rfl, _⟩ := h
    rfl
  · obtain ⟨b, rfl, q⟩ := h
    refine ⟨_, pss_one (ps_if (pt_not (pt_val (pe_call GI hr (by rfl) gI kI bI .nil pass0 (pa_cons (pv 0) pa_nil)))) (pss_one ps_never) pss_nil), ?_⟩
    exact ⟨_, rfl, b, rfl, fun H' sm => ⟨true, rfl, q H' sm⟩⟩
end
end KS
namespace KS
open PySem PySem.Spec PyProof.Rows L2
abbrev sLines : Stmt := topS 37
abbrev nLines : List Str := ["plan", "kind", "side", "found", "index", "cell", "place"]
theorem scLines : FnScope nLines ["plan", "kind"] (defScope sLines) := ⟨rfl, rfl, rfl, by decide +kernel, rfl, by decide +kernel, by decide +kernel⟩
section
variable {P : Program} {w : World} {K : PySem.W.Frag} {mg : Str → Option Value} {base : Heap}
theorem ok_lines {f fC fK : Addr} {fd fdC fdK : FuncData} (F : Fun K "lines" "lines" sLines f fd) (GC : FnOk P w K mg base CX0 5 fC fdC ["plan"] (spCheck K)) (bC : Binds K fdC ["plan"] []) (gC : mg "check_plan" = some (.ref fC)) (kC : PySem.W.keepIn K (.ref fC) = true)
    (GK : FnOk P w K mg base CX0 2 fK fdK ["kind"] spKind) (bK : Binds K fdK ["kind"] []) (gK : mg "check_kind" = some (.ref fK)) (kK : PySem.W.keepIn K (.ref fK) = true)
    (me : mg "enumerate" = none) (mT : mg "tuple" = none) (mS : mg "sorted" = none) : FnOk P w K mg base CX0 6 f fd ["plan", "kind"] (spLines K) := by
  refine F.ok scLines (fun vs H Q E h => ?_) (fun cdv A outer s H vs Q E hr h => ?_)
  · obtain ⟨a, b, cs, rfl, _⟩ := h
    rfl
  · obtain ⟨a, b, cs, rfl, ⟨xs, hx, hc⟩, gd, hl, q⟩ := h
    have nd := scLines.nd
    have hr1 : Room 2 _ := hr.mono (by decide)
    refine ⟨_, pss_cons (ps_expr (pe_call GC hr (by rfl) gC kC bC .nil pass0 (pa_cons (pv 0) pa_nil)))
      (pss_cons (ps_expr (pe_call GK hr1 (by rfl) gK kK bK .nil pass0 (pa_cons (pv 1) pa_nil)))
      (pss_cons (ps_set (i := 2) nd rfl (.inl rfl) (pe_ifExp (pt_cmpR op_eq (pv 1) pe_str (nomark _)) pe_int pe_int))
      (pss_cons (ps_set (i := 3) nd rfl (.inr rfl) pe_dnewK)
      (pss_cons (ps_for PassesOwn.never rfl (pi_enumT (by rfl) me (pa_cons (pv 0) pa_nil)) (pg_tup (by rfl) (pgs_cons (pg_name (i := 4) nd rfl (.inl rfl)) (pgs_cons (pg_name (i := 5) nd rfl (.inl rfl)) pgs_nil)))
        (pss_one (ps_expr (pe_bm PySem.F.plainAttrs_list PySem.F.slot_list_append PySem.F.type_list_append mt_append
          (pe_dsetd (pv 3) (pe_ix ix_tup (pv 5) (pv 2) (fun _ _ => rfl)) (pe_lst pa_nil) ⟨by rfl, by rfl, by rfl, by rfl⟩) (pa_cons (pv 4) pa_nil)))))
      (pss_one (ps_ret (pe_callTy call_tuple_of (by rfl) mT (by decide +kernel) (pa_cons
        (pe_lc (own := [("place", 6)]) (g := gName 6) (tt := tYes) rfl nd (pi_list (pe_callB (call_sortedDI rfl) (by rfl) mS (by decide +kernel) (pa_cons (pv 3) pa_nil))) (blkOk_by (N := nLines) (sc := defScope sLines) (by decide +kernel))
          (fun _ _ _ _ _ => pg_name (i := 6) nd rfl (Or.inl rfl)) (fun _ _ _ _ _ => pts_nil)
          (fun _ _ _ _ _ => pe_callTy (T := "tuple") (r := rTupOf K) cr_tupOf (by rfl) mT (by decide +kernel) (pa_cons (pe_dget (hu_of hr) (pv 3) (pv 6) (fun _ _ => rfl)) pa_nil))) pa_nil)))))))), ?_⟩
    refine ⟨_, rfl, a, cs, rfl, ⟨xs, hx, hc⟩, gd, hl, fun H1 s1 => ?_⟩
    refine ⟨_, rfl, b, rfl, fun H2 s2 => ?_⟩
    refine side_ok (b := b) rfl ?_
    intro d nd0
    have s3 := (s1.trans s2).trans (same_new (o := .dK []) nd0)
    refine ⟨_, rfl, a, xs, rfl, same_seqT s3 hx, for_enumT (K := K) (a := a) (xs := xs) (fun i σ H' => ∃ (kvs : List (Key × V)) (ad : Int → Addr) (y4 y5 : Option V),
      σ = [some (.ref a), some (.str (if b = true then "C" else "R")), some (.int (if b = true then 1 else 0)), some (.ref d), y4, y5, none] ∧ Same H H' ∧ H d = none ∧ Grp b cs i d kvs ad H' ∧ (∀ r, idxs b cs i r ≠ [] → H (ad r) = none)) ?_ ?_ ?_ ?_⟩
    · refine ⟨[], fun _ => d, none, none, rfl, s3, (s1.trans s2).free nd0, ⟨upd_same, ⟨[], rfl, by simp, Nat.zero_le _⟩, fun r => rfl, fun r h => absurd rfl h, fun r r' h => absurd rfl h⟩, fun r h => absurd rfl h⟩
    · rintro i σ H' _ ⟨kvs, ad, y4, y5, rfl, sm, _⟩
      exact same_seqT sm hx
    · rintro i x σ H' T hi ⟨kvs, ad, y4, y5, rfl, sm, hd0, g, hn⟩ nT
      obtain ⟨c, hci, tt, rfl, ht⟩ := paired_get hc hi
      have sT := same_new (o := .tup [.int (i : Nat), .ref tt]) nT
      have s4 := sm.trans sT
      have g1 := g.same sT
      refine ⟨T, _, rfl, SqT.of upd_same, rfl, _, _, rfl, _, _, rfl, rfl, ?_⟩
      refine ⟨_, rfl, d, rfl, .inl ⟨kvs, Rd.of g1.dict⟩, _, rfl, _, rfl, tt, _, _, _, rfl, rfl, same_seqT s4 ht, at_pick, Nat.zero_le _, fun z nz => ?_⟩
      have sz := same_new (o := .lst []) nz
      have g2 := g1.same sz
      obtain ⟨ks, k1, k2, k3⟩ := g2.keys
      have hlen : kvs.length ≤ 24 := by
        have := congrArg List.length k1
        rw [List.length_map, List.length_map] at this
        have := (List.getElem?_eq_some_iff.mp hci).1
        omega
      refine ⟨kvs, .inl (pick b c), g2.dict, rfl, small64 (by omega), fun v hv => ?_, fun hv => ?_⟩
      · have hne : idxs b cs i (pick b c) ≠ [] := fun e => by
          rw [g2.val, if_pos e] at hv
          cases hv
        rw [g2.val, if_neg hne] at hv
        cases hv
        have hL := g2.lst _ hne
        refine ⟨.inl ⟨rfl, _, SqL.of hL⟩, _, rfl, _, _, _, rfl, rfl, hL, ?_, ?_⟩
        · rw [List.length_map]
          have := idxs_len b cs i (pick b c)
          have := (List.getElem?_eq_some_iff.mp hci).1
          exact small64 (by omega)
        · refine ⟨kvs, ad, _, _, rfl, fun q o e => ?_, hd0, g2.more hci hne, fun r hr => ?_⟩
          · rw [upd_ne (ne_of_none e (hn _ hne))]
            exact sz _ _ (s4 _ _ e)
          · by_cases e : pick b c = r
            · subst e
              exact hn _ hne
            · rw [idxs_miss hci e] at hr
              exact hn r hr
      · have he : idxs b cs i (pick b c) = [] := by
          by_cases e : idxs b cs i (pick b c) = []
          · exact e
          · rw [g2.val, if_neg e] at hv
            cases hv
        have hdz : z ≠ d := Ne.symm (ne_of_none g1.dict nz)
        refine ⟨.inl ⟨rfl, [], SqL.of (by rw [upd_ne hdz, upd_same])⟩, _, rfl, z, [], _, rfl, rfl, by rw [upd_ne hdz, upd_same], by rw [sizeLine_eq]; decide, ?_⟩
        have zH : H z = none := by
          cases e : H z with
          | none => rfl
          | some o =>
            have := s4 _ _ e
            rw [nz] at this
            cases this
        refine ⟨_, _, _, _, rfl, fun q o e => ?_, hd0, g1.new hci he nz, fun r hr => ?_⟩
        · rw [upd_ne (ne_of_none e zH), upd_ne (ne_of_none e hd0)]
          exact sz _ _ (s4 _ _ e)
        · show H (if _ then z else _) = none
          by_cases e : r = pick b c
          · rw [if_pos e]
            exact zH
          · rw [if_neg e]
            rw [idxs_miss hci (Ne.symm e)] at hr
            exact hn r hr
    · rintro σ H' ⟨kvs, ad, y4, y5, rfl, sm, hd0, g, hn⟩
      have hlen := Paired.length hc
      rw [hlen] at g hn
      obtain ⟨ks, k1, k2, k3⟩ := g.keys
      refine ⟨_, rfl, d, kvs, ks, rfl, Rd.of g.dict, k1, by omega, fun ys p perm pw np => ?_⟩
      have ey := g.used gd.grid k1 k2 perm pw
      subst ey
      have sp := same_new (o := .lst ((usedOf b cs).map V.int)) np
      have hul : (usedOf b cs).length ≤ 8 := by
        unfold usedOf
        exact Nat.le_trans (List.length_filter_le _ _) (by simp)
      refine ⟨p, rfl, ⟨_, SqL.of upd_same⟩, fun D nD => ?_⟩
      refine lc_list (K := K) (a := p) (xs := (usedOf b cs).map V.int) (fun j H2 => ∃ acc : List V, H2 D = some (.lst acc) ∧ Paired (TupI K H2) acc (((usedOf b cs).take j).map fun r => idxs b cs cs.length r) ∧
        (∀ q o, q ≠ D → upd H' p (.lst ((usedOf b cs).map V.int)) q = some o → H2 q = some o)) ?_ ?_ ?_ ?_
      · exact ⟨[], upd_same, .nil, fun q o n e => by rw [upd_ne n]; exact e⟩
      · rintro j H2 _ ⟨acc, a1, a2, a3⟩
        exact SqL.of (a3 _ _ (ne_of_none (H := upd H' p (.lst ((usedOf b cs).map V.int))) upd_same nD) upd_same)
      · rintro j x H2 hj ⟨acc, a1, a2, a3⟩
        have sD : Same (upd H' p (.lst ((usedOf b cs).map V.int))) H2 := fun q o e => a3 q o (ne_of_none e nD) e
        rw [List.getElem?_map] at hj
        cases er : (usedOf b cs)[j]? with
        | none =>
          rw [er] at hj
          cases hj
        | some r =>
          rw [er] at hj
          cases hj
          have hr := (used_mem gd.grid r).mp (List.mem_of_getElem? er)
          have gg := g.same (sp.trans sD)
          have hL := gg.lst r hr
          have hal : acc.length ≤ 8 := by
            rw [Paired.length a2, List.length_map, List.length_take]
            omega
          refine ⟨rfl, _, rfl, _, rfl, d, .ref (ad r), rfl, .inl ⟨kvs, .inl r, Rd.of gg.dict, rfl, by rw [gg.val, if_neg hr]⟩, ad r, _, rfl, .inl ⟨SqL.of hL, fun t nt => ?_⟩⟩
          have st := same_new (o := .tup ((idxs b cs cs.length r).map V.int)) nt
          have nDt : D ≠ t := ne_of_none a1 nt
          refine ⟨acc, st _ _ a1, small64 (by omega), acc ++ [.ref t], upd_same, ?_, fun q o n e => ?_⟩
          · rw [List.take_add_one, er, List.map_append]
            refine paired_append (tupI_kt ((KT.of_same st).trans (KT.upd (st _ _ a1))) a2) (.cons ⟨t, rfl, SqT.of ?_⟩ .nil)
            rw [upd_ne (Ne.symm nDt), upd_same]
          · rw [upd_ne n]
            exact st _ _ (a3 q o n e)
      · rintro H2 ⟨acc, a1, a2, a3⟩
        rw [List.length_map, List.take_length, used_lines] at a2
        have sD : Same (upd H' p (.lst ((usedOf b cs).map V.int))) H2 := fun q o e => a3 q o (ne_of_none e nD) e
        refine ⟨D, acc, rfl, .inl ⟨SqL.of a1, fun l nl => ?_⟩⟩
        have sl := same_new (o := .tup acc) nl
        exact q _ l acc (((sm.trans sp).trans sD).trans sl) (SqT.of upd_same) (tupI_kt (.of_same sl) a2)
end
end KS
namespace KS
open PySem PySem.Spec PyProof.Rows L2 RZ
abbrev sFF : Stmt := topS 41
abbrev sCheckF : Stmt := topS 42
abbrev sAlong : Stmt := topS 51
theorem scFF : FnScope ["values", "most", "index", "value"] ["values", "most"] (defScope sFF) := ⟨rfl, rfl, rfl, by decide +kernel, rfl, by decide +kernel, by decide +kernel⟩
theorem scCheckF : FnScope ["size", "filling", "index"] ["size", "filling"] (defScope sCheckF) := ⟨rfl, rfl, rfl, by decide +kernel, rfl, by decide +kernel, by decide +kernel⟩
abbrev nAlong : List Str := ["groups", "filling", "result", "line", "index", "values", "value"]
theorem scAlong : FnScope nAlong ["groups", "filling"] (defScope sAlong) := ⟨rfl, rfl, rfl, by decide +kernel, rfl, by decide +kernel, by decide +kernel⟩
section
variable {P : Program} {w : World} {K : PySem.W.Frag} {mg : Str → Option Value} {base : Heap}
theorem ok_ff {f fI : Addr} {fd fdI : FuncData} (F : Fun K "first_fault" "first_fault" sFF f fd) (GI : FnOk P w K mg base CX0 2 fI fdI ["value", "least", "most"] spBetween) (bI : Binds K fdI ["value", "least", "most"] []) (gI : mg "is_between" = some (.ref fI)) (kI : PySem.W.keepIn K (.ref fI) = true)
    (me : mg "enumerate" = none) : FnOk P w K mg base CX0 3 f fd ["values", "most"] (spFF K) := by
  refine F.ok scFF (fun vs H Q E h => ?_) (fun cdv A outer s H vs Q E hr h => ?_)
  · obtain ⟨a, t, vs, rfl, _⟩ := h
    rfl
  · obtain ⟨a, m, vs, rfl, hx, vn, vb, q⟩ := h
    have nd := scFF.nd
    refine ⟨_, pss_cons (ps_for PassesOwn.never rfl (pi_enumT (by rfl) me (pa_cons (pv 0) pa_nil)) (pg_tup (by rfl) (pgs_cons (pg_name (i := 2) nd rfl (.inl rfl)) (pgs_cons (pg_name (i := 3) nd rfl (.inl rfl)) pgs_nil)))
        (pss_one (ps_if (PW.pt (pw_or (pt_not (pt_val (pe_call GI hr (by rfl) gI kI bI .nil pass0 (pa_cons (pv 3) (pa_cons pe_int (pa_cons (pv 1) pa_nil))))))
          (pw_or1 (pt_cmpR op_in_seq (pv 3) (pe_slice sl_tup (pv 0) po_none (po_some (pv 2))) (by rfl))))) (pss_one (ps_ret (pv 2))) pss_nil)))
      (pss_one (ps_ret pe_non)), ?_⟩
    refine ⟨_, rfl, a, _, rfl, hx, for_enumT (K := K) (a := a) (xs := vs.map V.int) (fun i σ H' => Same H H' ∧ ∃ y1 y2, σ = [some (.ref a), some (.int m), y1, y2]) ?_ ?_ ?_ ?_⟩
    · exact ⟨Same.refl _, none, none, rfl⟩
    · rintro i σ H' _ ⟨sm, _⟩
      exact same_seqT sm hx
    · rintro i x σ H' T hi ⟨sm, y1, y2, rfl⟩ nT
      have hil : i < (vs.map V.int).length := (List.getElem?_eq_some_iff.mp hi).1
      rw [List.getElem?_map] at hi
      cases ev : vs[i]? with
      | none =>
        rw [ev] at hi
        cases hi
      | some v =>
        rw [ev] at hi
        cases hi
        have sT := same_new (o := .tup [.int (i : Nat), .int v]) nT
        have s2 := sm.trans sT
        have bd := vb v (List.mem_of_getElem? ev)
        refine ⟨T, _, rfl, SqT.of upd_same, rfl, _, _, rfl, _, _, rfl, rfl, ?_⟩
        refine ⟨_, rfl, _, rfl, v, 1, m, rfl, bd.1, bd.2, true, rfl, ?_⟩
        refine ⟨_, rfl, _, rfl, _, rfl, _, rfl, a, _, rfl, same_seqT s2 hx, cut_not hil, fun S nS => ?_⟩
        have sS := same_new (o := .tup (cutV (vs.map V.int) none (some (i : Int)))) nS
        refine ⟨S, _, rfl, .inr (SqT.of upd_same), rfl, ?_, false, ?_, ?_⟩
        · rw [cut_take (by omega), ← List.map_take]
          exact flat_ints _
        · show V.bl (inV (.int v) (cutV (vs.map V.int) none (some (i : Int)))) = V.bl false
          rw [cut_take (by omega), ← List.map_take, inV_take vn ev]
        · exact ⟨s2.trans sS, _, _, rfl⟩
    · rintro σ H' ⟨sm, _⟩
      exact q H' sm
theorem ok_checkF {f fI : Addr} {fd fdI : FuncData} {tk : Tok} (F : Fun K "check_filling" "check_filling" sCheckF f fd) (GI : FnOk P w K mg base CX0 3 fI fdI ["values", "most"] (spFF K)) (bI : Binds K fdI ["values", "most"] []) (gI : mg "first_fault" = some (.ref fI)) (kI : PySem.W.keepIn K (.ref fI) = true)
    (mi : mg "isinstance" = none) (mT : mg "tuple" = none) (ml : mg "len" = none) (mM : mg "MOST_VALUE" = some (.int 9999 tk)) : FnOk P w K mg base CX0 4 f fd ["size", "filling"] (spCheckF K) := by
  refine F.ok scCheckF (fun vs H Q E h => ?_) (fun cdv A outer s H vs Q E hr h => ?_)
  · obtain ⟨a, t, vs, rfl, _⟩ := h
    rfl
  · obtain ⟨n, a, vs, rfl, hx, v9, hn, q⟩ := h
    have nd := scCheckF.nd
    refine ⟨_, pss_cons (ps_if (PW.pt (pw_or (pt_not (pt_val (pe_callB call_isi (by rfl) mi (by decide +kernel) (pa_cons (pv 1) (pa_cons (pe_bltn (v := .ty "tuple") (by rfl) mT (by decide +kernel) rfl) pa_nil)))))
          (pw_or1 (pt_cmpR op_ne (pe_callB call_len_seq (by rfl) ml PySem.boot_len (pa_cons (pv 1) pa_nil)) (pv 0) (nomark _)))))
        (pss_one ps_never) pss_nil)
      (pss_cons (ps_set (i := 2) nd rfl (.inl rfl) (pe_call GI hr (by rfl) gI kI bI .nil pass0 (pa_cons (pv 1) (pa_cons (pe_glob (v := .int 9999) (by rfl) mM ⟨_, rfl⟩) pa_nil))))
      (pss_one (ps_if (pt_cmpR op_notN (pv 2) pe_non (nomark _)) (pss_one ps_never) pss_nil))), ?_⟩
    have hlen : (vs.map V.int).length = n := by rw [List.length_map, v9.len]
    refine ⟨_, rfl, _, _, _, _, true, rfl, .ty "tuple", tyx_tup hx, kit_ty (by decide +kernel), true, rfl, ?_⟩
    refine ⟨_, rfl, a, _, rfl, .inr hx, _, rfl, rfl, false, ?_, ?_⟩
    · rw [hlen]
      simp
    refine ⟨_, rfl, a, 9999, vs, rfl, hx, v9.nd, v9.bd, fun H1 s1 => ?_⟩
    exact ⟨_, rfl, rfl, false, rfl, q H1 s1⟩
theorem ok_along {f : Addr} {fd : FuncData} (F : Fun K "sorted_along" "sorted_along" sAlong f fd) (mL : mg "list" = none) (mz : mg "zip" = none) (ms : mg "sorted" = none) (mt : mg "tuple" = none) :
    FnOk P w K mg base CX0 1 f fd ["groups", "filling"] (spAlong K) := by
  refine F.ok scAlong (fun vs H Q E h => ?_) (fun cdv A outer s H vs Q E hr h => ?_)
  · obtain ⟨g, t, gs, ls, vs, rfl, _⟩ := h
    rfl
  · obtain ⟨g, t, gs, ls, vs, rfl, hg, hx, hls, ht, q⟩ := h
    have nd := scAlong.nd
    refine ⟨_, pss_cons (ps_set (i := 2) nd rfl (.inl rfl) (pe_callTy call_list_of (by rfl) mL (by decide +kernel) (pa_cons (pv 1) pa_nil)))
      (pss_cons (ps_for PassesOwn.never rfl (pi_tup (pv 0)) (pg_name (i := 3) nd rfl (.inl rfl))
        (pss_cons (ps_set (i := 5) nd rfl (.inl rfl) (pe_callB cr_sortedI (by rfl) ms (by decide +kernel) (pa_cons
            (pe_lc (own := [("index", 4)]) (g := gName 4) (tt := tYes) rfl nd (pi_tup (pv 3)) (blkOk_by (N := nAlong) (sc := defScope sAlong) (by decide +kernel))
              (fun _ _ _ _ _ => pg_name (i := 4) nd rfl (Or.inl rfl)) (fun _ _ _ _ _ => pts_nil) (fun _ _ _ _ _ => pe_ix (r := rIxT K) ix_tup (pv 1) (pv 4) (fun _ _ => rfl))) pa_nil)))
        (pss_one (ps_for PassesOwn.never rfl (pi_zipTL (by rfl) mz (pa_cons (pv 3) (pa_cons (pv 5) pa_nil)))
          (pg_tup (by rfl) (pgs_cons (pg_name (i := 4) nd rfl (.inl rfl)) (pgs_cons (pg_name (i := 6) nd rfl (.inl rfl)) pgs_nil)))
          (pss_one (ps_asg (pv 6) (pg_sub (pv 2) (pv 4) set_list)))))))
      (pss_one (ps_ret (pe_callTy call_tuple_of (by rfl) mt (by decide +kernel) (pa_cons (pv 2) pa_nil))))), ?_⟩
    refine ⟨_, rfl, t, _, rfl, .inr ht, fun o no => ?_⟩
    have so := same_new (o := .lst (vs.map V.int)) no
    refine ⟨_, rfl, g, rfl, ⟨_, same_seqT so hg⟩, for_tup (K := K) (a := g) (xs := gs) (fun i σ H' => ∃ (y3 y4 y5 y6 : Option V), σ = [some (.ref g), some (.ref t), some (.ref o), y3, y4, y5, y6] ∧
      (∀ c u, c ≠ o → H c = some u → H' c = some u) ∧ H' o = some (.lst ((srtTo vs (ls.take i)).map V.int))) ?_ ?_ ?_ ?_⟩
    · exact ⟨none, none, none, none, rfl, fun c u n e => so c u e, upd_same⟩
    · rintro i σ H' _ ⟨y3, y4, y5, y6, rfl, k', ho⟩
      exact same_seqT (fun c u e => k' c u (ne_of_none e no) e) hg
    · rintro i x σ H' hi ⟨y3, y4, y5, y6, rfl, k', ho⟩
      obtain ⟨l, hli, t', rfl, hl'⟩ := paired_get hx hi
      have sm : Same H H' := fun c u e => k' c u (ne_of_none e no) e
      have hlt := same_seqT sm hl'
      have hm := hls l (List.mem_of_getElem? hli)
      refine ⟨_, rfl, t', rfl, ⟨_, hlt⟩, fun D nD => ?_⟩
      have noD : o ≠ D := ne_of_none ho nD
      refine lc_tup (K := K) (a := t') (xs := l.map V.int) (fun j G => G = upd H' D (.lst (((l.take j).map (getI vs)).map V.int))) ?_ ?_ ?_ ?_
      · rfl
      · rintro j G _ rfl
        exact same_seqT (same_new nD) hlt
      · rintro j x G hj rfl
        rw [List.getElem?_map] at hj
        cases ev : l[j]? with
        | none =>
          rw [ev] at hj
          cases hj
        | some k =>
          rw [ev] at hj
          cases hj
          obtain ⟨j', rfl, hj'⟩ := hm.1 k (List.mem_of_getElem? ev)
          refine ⟨rfl, _, rfl, _, rfl, t, _, _, .int (getI vs (j' : Int)), rfl, rfl, same_seqT (sm.trans (same_new nD)) ht, atI_nat (getI_at (by omega)), _, upd_same, ?_, ?_⟩
          · rw [List.length_map, List.length_map, List.length_take]
            exact small64 (by omega)
          · rw [upd_upd, List.take_add_one, ev, List.map_append, List.map_append]
            rfl
      · rintro G rfl
        rw [List.length_map, List.take_length]
        refine ⟨D, _, rfl, SqL.of upd_same, fun ys P' perm asc nP => ?_⟩
        have ey := sortI_eq perm asc
        have yl : ys.length = l.length := by
          rw [perm.length_eq, List.length_map]
        have noP : o ≠ P' := fun e => by
          rw [← e, upd_ne noD, ho] at nP
          cases nP
        have sP := (same_new (o := .lst ((l.map (getI vs)).map V.int)) nD).trans (same_new (o := .lst (ys.map V.int)) nP)
        generalize hG : upd (upd H' D (.lst ((l.map (getI vs)).map V.int))) P' (.lst (ys.map V.int)) = G0 at sP
        have hP0 : G0 P' = some (.lst (ys.map V.int)) := by rw [← hG, upd_same]
        have hz0 : KT K H' G0 := .of_same sP
        refine ⟨_, rfl, _, rfl, t', P', _, _, rfl, hz0 _ _ hlt, SqL.of hP0, for_zipTL (K := K) (a := t') (b := P') (xs := l.map V.int) (ys := ys.map V.int) (by rw [List.length_map, List.length_map, yl])
          (fun j σ G => ∃ (y4 y6 : Option V), σ = [some (.ref g), some (.ref t), some (.ref o), some (.ref t'), y4, some (.ref P'), y6] ∧
            (∀ c u, c ≠ o → G0 c = some u → G c = some u) ∧ G o = some (.lst ((putZ (srtTo vs (ls.take i)) ((l.zip ys).take j)).map V.int))) ?_ ?_ ?_ ?_⟩
        · exact ⟨y4, y6, rfl, fun c u _ e => e, sP _ _ ho⟩
        · rintro j σ G ⟨y4, y6, rfl, kG, hoG⟩
          refine ⟨?_, SqL.of (kG _ _ (Ne.symm noP) hP0)⟩
          have z := hz0 _ _ hlt
          rcases z with (z | ⟨ob, z⟩) | z
          · exact .inl (.inl (kG _ _ (fun e => by rw [e, sP _ _ ho] at z; cases z) z))
          · exact .inl (.inr ⟨ob, kG _ _ (fun e => by rw [e, sP _ _ ho] at z; cases z) z⟩)
          · exact .inr z
        · rintro j x y T σ G hx' hy' ⟨y4, y6, rfl, kG, hoG⟩ nT
          rw [List.getElem?_map] at hx' hy'
          cases ex : l[j]? with
          | none =>
            rw [ex] at hx'
            cases hx'
          | some k =>
            cases ey' : ys[j]? with
            | none =>
              rw [ey'] at hy'
              cases hy'
            | some v =>
              rw [ex] at hx'
              rw [ey'] at hy'
              cases hx'
              cases hy'
              obtain ⟨j', rfl, hj'⟩ := hm.1 k (List.mem_of_getElem? ex)
              have noT : o ≠ T := ne_of_none hoG nT
              refine ⟨T, _, rfl, SqT.of upd_same, rfl, _, _, rfl, _, _, rfl, rfl, ?_⟩
              refine ⟨_, rfl, _, rfl, _, rfl, o, _, (j' : Int), j', rfl, rfl, by rw [upd_ne noT]; exact hoG, ixN_at ?_, ?_⟩
              · rw [List.length_map, putZ_len, srtTo_len]
                omega
              · refine ⟨_, _, rfl, fun c u nc e => ?_, ?_⟩
                · rw [upd_ne nc, upd_ne (ne_of_none (kG c u nc e) nT)]
                  exact kG c u nc e
                · have ez : (l.zip ys)[j]? = some ((j' : Int), v) := by
                    rw [List.getElem?_zip_eq_some]
                    exact ⟨ex, ey'⟩
                  rw [upd_same, List.take_add_one, ez]
                  show _ = some (HO.lst ((putZ _ (List.take j (l.zip ys) ++ [((j' : Int), v)])).map V.int))
                  rw [putZ_more, List.map_set]
                  rfl
        · rintro σ G ⟨y4, y6, rfl, kG, hoG⟩
          refine ⟨_, _, _, _, rfl, fun c u nc e => kG c u nc (sP c u (k' c u nc e)), ?_⟩
          have et : List.take (List.map V.int l).length (l.zip ys) = l.zip ys := List.take_of_length_le (by rw [List.length_zip, List.length_map]; omega)
          rw [hoG, et, List.take_add_one, hli, ey]
          show _ = some (HO.lst ((srtTo vs (List.take i ls ++ [l])).map V.int))
          rw [srtTo_more]
          rfl
    · rintro σ H' ⟨y3, y4, y5, y6, rfl, k', ho⟩
      rw [Paired.length hx, List.take_length] at ho
      refine ⟨_, rfl, o, _, rfl, .inl ⟨SqL.of ho, fun u nu => ?_⟩⟩
      have sm : Same H H' := fun c u e => k' c u (ne_of_none e no) e
      exact q _ u (sm.trans (same_new nu)) (SqT.of upd_same) (sm.free nu)
end
end KS
namespace KS
open PySem PySem.Spec PyProof.Rows L2
/-! ### a sort takes inversions away -/
def lt1 (a b : Int) : Nat := if a < b then 1 else 0
def cnt (a : Int) : List Int → Nat
  | [] => 0
  | b :: l => lt1 b a + cnt a l
def inv : List Int → Nat
  | [] => 0
  | a :: l => cnt a l + inv l
theorem cnt_set (b x y : Int) : ∀ {m : List Int} {j : Nat}, m[j]? = some y → cnt b (m.set j x) + lt1 y b = cnt b m + lt1 x b
  | [], _, h => by cases h
  | c :: m, 0, h => by
    cases h
    show lt1 x b + cnt b m + lt1 y b = lt1 y b + cnt b m + lt1 x b
    omega
  | c :: m, j + 1, h => by
    have ih := cnt_set b x y (m := m) (j := j) h
    show lt1 c b + cnt b (m.set j x) + lt1 y b = lt1 c b + cnt b m + lt1 x b
    omega
theorem lt1_four {x y b : Int} (h : y < x) : lt1 b y + lt1 x b ≤ lt1 b x + lt1 y b := by
  unfold lt1
  split <;> split <;> split <;> split <;> omega
theorem inv_front {x y : Int} (h : y < x) : ∀ {l : List Int} {j : Nat}, l[j]? = some y → cnt y (l.set j x) + inv (l.set j x) < cnt x l + inv l
  | [], _, e => by cases e
  | b :: m, 0, e => by
    cases e
    show lt1 x y + cnt y m + (cnt x m + inv m) < lt1 y x + cnt x m + (cnt y m + inv m)
    have h1 : lt1 x y = 0 := if_neg (by omega)
    have h2 : lt1 y x = 1 := if_pos h
    omega
  | b :: m, j + 1, e => by
    have ih := inv_front h (l := m) (j := j) e
    have c := cnt_set b x y (m := m) (j := j) e
    have f := lt1_four (b := b) h
    show lt1 b y + cnt y (m.set j x) + (cnt b (m.set j x) + inv (m.set j x)) < lt1 b x + cnt x m + (cnt b m + inv m)
    omega
theorem inv_swap {x y : Int} (h : y < x) : ∀ {l : List Int} {i j : Nat}, i < j → l[i]? = some x → l[j]? = some y → inv ((l.set i y).set j x) < inv l
  | [], _, _, _, e, _ => by cases e
  | a :: l, 0, 0, hij, _, _ => absurd hij (Nat.lt_irrefl _)
  | a :: l, 0, j + 1, _, e, e2 => by
    cases e
    exact inv_front h (l := l) (j := j) e2
  | a :: l, i + 1, 0, hij, _, _ => absurd hij (Nat.not_lt_zero _)
  | a :: l, i + 1, j + 1, hij, e, e2 => by
    have hij' : i < j := Nat.lt_of_succ_lt_succ hij
    have ih := inv_swap h (l := l) (i := i) (j := j) hij' e e2
    have c1 := cnt_set a y x (m := l) (j := i) e
    have e3 : (l.set i y)[j]? = some y := by
      rw [List.getElem?_set_ne (by omega)]
      exact e2
    have c2 := cnt_set a x y (m := l.set i y) (j := j) e3
    show cnt a ((l.set i y).set j x) + inv ((l.set i y).set j x) < cnt a l + inv l
    omega
theorem cnt_le (a : Int) : ∀ l : List Int, cnt a l ≤ l.length
  | [] => Nat.le_refl _
  | b :: l => by
    have := cnt_le a l
    have h : lt1 b a ≤ 1 := by
      unfold lt1
      split <;> omega
    show lt1 b a + cnt a l ≤ l.length + 1
    omega
theorem inv_le : ∀ l : List Int, 2 * inv l ≤ l.length * (l.length - 1)
  | [] => Nat.le_refl _
  | a :: l => by
    have h := inv_le l
    have c := cnt_le a l
    show 2 * (cnt a l + inv l) ≤ (l.length + 1) * (l.length + 1 - 1)
    rw [Nat.add_sub_cancel]
    cases hl : l.length with
    | zero =>
      rw [hl] at h c
      simp at h c
      omega
    | succ n =>
      rw [hl] at h c
      rw [Nat.add_sub_cancel] at h
      have e : (n + 1 + 1) * (n + 1) = (n + 1) * n + 2 * (n + 1) := by
        rw [Nat.add_mul (n + 1) 1 (n + 1), Nat.mul_add (n + 1) n 1]
        omega
      omega
end KS
namespace KS
open PySem PySem.Spec PyProof.Rows L2
def putN : List Int → List Nat → List Int → List Int
  | acc, k :: ks, y :: ys => putN (acc.set k y) ks ys
  | acc, _, _ => acc
def getN (acc : List Int) (ks : List Nat) : List Int := ks.map fun k => acc.getD k 0
theorem putN_nil (acc : List Int) (ys : List Int) : putN acc [] ys = acc := by
  unfold putN
  rfl
theorem putN_cons (acc : List Int) (k : Nat) (ks : List Nat) (y : Int) (ys : List Int) : putN acc (k :: ks) (y :: ys) = putN (acc.set k y) ks ys := by
  rw [putN]
theorem putN_none (acc : List Int) (ks : List Nat) : putN acc ks [] = acc := by
  cases ks <;> (unfold putN; rfl)
theorem putN_len : ∀ (ks : List Nat) (ys acc : List Int), (putN acc ks ys).length = acc.length
  | [], ys, acc => by rw [putN_nil]
  | k :: ks, [], acc => by rw [putN_none]
  | k :: ks, y :: ys, acc => by rw [putN_cons, putN_len ks ys, List.length_set]
theorem putN_off : ∀ {ks : List Nat} {ys acc : List Int} {i : Nat}, i ∉ ks → (putN acc ks ys)[i]? = acc[i]?
  | [], ys, acc, i, _ => by rw [putN_nil]
  | k :: ks, [], acc, i, _ => by rw [putN_none]
  | k :: ks, y :: ys, acc, i, h => by
    have hk : k ≠ i := fun e => h (e ▸ List.mem_cons_self)
    rw [putN_cons, putN_off (fun m => h (List.mem_cons_of_mem _ m)), List.getElem?_set_ne hk]
theorem getD_of {acc : List Int} {k : Nat} {v : Int} (h : acc[k]? = some v) : acc.getD k 0 = v := by
  rw [List.getD_eq_getElem?_getD, h]
  rfl
theorem get_put : ∀ {ks : List Nat} {ys acc : List Int}, ks.Nodup → ks.length = ys.length → (∀ k ∈ ks, k < acc.length) → getN (putN acc ks ys) ks = ys
  | [], [], acc, _, _, _ => rfl
  | [], _ :: _, acc, _, h, _ => by cases h
  | _ :: _, [], acc, _, h, _ => by cases h
  | k :: ks, y :: ys, acc, nd, hl, hb => by
    rw [List.nodup_cons] at nd
    rw [putN_cons]
    show (putN (acc.set k y) ks ys).getD k 0 :: getN (putN (acc.set k y) ks ys) ks = y :: ys
    rw [get_put nd.2 (by simpa using hl) (fun j hj => by rw [List.length_set]; exact hb j (List.mem_cons_of_mem _ hj))]
    congr 1
    refine getD_of ?_
    rw [putN_off nd.1, List.getElem?_set_self (hb k List.mem_cons_self)]
theorem put_same : ∀ {ks : List Nat} {acc : List Int}, (∀ k ∈ ks, k < acc.length) → putN acc ks (getN acc ks) = acc
  | [], acc, _ => by rw [putN_nil]
  | k :: ks, acc, hb => by
    show putN acc (k :: ks) (acc.getD k 0 :: getN acc ks) = acc
    have hk := hb k List.mem_cons_self
    have e : acc.set k (acc.getD k 0) = acc := by
      rw [List.getD_eq_getElem?_getD, List.getElem?_eq_getElem hk]
      exact List.set_getElem_self hk
    rw [putN_cons, e]
    exact put_same fun j hj => hb j (List.mem_cons_of_mem _ hj)
theorem put_over : ∀ {ks : List Nat} {zs a b : List Int}, a.length = b.length → ks.length = zs.length → (∀ i, i ∉ ks → a[i]? = b[i]?) → putN a ks zs = putN b ks zs
  | [], zs, a, b, _, _, h => by
    rw [putN_nil, putN_nil]
    exact List.ext_getElem? fun i => h i (by simp)
  | k :: ks, [], a, b, _, hl, _ => by cases hl
  | k :: ks, z :: zs, a, b, hab, hl, h => by
    rw [putN_cons, putN_cons]
    refine put_over (by rw [List.length_set, List.length_set, hab]) (by simpa using hl) fun i hi => ?_
    by_cases e : k = i
    · subst e
      by_cases c : k < a.length
      · rw [List.getElem?_set_self c, List.getElem?_set_self (by omega)]
      · rw [List.getElem?_eq_none (by rw [List.length_set]; omega), List.getElem?_eq_none (by rw [List.length_set]; omega)]
    · rw [List.getElem?_set_ne e, List.getElem?_set_ne e]
      refine h i fun m => ?_
      rcases List.mem_cons.mp m with z | z
      · exact e z.symm
      · exact hi z
/-- the same, or fewer inversions -/
def Dn (a b : List Int) : Prop := b = a ∨ inv b < inv a
theorem Dn.trans {a b c : List Int} (h : Dn a b) (k : Dn b c) : Dn a c := by
  rcases h with rfl | h
  · exact k
  · rcases k with rfl | k
    · exact .inr h
    · exact .inr (Nat.lt_trans k h)
def ins (x : Int) : List Int → List Int
  | [] => [x]
  | y :: s => if x ≤ y then x :: y :: s else y :: ins x s
def isort : List Int → List Int
  | [] => []
  | x :: l => ins x (isort l)
theorem ins_perm (x : Int) : ∀ s : List Int, (ins x s).Perm (x :: s)
  | [] => List.Perm.refl _
  | y :: s => by
    unfold ins
    split
    · exact List.Perm.refl _
    · exact ((ins_perm x s).cons y).trans (List.Perm.swap _ _ _)
theorem isort_perm : ∀ l : List Int, (isort l).Perm l
  | [] => List.Perm.refl _
  | x :: l => (ins_perm x _).trans ((isort_perm l).cons x)
theorem ins_asc {x : Int} : ∀ {s : List Int}, s.Pairwise (· ≤ ·) → (ins x s).Pairwise (· ≤ ·)
  | [], _ => by simp [ins]
  | y :: s, h => by
    rw [List.pairwise_cons] at h
    unfold ins
    split
    · rename_i c
      rw [List.pairwise_cons, List.pairwise_cons]
      refine ⟨fun z hz => ?_, h.1, h.2⟩
      rcases List.mem_cons.mp hz with rfl | m
      · exact c
      · have := h.1 z m
        omega
    · rename_i c
      rw [List.pairwise_cons]
      refine ⟨fun z hz => ?_, ins_asc h.2⟩
      rcases List.mem_cons.mp ((ins_perm x s).mem_iff.mp hz) with rfl | m
      · omega
      · exact h.1 z m
theorem isort_asc : ∀ l : List Int, (isort l).Pairwise (· ≤ ·)
  | [] => List.Pairwise.nil
  | _ :: l => ins_asc (isort_asc l)
theorem isort_eq (l : List Int) : isort l = sortI l := sortI_eq (isort_perm l) (isort_asc l)
theorem ins_dn : ∀ {ks : List Nat} {k : Nat} {acc s : List Int} {x : Int}, (k :: ks).Pairwise (· < ·) → (∀ j ∈ k :: ks, j < acc.length) → getN acc (k :: ks) = x :: s → Dn acc (putN acc (k :: ks) (ins x s))
  | [], k, acc, s, x, _, hb, e => by
    have e' : [acc.getD k 0] = x :: s := e
    cases e'
    exact .inl (put_same (ks := [k]) hb)
  | k' :: ks, k, acc, [], x, _, hb, e => by
    have e' : acc.getD k 0 :: acc.getD k' 0 :: getN acc ks = [x] := e
    cases e'
  | k' :: ks, k, acc, y :: s, x, hp, hb, e => by
    unfold ins
    split
    · rw [← e]
      exact .inl (put_same hb)
    · rename_i c
      have e' : acc.getD k 0 :: acc.getD k' 0 :: getN acc ks = x :: y :: s := e
      injection e' with e1 e2
      injection e2 with e2 e3
      rw [List.pairwise_cons] at hp
      have hk := hb k List.mem_cons_self
      have hk' := hb k' (List.mem_cons_of_mem _ List.mem_cons_self)
      have hlt : k < k' := hp.1 k' List.mem_cons_self
      have g1 : acc[k]? = some x := by
        rw [List.getElem?_eq_getElem hk, ← e1, List.getD_eq_getElem?_getD, List.getElem?_eq_getElem hk]
        rfl
      have g2 : acc[k']? = some y := by
        rw [List.getElem?_eq_getElem hk', ← e2, List.getD_eq_getElem?_getD, List.getElem?_eq_getElem hk']
        rfl
      have sw := inv_swap (x := x) (y := y) (by omega) hlt g1 g2
      have hp2 := List.pairwise_cons.mp hp.2
      have gg : getN ((acc.set k y).set k' x) (k' :: ks) = x :: s := by
        show ((acc.set k y).set k' x).getD k' 0 :: getN ((acc.set k y).set k' x) ks = x :: s
        rw [getD_of (List.getElem?_set_self (by rw [List.length_set]; exact hk'))]
        congr 1
        rw [← e3]
        refine List.map_congr_left fun j hj => ?_
        have j1 : k' < j := hp2.1 j hj
        show ((acc.set k y).set k' x).getD j 0 = acc.getD j 0
        rw [List.getD_eq_getElem?_getD, List.getD_eq_getElem?_getD, List.getElem?_set_ne (by omega), List.getElem?_set_ne (by omega)]
      have ih := ins_dn (acc := (acc.set k y).set k' x) hp.2 (fun j hj => by rw [List.length_set, List.length_set]; exact hb j (List.mem_cons_of_mem _ hj)) gg
      have ep : putN acc (k :: k' :: ks) (y :: ins x s) = putN ((acc.set k y).set k' x) (k' :: ks) (ins x s) := by
        rw [putN_cons]
        cases h : ins x s with
        | nil =>
          have := (ins_perm x s).length_eq
          rw [h] at this
          cases this
        | cons z zs => rw [putN_cons, putN_cons, List.set_set]
      rw [ep]
      exact Dn.trans (.inr sw) ih
theorem sort_dn : ∀ {ks : List Nat} {acc : List Int}, ks.Pairwise (· < ·) → (∀ j ∈ ks, j < acc.length) → Dn acc (putN acc ks (isort (getN acc ks)))
  | [], acc, _, _ => .inl (putN_nil _ _)
  | k :: ks, acc, hp, hb => by
    have hp' := List.pairwise_cons.mp hp
    have hb' : ∀ j ∈ ks, j < acc.length := fun j hj => hb j (List.mem_cons_of_mem _ hj)
    have ih := sort_dn hp'.2 hb'
    have nk : k ∉ ks := fun m => Nat.lt_irrefl _ (hp'.1 k m)
    have nd : ks.Nodup := hp'.2.imp fun h => Nat.ne_of_lt h
    have ll : ks.length = (isort (getN acc ks)).length := by
      rw [(isort_perm _).length_eq]
      unfold getN
      rw [List.length_map]
    have g : getN (putN acc ks (isort (getN acc ks))) (k :: ks) = acc.getD k 0 :: isort (getN acc ks) := by
      show (putN acc ks (isort (getN acc ks))).getD k 0 :: getN (putN acc ks (isort (getN acc ks))) ks = _
      rw [get_put nd ll hb', List.getD_eq_getElem?_getD, putN_off nk, ← List.getD_eq_getElem?_getD]
    have b := ins_dn (acc := putN acc ks (isort (getN acc ks))) hp (fun j hj => by rw [putN_len]; exact hb j hj) g
    have e : putN (putN acc ks (isort (getN acc ks))) (k :: ks) (ins (acc.getD k 0) (isort (getN acc ks))) = putN acc (k :: ks) (ins (acc.getD k 0) (isort (getN acc ks))) := by
      refine put_over (putN_len _ _ _) ?_ fun i hi => putN_off fun m => hi (List.mem_cons_of_mem _ m)
      rw [(ins_perm _ _).length_eq, List.length_cons, List.length_cons, ll]
    rw [e] at b
    exact ih.trans b
end KS
namespace KS
open PySem PySem.Spec PyProof.Rows L2
def up (ks : List Nat) : List Int := ks.map fun (k : Nat) => (k : Int)
theorem putZ_up : ∀ (ks : List Nat) (ys acc : List Int), putZ acc ((up ks).zip ys) = putN acc ks ys
  | [], ys, acc => by rw [putN_nil]; rfl
  | k :: ks, [], acc => by rw [putN_none]; rfl
  | k :: ks, y :: ys, acc => by
    rw [putN_cons, ← putZ_up ks ys]
    rfl
theorem get_up (vs : List Int) (ks : List Nat) : (up ks).map (getI vs) = getN vs ks := by
  unfold up getN
  rw [List.map_map]
  rfl
def srtN (vs acc : List Int) (ks : List Nat) : List Int := putN acc ks (sortI (getN vs ks))
theorem srtL_up (vs acc : List Int) (ks : List Nat) : srtL vs acc (up ks) = srtN vs acc ks := by
  unfold srtL srtN
  rw [putZ_up, get_up]
theorem srtTo_up (vs : List Int) : ∀ (ls : List (List Nat)) (acc : List Int), (ls.map up).foldl (srtL vs) acc = ls.foldl (srtN vs) acc
  | [], _ => rfl
  | ks :: ls, acc => by
    show (ls.map up).foldl (srtL vs) (srtL vs acc (up ks)) = ls.foldl (srtN vs) (srtN vs acc ks)
    rw [srtL_up, srtTo_up vs ls]
def idxsN (b : Bool) (cs : List Cell) (i : Nat) (r : Int) : List Nat := (List.range i).filter fun j => decide ((cs[j]?).map (pick b) = some r)
theorem idxs_up (b : Bool) (cs : List Cell) (i : Nat) (r : Int) : idxs b cs i r = up (idxsN b cs i r) := rfl
def lnsN (b : Bool) (cs : List Cell) : List (List Nat) := ((List.range 8).map fun (r : Nat) => idxsN b cs cs.length (r : Int)).filter fun l => decide (l ≠ [])
theorem filter_up : ∀ ls : List (List Nat), (ls.map up).filter (fun l => decide (l ≠ [])) = (ls.filter fun l => decide (l ≠ [])).map up
  | [] => rfl
  | [] :: ls => filter_up ls
  | (k :: ks) :: ls => by
    show up (k :: ks) :: (ls.map up).filter _ = up (k :: ks) :: (ls.filter _).map up
    rw [filter_up ls]
theorem lns_up (b : Bool) (cs : List Cell) : lnsOf b cs = (lnsN b cs).map up := by
  unfold lnsOf lnsN
  rw [← filter_up, List.map_map]
  rfl
structure Parts (n : Nat) (ls : List (List Nat)) : Prop where
  asc : ∀ ks ∈ ls, ks.Pairwise (· < ·)
  bd : ∀ ks ∈ ls, ∀ k ∈ ks, k < n
  apart : ls.Pairwise fun ks ms => ∀ k ∈ ks, k ∉ ms
theorem srtN_len (vs acc : List Int) (ks : List Nat) : (srtN vs acc ks).length = acc.length := putN_len _ _ _
theorem getN_congr {a b : List Int} {ks : List Nat} (h : ∀ k ∈ ks, a[k]? = b[k]?) : getN a ks = getN b ks := by
  refine List.map_congr_left fun k hk => ?_
  show a.getD k 0 = b.getD k 0
  rw [List.getD_eq_getElem?_getD, List.getD_eq_getElem?_getD, h k hk]
theorem fold_off {vs : List Int} {i : Nat} : ∀ {ls : List (List Nat)} {acc : List Int}, (∀ ks ∈ ls, i ∉ ks) → (ls.foldl (srtN vs) acc)[i]? = acc[i]?
  | [], _, _ => rfl
  | ks :: ls, acc, h => by
    show (ls.foldl (srtN vs) (srtN vs acc ks))[i]? = _
    rw [fold_off fun ms hm => h ms (List.mem_cons_of_mem _ hm)]
    exact putN_off (h ks List.mem_cons_self)
theorem fold_dn {vs : List Int} : ∀ {ls : List (List Nat)} {acc : List Int}, Parts acc.length ls → (∀ ks ∈ ls, ∀ k ∈ ks, acc[k]? = vs[k]?) → Dn acc (ls.foldl (srtN vs) acc)
  | [], acc, _, _ => .inl rfl
  | ks :: ls, acc, P, h => by
    have pc := List.pairwise_cons.mp P.apart
    have e : getN vs ks = getN acc ks := getN_congr fun k hk => (h ks List.mem_cons_self k hk).symm
    have d : Dn acc (srtN vs acc ks) := by
      unfold srtN
      rw [e, ← isort_eq]
      exact sort_dn (P.asc ks List.mem_cons_self) (P.bd ks List.mem_cons_self)
    refine d.trans (fold_dn (ls := ls) ⟨fun ms hm => P.asc ms (List.mem_cons_of_mem _ hm), fun ms hm k hk => ?_, pc.2⟩ fun ms hm k hk => ?_)
    · rw [srtN_len]
      exact P.bd ms (List.mem_cons_of_mem _ hm) k hk
    · have nk : k ∉ ks := fun m => pc.1 ms hm k m hk
      rw [show (srtN vs acc ks)[k]? = acc[k]? from putN_off nk]
      exact h ms (List.mem_cons_of_mem _ hm) k hk
theorem fold_get {vs : List Int} : ∀ {ls : List (List Nat)} {acc : List Int}, Parts acc.length ls → ∀ ks ∈ ls, getN (ls.foldl (srtN vs) acc) ks = sortI (getN vs ks)
  | [], _, _, _, m => by cases m
  | ms :: ls, acc, P, ks, m => by
    have pc := List.pairwise_cons.mp P.apart
    have P' : Parts (srtN vs acc ms).length ls := ⟨fun z hm => P.asc z (List.mem_cons_of_mem _ hm), fun z hm k hk => by rw [srtN_len]; exact P.bd z (List.mem_cons_of_mem _ hm) k hk, pc.2⟩
    rcases List.mem_cons.mp m with rfl | m
    · show getN (ls.foldl (srtN vs) (srtN vs acc ks)) ks = _
      rw [getN_congr (b := srtN vs acc ks) fun k hk => fold_off fun z hz => pc.1 z hz k hk]
      refine get_put ((P.asc ks List.mem_cons_self).imp fun h => Nat.ne_of_lt h) ?_ (P.bd ks List.mem_cons_self)
      rw [sortI_len]
      unfold getN
      rw [List.length_map]
    · exact fold_get P' ks m
theorem fold_fix {vs : List Int} : ∀ {ls : List (List Nat)}, (∀ ks ∈ ls, ∀ k ∈ ks, k < vs.length) → (∀ ks ∈ ls, getN vs ks = sortI (getN vs ks)) → ls.foldl (srtN vs) vs = vs
  | [], _, _ => rfl
  | ks :: ls, hb, h => by
    have e : srtN vs vs ks = vs := by
      unfold srtN
      rw [← h ks List.mem_cons_self]
      exact put_same (hb ks List.mem_cons_self)
    show ls.foldl (srtN vs) (srtN vs vs ks) = vs
    rw [e]
    exact fold_fix (fun z hz => hb z (List.mem_cons_of_mem _ hz)) fun z hz => h z (List.mem_cons_of_mem _ hz)
theorem idxsN_mem {b : Bool} {cs : List Cell} {i k : Nat} {r : Int} (h : k ∈ idxsN b cs i r) : k < i ∧ (cs[k]?).map (pick b) = some r := by
  have := List.mem_filter.mp h
  exact ⟨List.mem_range.mp this.1, of_decide_eq_true this.2⟩
theorem lns_parts (b : Bool) (cs : List Cell) : Parts cs.length (lnsN b cs) := by
  refine ⟨fun ks h => ?_, fun ks h k hk => ?_, ?_⟩
  · obtain ⟨r, _, rfl⟩ := List.mem_map.mp (List.mem_filter.mp h).1
    exact List.pairwise_lt_range.filter _
  · obtain ⟨r, _, rfl⟩ := List.mem_map.mp (List.mem_filter.mp h).1
    exact (idxsN_mem hk).1
  · refine List.Pairwise.filter _ (List.pairwise_map.2 (List.pairwise_lt_range.imp ?_))
    intro r q hrq k h1 h2
    have a := (idxsN_mem h1).2
    rw [(idxsN_mem h2).2] at a
    injection a with a
    omega
theorem srt_up (b : Bool) (cs : List Cell) (vs : List Int) : srt b cs vs = (lnsN b cs).foldl (srtN vs) vs := by
  unfold srt srtTo
  rw [lns_up, srtTo_up]
/-- a sort leaves all as it is, or takes inversions away -/
theorem srt_dn {b : Bool} {cs : List Cell} {vs : List Int} (h : vs.length = cs.length) : Dn vs (srt b cs vs) := by
  rw [srt_up]
  exact fold_dn (by rw [h]; exact lns_parts b cs) fun _ _ _ _ => rfl
theorem upL_up (vs : List Int) (ks : List Nat) : upL vs (up ks) = decide (getN vs ks = sortI (getN vs ks)) := by
  unfold upL
  rw [get_up]
theorem rises_iff {b : Bool} {cs : List Cell} {vs : List Int} : rises b cs vs = true ↔ ∀ ks ∈ lnsN b cs, getN vs ks = sortI (getN vs ks) := by
  unfold rises
  rw [lns_up, List.all_map, List.all_eq_true]
  constructor
  · intro h ks hk
    have := h ks hk
    exact of_decide_eq_true ((upL_up vs ks).symm.trans this)
  · intro h ks hk
    exact (upL_up vs ks).trans (decide_eq_true (h ks hk))
theorem sortI_fix (l : List Int) : sortI (sortI l) = sortI l := (sortI_eq (List.Perm.refl _) (sortI_asc l)).symm
/-- behind a sort the lines of the kind ascend -/
theorem srt_rises {b : Bool} {cs : List Cell} {vs : List Int} (h : vs.length = cs.length) : rises b cs (srt b cs vs) = true := by
  rw [rises_iff]
  intro ks hk
  have g : getN (srt b cs vs) ks = sortI (getN vs ks) := by
    rw [srt_up]
    exact fold_get (by rw [h]; exact lns_parts b cs) ks hk
  rw [g, sortI_fix]
/-- lines that ascend are left alone -/
theorem rises_fix {b : Bool} {cs : List Cell} {vs : List Int} (h : vs.length = cs.length) (r : rises b cs vs = true) : srt b cs vs = vs := by
  rw [srt_up]
  exact fold_fix (fun ks hk k hkk => by rw [h]; exact (lns_parts b cs).bd ks hk k hkk) (rises_iff.mp r)
/-- lines that do not ascend lose inversions -/
theorem srt_lt {b : Bool} {cs : List Cell} {vs : List Int} (h : vs.length = cs.length) (r : rises b cs vs = false) : inv (srt b cs vs) < inv vs := by
  rcases srt_dn (b := b) h with e | e
  · have := srt_rises (b := b) h
    rw [e, r] at this
    cases this
  · exact e
end KS
namespace KS
open PySem PySem.Spec PyProof.Rows L2
/-- kinds in turns, this one first -/
def turns : Bool → Nat → List Bool
  | _, 0 => []
  | b, n + 1 => b :: turns (!b) n
def kindAt (b : Bool) (n : Nat) : Bool := if n % 2 = 0 then b else !b
theorem turns_succ : ∀ (b : Bool) (n : Nat), turns b (n + 1) = turns b n ++ [kindAt b n]
  | b, 0 => rfl
  | b, n + 1 => by
    show b :: turns (!b) (n + 1) = b :: (turns (!b) n ++ [kindAt b (n + 1)])
    rw [turns_succ (!b) n]
    have e : kindAt (!b) n = kindAt b (n + 1) := by
      unfold kindAt
      rcases Nat.mod_two_eq_zero_or_one n with h | h
      · rw [if_pos h, if_neg (by omega)]
      · rw [if_neg (by omega), if_pos (by omega)]
        simp
    rw [e]
theorem kindAt_succ (b : Bool) (n : Nat) : kindAt b (n + 1) = !kindAt b n := by
  unfold kindAt
  rcases Nat.mod_two_eq_zero_or_one n with h | h
  · rw [if_pos h, if_neg (show ¬ (n + 1) % 2 = 0 by omega)]
  · rw [if_pos (show (n + 1) % 2 = 0 by omega), if_neg (show ¬ n % 2 = 0 by omega)]
    simp
theorem turns_len : ∀ (b : Bool) (n : Nat), (turns b n).length = n
  | _, 0 => rfl
  | b, n + 1 => by
    show (turns (!b) n).length + 1 = n + 1
    rw [turns_len (!b) n]
def settled (cs : List Cell) (vs : List Int) : Bool := rises false cs vs && rises true cs vs
def stat (cs : List Cell) (b : Bool) (vs : List Int) (n : Nat) : List Int := aft cs (turns b n) vs
theorem stat_succ (cs : List Cell) (b : Bool) (vs : List Int) (n : Nat) : stat cs b vs (n + 1) = srt (kindAt b n) cs (stat cs b vs n) := by
  unfold stat
  rw [turns_succ, aft_more]
theorem stat_len (cs : List Cell) (b : Bool) (vs : List Int) (n : Nat) : (stat cs b vs n).length = vs.length := aft_len _ _ _
/-- the least number of sorts in turns behind which both kinds ascend, and the values then -/
structure RestIs (cs : List Cell) (b : Bool) (vs : List Int) (n : Nat) : Prop where
  end_ : settled cs (stat cs b vs n) = true
  least : ∀ m, m < n → settled cs (stat cs b vs m) = false
theorem RestIs.uniq {cs : List Cell} {b : Bool} {vs : List Int} {n m : Nat} (h : RestIs cs b vs n) (k : RestIs cs b vs m) : n = m := by
  rcases Nat.lt_trichotomy n m with c | c | c
  · have := k.least n c
    rw [h.end_] at this
    cases this
  · exact c
  · have := h.least m c
    rw [k.end_] at this
    cases this
theorem settled_not {cs : List Cell} {vs : List Int} {k : Bool} (h : settled cs vs = false) (r : rises k cs vs = true) : rises (!k) cs vs = false := by
  unfold settled at h
  cases k
  · rw [r] at h
    simpa using h
  · rw [r] at h
    simpa using h
/-- a variant of the turns -/
def fuel (cs : List Cell) (k : Bool) (vs : List Int) : Nat := 2 * inv vs + if rises k cs vs = true then 1 else 0
theorem fuel_lt {cs : List Cell} {k : Bool} {vs : List Int} (hl : vs.length = cs.length) (h : settled cs vs = false) : fuel cs (!k) (srt k cs vs) < fuel cs k vs := by
  unfold fuel
  cases r : rises k cs vs with
  | true =>
    rw [rises_fix hl r, if_pos rfl, if_neg (by rw [settled_not h r]; decide)]
    omega
  | false =>
    have := srt_lt hl r
    rw [if_neg (show ¬ (false = true) by decide)]
    split <;> omega
/-- at most 277 sorts settle any table of 24 cells -/
theorem stat_inv {cs : List Cell} {b : Bool} {vs : List Int} {n : Nat} (hl : vs.length = cs.length) (h : RestIs cs b vs n) : ∀ m, m + 1 ≤ n → inv (stat cs b vs (m + 1)) + m ≤ inv (stat cs b vs 1)
  | 0, _ => Nat.le_refl _
  | m + 1, hm => by
    have ih := stat_inv hl h m (by omega)
    have ns := h.least (m + 1) (by omega)
    have ln : (stat cs b vs m).length = cs.length := by rw [stat_len, hl]
    have r : rises (kindAt b m) cs (stat cs b vs (m + 1)) = true := by
      rw [stat_succ]
      exact srt_rises ln
    have r2 := settled_not ns r
    rw [← kindAt_succ] at r2
    have lt := srt_lt (by rw [stat_len, hl]) r2
    rw [← stat_succ] at lt
    omega
theorem rest_le {cs : List Cell} {b : Bool} {vs : List Int} {n : Nat} (hl : vs.length = cs.length) (hc : cs.length ≤ 24) (h : RestIs cs b vs n) : n ≤ 277 := by
  cases n with
  | zero => omega
  | succ m =>
    have i := stat_inv hl h m (Nat.le_refl _)
    have le := inv_le (stat cs b vs 1)
    rw [stat_len, hl] at le
    have : cs.length * (cs.length - 1) ≤ 24 * 23 := Nat.mul_le_mul hc (by omega)
    omega
end KS
namespace KS
open PySem PySem.Spec PyProof.Rows L2
/-! ### a sort only moves the values -/
def one (x y : Int) : Nat := if x = y then 1 else 0
theorem count_one (x a : Int) (l : List Int) : (a :: l).count x = l.count x + one a x := by
  rw [List.count_cons]
  unfold one
  by_cases e : a = x
  · rw [if_pos e, if_pos (by simpa using e)]
  · rw [if_neg e, if_neg (by simpa using e)]
theorem count_set (x y : Int) : ∀ {l : List Int} {k : Nat} {v : Int}, l[k]? = some v → (l.set k y).count x + one v x = l.count x + one y x
  | [], k, v, h => by simp at h
  | a :: l, 0, v, h => by
    simp at h
    subst h
    show (y :: l).count x + one a x = (a :: l).count x + one y x
    rw [count_one, count_one]
    omega
  | a :: l, k + 1, v, h => by
    have h' : l[k]? = some v := by simpa using h
    have ih := count_set x y h'
    show (a :: l.set k y).count x + one v x = (a :: l).count x + one y x
    rw [count_one, count_one]
    omega
theorem getN_set {acc : List Int} {k : Nat} {y : Int} {ks : List Nat} (h : k ∉ ks) : getN (acc.set k y) ks = getN acc ks := by
  unfold getN
  refine List.map_congr_left fun j hj => ?_
  have : k ≠ j := fun e => h (e ▸ hj)
  rw [List.getD_eq_getElem?_getD, List.getD_eq_getElem?_getD, List.getElem?_set_ne this]
theorem put_count (x : Int) : ∀ {ks : List Nat} {ys acc : List Int}, ks.Nodup → ks.length = ys.length → (∀ k ∈ ks, k < acc.length) → (putN acc ks ys).count x + (getN acc ks).count x = acc.count x + ys.count x
  | [], [], acc, _, _, _ => by
    rw [putN_nil]
    rfl
  | [], _ :: _, acc, _, h, _ => by simp at h
  | _ :: _, [], acc, _, h, _ => by simp at h
  | k :: ks, y :: ys, acc, nd, hl, hb => by
    rw [List.nodup_cons] at nd
    have hk := hb k List.mem_cons_self
    obtain ⟨v, hv⟩ : ∃ v, acc[k]? = some v := ⟨acc[k], List.getElem?_eq_getElem hk⟩
    have ih := put_count x (ks := ks) (ys := ys) (acc := acc.set k y) nd.2 (by simpa using hl) (fun j hj => by
      rw [List.length_set]
      exact hb j (List.mem_cons_of_mem _ hj))
    rw [getN_set nd.1] at ih
    have cs := count_set x y hv
    rw [putN_cons]
    have eg : getN acc (k :: ks) = v :: getN acc ks := by
      unfold getN
      rw [List.map_cons, getD_of hv]
    rw [eg, count_one, count_one]
    omega
theorem put_perm {ks : List Nat} {ys acc : List Int} (nd : ks.Nodup) (hb : ∀ k ∈ ks, k < acc.length) (p : ys.Perm (getN acc ks)) : (putN acc ks ys).Perm acc := by
  rw [List.perm_iff_count]
  intro x
  have hl : ks.length = ys.length := by
    rw [p.length_eq]
    unfold getN
    rw [List.length_map]
  have := put_count x (ys := ys) nd hl hb
  rw [p.count_eq] at this
  omega
theorem asc_nodup {ks : List Nat} (h : ks.Pairwise (· < ·)) : ks.Nodup := h.imp fun q e => by omega
theorem fold_perm {vs : List Int} : ∀ {ls : List (List Nat)} {acc : List Int}, Parts acc.length ls → (∀ ks ∈ ls, ∀ k ∈ ks, acc[k]? = vs[k]?) → (ls.foldl (srtN vs) acc).Perm acc
  | [], acc, _, _ => List.Perm.refl _
  | ks :: ls, acc, P, h => by
    have pc := List.pairwise_cons.mp P.apart
    have e : getN vs ks = getN acc ks := getN_congr fun k hk => (h ks List.mem_cons_self k hk).symm
    have d : (srtN vs acc ks).Perm acc := by
      unfold srtN
      rw [e]
      exact put_perm (asc_nodup (P.asc ks List.mem_cons_self)) (P.bd ks List.mem_cons_self) (sortI_perm _)
    refine List.Perm.trans (fold_perm (ls := ls) (acc := srtN vs acc ks) ⟨fun ms hm => P.asc ms (List.mem_cons_of_mem _ hm), fun ms hm k hk => ?_, pc.2⟩ fun ms hm k hk => ?_) d
    · rw [srtN_len]
      exact P.bd ms (List.mem_cons_of_mem _ hm) k hk
    · have nk : k ∉ ks := fun m => pc.1 ms hm k m hk
      rw [show (srtN vs acc ks)[k]? = acc[k]? from putN_off nk]
      exact h ms (List.mem_cons_of_mem _ hm) k hk
theorem srt_perm {b : Bool} {cs : List Cell} {vs : List Int} (h : vs.length = cs.length) : (srt b cs vs).Perm vs := by
  rw [srt_up]
  exact fold_perm (by rw [h]; exact lns_parts b cs) fun _ _ _ _ => rfl
theorem srt9 {b : Bool} {cs : List Cell} {vs : List Int} (h : Vals9 cs.length vs) : Vals9 cs.length (srt b cs vs) := h.perm (srt_perm h.len).symm
theorem aft9 {cs : List Cell} : ∀ (w : List Bool) {vs : List Int}, Vals9 cs.length vs → Vals9 cs.length (aft cs w vs)
  | [], _, h => h
  | b :: w, _, h => aft9 w (srt9 (b := b) h)
theorem aft_perm {cs : List Cell} : ∀ (w : List Bool) {vs : List Int}, vs.length = cs.length → (aft cs w vs).Perm vs
  | [], _, _ => List.Perm.refl _
  | b :: w, vs, h => (aft_perm w (by rw [srt_len]; exact h)).trans (srt_perm (b := b) h)
theorem fix_rises {b : Bool} {cs : List Cell} {vs : List Int} (h : vs.length = cs.length) : decide (srt b cs vs = vs) = rises b cs vs := by
  cases r : rises b cs vs with
  | true => exact decide_eq_true (rises_fix h r)
  | false =>
    refine decide_eq_false fun e => ?_
    have := srt_rises (b := b) h
    rw [e, r] at this
    cases this
def spIsSorted (K : PySem.W.Frag) : Sp := fun xs H Q _ => ∃ (a t : Addr) (b : Bool) (cs : List Cell) (vs : List Int), xs = [.ref a, .ref t, .str (if b = true then "C" else "R")] ∧ PlanAt K H a cs ∧ Good cs ∧ cs.length ≤ 24 ∧
  SqT K H t (vs.map V.int) ∧ Vals9 cs.length vs ∧ ∀ H', Same H H' → Q (.bl (rises b cs vs)) H'
def spSettled (K : PySem.W.Frag) : Sp := fun xs H Q _ => ∃ (a t : Addr) (cs : List Cell) (vs : List Int), xs = [.ref a, .ref t] ∧ PlanAt K H a cs ∧ Good cs ∧ cs.length ≤ 24 ∧
  SqT K H t (vs.map V.int) ∧ Vals9 cs.length vs ∧ ∀ H', Same H H' → Q (.bl (settled cs vs)) H'
def spOther : Sp := fun xs H Q _ => ∃ b : Bool, xs = [.str (if b = true then "C" else "R")] ∧ Q (.str (if (!b) = true then "C" else "R")) H
def spRestP (K : PySem.W.Frag) : Sp := fun xs H Q _ => ∃ (a t : Addr) (b : Bool) (cs : List Cell) (vs : List Int), xs = [.ref a, .ref t, .str (if b = true then "C" else "R")] ∧ PlanAt K H a cs ∧ Good cs ∧ cs.length ≤ 24 ∧
  SqT K H t (vs.map V.int) ∧ Vals9 cs.length vs ∧ ∀ H' r u n, Same H H' → SqT K H' r [.int (n : Nat), .ref u] → SqT K H' u ((stat cs b vs n).map V.int) → RestIs cs b vs n → Q (.ref r) H'
end KS
namespace KS
open PySem PySem.Spec PyProof.Rows L2
/-! ### a word, so many times -/
theorem rep_words (w : List Bool) : ∀ (n : Nat) (a : Array Nat), (List.replicate n (w.map ltr).toArray).foldl (· ++ ·) a = a ++ (((List.replicate n w).flatten).map ltr).toArray
  | 0, a => by simp
  | n + 1, a => by
    rw [List.replicate_succ, List.foldl_cons, rep_words w n, List.replicate_succ, List.flatten_cons, List.map_append]
    apply Array.ext'
    simp
def rRepW : R2 := fun x y H Q => ∃ (wd : List Bool) (n : Nat), x = .str (wS wd) ∧ y = .int n ∧ 2 ≤ n ∧ n ≤ 400 ∧ 1 ≤ wd.length ∧ wd.length ≤ 400 ∧ Q (.str (wS (List.replicate n wd).flatten)) H
theorem op_repW {X : Cx} : OpR X (binaryOp .Mult) rRepW := by
  intro pins s σ H x y v u Q I rx ry h
  obtain ⟨wd, n, rfl, rfl, n0, n1, w0, w1, q⟩ := h
  obtain ⟨t, rfl⟩ := rx
  obtain ⟨t', rfl⟩ := ry
  have e1 : ¬ ((n : Int) < 1) := by omega
  have hl := wS_len wd
  have hm : wd.length * n ≤ 160000 := Nat.mul_le_mul w1 n1
  refine P.mul_str ?_ ?_ ?_ ?_
  · have h1 : ¬ (n : Int) < -(2 ^ 63 : Int) := by omega
    have h2 : ¬ (n : Int) ≥ 2 ^ 63 := by omega
    rw [decide_eq_false h1, decide_eq_false h2]
    rfl
  · intro _ _
    rw [hl]
    have : (wd.length : Int) ≤ (2 ^ 63 - 1) / (n : Int) := (Int.le_ediv_iff_mul_le (by omega)).mpr (by
      have : ((wd.length * n : Nat) : Int) ≤ 160000 := by omega
      rw [Int.natCast_mul] at this
      omega)
    omega
  · intro _ _
    refine decide_eq_false ?_
    rw [hl, sizeLine_eq, Int.toNat_natCast]
    omega
  · rw [if_neg e1]
    have z : (((n : Int) == 1) || ((wS wd).length == 0)) = false := by
      have a : ((n : Int) == 1) = false := by
        rw [beq_eq_false_iff_ne]
        omega
      have b : ((wS wd).length == 0) = false := by
        rw [hl, beq_eq_false_iff_ne]
        omega
      rw [a, b]
      rfl
    rw [if_neg (by rw [z]; decide)]
    have ez : (⟨(List.replicate (n : Int).toNat (wS wd).cps).foldl (· ++ ·) #[]⟩ : Str) = wS (List.replicate n wd).flatten := by
      rw [Int.toNat_natCast]
      show (⟨(List.replicate n (wd.map ltr).toArray).foldl (· ++ ·) #[]⟩ : Str) = _
      rw [rep_words]
      unfold wS
      simp
    rw [ez]
    refine ⟨?_, .str (wS (List.replicate n wd).flatten), H, I.tok _, ⟨_, rfl⟩, q⟩
    rw [wS_len, List.length_flatten, List.map_replicate, List.sum_replicate_nat, sizeLine_eq, Nat.mul_comm]
    omega
/-! ### words one after the other -/
theorem aft_app (cs : List Cell) (w v : List Bool) (vs : List Int) : aft cs (w ++ v) vs = aft cs v (aft cs w vs) := by
  unfold aft
  rw [List.foldl_append]
theorem srt_twice {b : Bool} {cs : List Cell} {vs : List Int} (h : vs.length = cs.length) : srt b cs (srt b cs vs) = srt b cs vs :=
  rises_fix (by rw [srt_len]; exact h) (srt_rises h)
theorem settled_both {cs : List Cell} {vs : List Int} (h : settled cs vs = true) (b : Bool) : rises b cs vs = true := by
  unfold settled at h
  rw [Bool.and_eq_true] at h
  cases b
  · exact h.1
  · exact h.2
theorem aft_settled {cs : List Cell} {vs : List Int} (hl : vs.length = cs.length) (h : settled cs vs = true) : ∀ w : List Bool, aft cs w vs = vs
  | [] => rfl
  | b :: w => by
    show aft cs w (srt b cs vs) = vs
    rw [rises_fix hl (settled_both h b)]
    exact aft_settled hl h w
theorem turns_two (b : Bool) : ∀ m : Nat, (List.replicate m [b, !b]).flatten = turns b (2 * m)
  | 0 => rfl
  | m + 1 => by
    rw [List.replicate_succ, List.flatten_cons, turns_two b m]
    show b :: (!b) :: turns b (2 * m) = turns b (2 * m + 2)
    show _ = b :: (!b) :: turns (!(!b)) (2 * m)
    rw [Bool.not_not]
theorem turns_take : ∀ (n m : Nat) (b : Bool), n ≤ m → (turns b m).take n = turns b n
  | 0, _, _, _ => by simp [turns]
  | n + 1, 0, _, h => by omega
  | n + 1, m + 1, b, h => by
    show (b :: turns (!b) m).take (n + 1) = b :: turns (!b) n
    rw [List.take_succ_cons, turns_take n m (!b) (by omega)]
theorem ne_line {l m : List Int} : (!PyData.eqv (.tuple (l.map PyData.int)) (.tuple (m.map PyData.int))) = !decide (l = m) := by rw [ints_eqvT]
end KS
namespace KS
open PySem PySem.Spec PyProof.Rows L2
/-! ### sorted(t), t a tuple of whole numbers -/
def rSortedTI (K : PySem.W.Frag) : List V → Hp → VK → Prop := fun vs H Q => ∃ (a : Addr) (ns : List Int), vs = [V.ref a] ∧ SqT K H a (ns.map V.int) ∧
  ∀ (ns' : List Int) (p : Addr) (H' : Hp), ns'.Perm ns → ns'.Pairwise (· ≤ ·) → H p = none → H' = upd H p (.lst (ns'.map V.int)) → Q (.ref p) H'
theorem cr_sortedTI {X : Cx} : CallR X (.builtin "sorted") (rSortedTI X.K) := by
  intro pins s σ H vs us Q I r h
  obtain ⟨a, ns, rfl, ht, q⟩ := h
  obtain ⟨its, rv, ⟨o, ho, hc, n, hd⟩, hz⟩ := I.tuple ht
  rw [Vals.ref1 r]
  have hi := rv.ints
  have hl := rv.length
  have hzz : its.length ≤ sizeLine := by rw [← hl]; exact hz
  refine Calls.call_function_entry kind_sorted plain_sorted entry_sorted (args_sorted1 _) ?_
  unfold Builtin.«sorted»
  refine wpAny_bind (m := checkCount "sorted" 1 1 _) (wpAny_pure ?_)
  refine wpAny_bind (wpAny_collect_seq a (T := "tuple") (.inr rfl) ho hc hd (fun h1 hk => ?_) (by rw [List.size_toArray]; exact hzz))
  rw [List.toList_toArray]
  have I1 : Inv X pins σ H { s with heap := h1 } := I.kept (t' := s.toks) hk
  refine wpAny_bind (wpAny_newList ?_ hzz)
  have hoL : (h1.push (seqObj "list" its.toArray 0)).get? h1.objs.size = some (seqObj "list" its.toArray 0) := Heap.get?_push_size _ rfl
  show wpAny _ _ _ _ _ { s with heap := h1.push (seqObj "list" its.toArray 0) }
  refine wpAny_bind (wpAny_holding (wpAny_call_entry slot_list_sort ⟨_, hoL, rfl⟩ entry_list_sort (SrtO.list_sort_ord (s := { s with heap := h1.push (seqObj "list" its.toArray 0) }) SrtO.swo_int hoL hzz (fun h2 => SrtO.ints_sortable hi h2) fun out g1 g2 => ⟨_, rfl, ?_⟩) (args_list_sort _)))
  obtain ⟨k1, k2, k3⟩ := SrtO.ints_out hi g1 g2
  obtain ⟨ep, he⟩ := sortedHeap_at (vs := its) (out := out.toArray) hoL
  have hlen : ((out.map SrtO.iv).map V.int).length ≤ sizeLine := by
    rw [List.length_map, k2.length_eq]
    rw [List.length_map] at hz
    exact hz
  refine wpAny_pure ⟨_, rfl, .ref h1.objs.size, upd H h1.objs.size (.lst ((out.map SrtO.iv).map V.int)), I1.laid (t' := s.toks) (fun b u e => ?_) (Nat.le_refl _) ⟨hlen, out, ep, vals_of_ints k1, he⟩, rfl, q _ _ _ k2 k3 (I1.hok.fresh (Nat.le_refl _)) rfl⟩
  have hb : b < h1.objs.size := Heap.lt_size e
  rw [sortedHeap_old (Nat.ne_of_lt hb) (by rw [size_push']; exact Nat.lt_succ_of_lt hb)]
  exact Heap.get?_push_of_some _ e
/-! ### ranks -/
def rkI (vs : List Int) (v : Int) : Int := 1 + ((vs.filter fun u => decide (u < v)).length : Int)
def rks (vs : List Int) : List Int := vs.map (rkI vs)
theorem rkI_perm {vs us : List Int} (p : vs.Perm us) : rkI vs = rkI us := by
  funext v
  unfold rkI
  rw [(p.filter _).length_eq]
theorem rkI_mono {vs : List Int} {v w : Int} (h : v ≤ w) : rkI vs v ≤ rkI vs w := by
  unfold rkI
  have : (vs.filter fun u => decide (u < v)).length ≤ (vs.filter fun u => decide (u < w)).length := by
    rw [← List.countP_eq_length_filter, ← List.countP_eq_length_filter]
    exact List.countP_mono_left fun u _ hu => decide_eq_true (by have := of_decide_eq_true hu; omega)
  omega
theorem filter_lt_len : ∀ {vs : List Int} {v w : Int}, v < w → v ∈ vs → (vs.filter fun u => decide (u < v)).length < (vs.filter fun u => decide (u < w)).length
  | [], _, _, _, m => by cases m
  | u :: us, v, w, h, m => by
    have le : (us.filter fun u => decide (u < v)).length ≤ (us.filter fun u => decide (u < w)).length := by
      rw [← List.countP_eq_length_filter, ← List.countP_eq_length_filter]
      exact List.countP_mono_left fun u _ hu => decide_eq_true (by have := of_decide_eq_true hu; omega)
    by_cases e : u = v
    · subst e
      rw [List.filter_cons_of_neg (by simp), List.filter_cons_of_pos (by simpa using h), List.length_cons]
      omega
    · have m' : v ∈ us := by
        rcases List.mem_cons.mp m with z | z
        · exact absurd z.symm e
        · exact z
      have ih := filter_lt_len h m'
      by_cases c1 : u < v
      · rw [List.filter_cons_of_pos (by simpa using c1), List.filter_cons_of_pos (by simp; omega), List.length_cons, List.length_cons]
        omega
      · rw [List.filter_cons_of_neg (by simpa using c1)]
        by_cases c2 : u < w
        · rw [List.filter_cons_of_pos (by simpa using c2), List.length_cons]
          omega
        · rw [List.filter_cons_of_neg (by simpa using c2)]
          exact ih
theorem rkI_lt {vs : List Int} {v w : Int} (h : v < w) (m : v ∈ vs) : rkI vs v < rkI vs w := by
  have := filter_lt_len h m
  unfold rkI
  omega
theorem rkI_inj {vs : List Int} {v w : Int} (hv : v ∈ vs) (hw : w ∈ vs) (e : rkI vs v = rkI vs w) : v = w := by
  rcases Int.lt_trichotomy v w with c | c | c
  · have := rkI_lt c hv
    omega
  · exact c
  · have := rkI_lt c hw
    omega
theorem rkI_bd {vs : List Int} {v : Int} (hv : v ∈ vs) : 1 ≤ rkI vs v ∧ rkI vs v ≤ (vs.length : Int) := by
  have a : (vs.filter fun u => decide (u < v)).length < vs.length := by
    have le := List.length_filter_le (fun u => decide (u < v)) vs
    rcases Nat.lt_or_ge (vs.filter fun u => decide (u < v)).length vs.length with c | c
    · exact c
    · have e : (vs.filter fun u => decide (u < v)).length = vs.length := by omega
      have := List.length_filter_eq_length_iff.mp e v hv
      simp at this
  unfold rkI
  omega
theorem rks9 {n : Nat} {vs : List Int} (h : Vals9 n vs) (hn : n ≤ 24) : Vals9 n (rks vs) := by
  refine ⟨by unfold rks; rw [List.length_map, h.len], ?_, fun v hv => ?_⟩
  · unfold rks
    rw [List.nodup_iff_pairwise_ne, List.pairwise_map]
    have nd := List.nodup_iff_pairwise_ne.mp h.nd
    refine nd.imp_of_mem fun {a b} ha hb q e => q (rkI_inj ha hb e)
  · obtain ⟨u, hu, rfl⟩ := List.mem_map.mp hv
    have := rkI_bd hu
    have := h.len
    omega
/-! ### a rising map goes through a sort -/
theorem sortI_map {f : Int → Int} (hf : ∀ a b, a ≤ b → f a ≤ f b) (l : List Int) : sortI (l.map f) = (sortI l).map f := by
  refine (sortI_eq ((sortI_perm l).map f) ?_).symm
  rw [List.pairwise_map]
  exact (sortI_asc l).imp fun h => hf _ _ h
theorem putZ_map (f : Int → Int) : ∀ (zs : List (Int × Int)) (acc : List Int), (putZ acc zs).map f = putZ (acc.map f) (zs.map fun z => (z.1, f z.2))
  | [], _ => rfl
  | z :: zs, acc => by
    show (putZ (acc.set z.1.toNat z.2) zs).map f = putZ ((acc.map f).set z.1.toNat (f z.2)) (zs.map fun z => (z.1, f z.2))
    rw [putZ_map f zs, List.map_set]
theorem zip_map_r (f : Int → Int) : ∀ (l m : List Int), l.zip (m.map f) = (l.zip m).map fun z => (z.1, f z.2)
  | [], _ => by simp
  | _ :: _, [] => by simp
  | a :: l, b :: m => by
    simp only [List.map_cons, List.zip_cons_cons]
    rw [zip_map_r f l m]
theorem getI_map {f : Int → Int} {vs : List Int} {k : Int} (h : ∃ j : Nat, k = (j : Int) ∧ j < vs.length) : getI (vs.map f) k = f (getI vs k) := by
  obtain ⟨j, rfl, hj⟩ := h
  unfold getI
  rw [List.getD_eq_getElem?_getD, List.getD_eq_getElem?_getD, List.getElem?_map, Int.toNat_natCast, List.getElem?_eq_getElem hj]
  rfl
theorem srtL_map {f : Int → Int} (hf : ∀ a b, a ≤ b → f a ≤ f b) {vs acc l : List Int} (hl : ∀ k ∈ l, ∃ j : Nat, k = (j : Int) ∧ j < vs.length) : srtL (vs.map f) (acc.map f) l = (srtL vs acc l).map f := by
  unfold srtL
  have e : l.map (getI (vs.map f)) = (l.map (getI vs)).map f := by
    rw [List.map_map]
    exact List.map_congr_left fun k hk => getI_map (hl k hk)
  rw [e, sortI_map hf, zip_map_r, putZ_map]
theorem srtTo_map {f : Int → Int} (hf : ∀ a b, a ≤ b → f a ≤ f b) {vs : List Int} : ∀ {ls : List (List Int)} {acc : List Int}, (∀ l ∈ ls, ∀ k ∈ l, ∃ j : Nat, k = (j : Int) ∧ j < vs.length) →
    ls.foldl (srtL (vs.map f)) (acc.map f) = (ls.foldl (srtL vs) acc).map f
  | [], _, _ => rfl
  | l :: ls, acc, h => by
    show ls.foldl (srtL (vs.map f)) (srtL (vs.map f) (acc.map f) l) = _
    rw [srtL_map hf (h l List.mem_cons_self)]
    exact srtTo_map hf fun m hm => h m (List.mem_cons_of_mem _ hm)
theorem srt_map {f : Int → Int} (hf : ∀ a b, a ≤ b → f a ≤ f b) {b : Bool} {cs : List Cell} {vs : List Int} (hv : vs.length = cs.length) : srt b cs (vs.map f) = (srt b cs vs).map f := by
  unfold srt srtTo
  refine srtTo_map hf fun l hl k hk => ?_
  rw [hv]
  exact (lns_mem hl).1 k hk
theorem aft_map {f : Int → Int} (hf : ∀ a b, a ≤ b → f a ≤ f b) {cs : List Cell} : ∀ (w : List Bool) {vs : List Int}, vs.length = cs.length → aft cs w (vs.map f) = (aft cs w vs).map f
  | [], _, _ => rfl
  | b :: w, vs, hv => by
    show aft cs w (srt b cs (vs.map f)) = (aft cs w (srt b cs vs)).map f
    rw [srt_map hf hv]
    exact aft_map hf w (by rw [srt_len]; exact hv)
theorem rks_aft {cs : List Cell} (w : List Bool) {vs : List Int} (hv : vs.length = cs.length) : rks (aft cs w vs) = aft cs w (rks vs) := by
  unfold rks
  rw [aft_map (fun a b h => rkI_mono h) w hv, rkI_perm (aft_perm w hv)]
theorem rks_srt {b : Bool} {cs : List Cell} {vs : List Int} (hv : vs.length = cs.length) : rks (srt b cs vs) = srt b cs (rks vs) := rks_aft [b] hv
theorem map_inj_on {f : Int → Int} : ∀ {l m : List Int}, (∀ a ∈ l, ∀ b ∈ m, f a = f b → a = b) → l.map f = m.map f → l = m
  | [], [], _, _ => rfl
  | [], _ :: _, _, h => by simp at h
  | _ :: _, [], _, h => by simp at h
  | a :: l, b :: m, hi, h => by
    simp only [List.map_cons, List.cons.injEq] at h
    rw [hi a List.mem_cons_self b List.mem_cons_self h.1, map_inj_on (fun x hx y hy => hi x (List.mem_cons_of_mem _ hx) y (List.mem_cons_of_mem _ hy)) h.2]
theorem rises_rks {b : Bool} {cs : List Cell} {vs : List Int} (hv : vs.length = cs.length) : rises b cs (rks vs) = rises b cs vs := by
  have hr : (rks vs).length = cs.length := by
    unfold rks
    rw [List.length_map, hv]
  rw [← fix_rises hr, ← fix_rises hv, ← rks_srt hv]
  by_cases e : srt b cs vs = vs
  · rw [e, decide_eq_true rfl, decide_eq_true rfl]
  · rw [decide_eq_false e]
    refine decide_eq_false fun z => e ?_
    unfold rks at z
    rw [rkI_perm (srt_perm hv)] at z
    exact map_inj_on (fun a ha c hc => rkI_inj ((srt_perm hv).mem_iff.mp ha) hc) z
theorem settled_rks {cs : List Cell} {vs : List Int} (hv : vs.length = cs.length) : settled cs (rks vs) = settled cs vs := by
  unfold settled
  rw [rises_rks hv, rises_rks hv]
theorem rest_rks {cs : List Cell} {b : Bool} {vs : List Int} {n : Nat} (hv : vs.length = cs.length) (h : RestIs cs b vs n) : RestIs cs b (rks vs) n := by
  have e : ∀ m, settled cs (stat cs b (rks vs) m) = settled cs (stat cs b vs m) := fun m => by
    unfold stat
    rw [← rks_aft _ hv, settled_rks (by rw [aft_len, hv])]
  exact ⟨by rw [e]; exact h.end_, fun m hm => by rw [e]; exact h.least m hm⟩
/-- the place of a value in a rising list -/
theorem idx_asc : ∀ {l : List Int} {j : Nat} {v : Int}, l.Pairwise (· < ·) → l[j]? = some v → ((l.filter fun u => decide (u < v)).length) = j
  | [], j, v, _, h => by simp at h
  | a :: l, 0, v, p, h => by
    simp at h
    subst h
    rw [List.filter_cons_of_neg (by simp)]
    have : l.filter (fun u => decide (u < a)) = [] := List.filter_eq_nil_iff.mpr fun x hx => by
      have := (List.pairwise_cons.mp p).1 x hx
      simp
      omega
    rw [this]
    rfl
  | a :: l, j + 1, v, p, h => by
    have h' : l[j]? = some v := by simpa using h
    have ih := idx_asc (List.pairwise_cons.mp p).2 h'
    have := (List.pairwise_cons.mp p).1 v (List.mem_of_getElem? h')
    rw [List.filter_cons_of_pos (by simpa using this), List.length_cons, ih]
/-- a method's call inside a comprehension, where the written part is named by hand -/
theorem pe_bmK {X : Cx} {K : PySem.W.Frag} {o e : Expr} {es : List Expr} {to : TE} {t : TA} {name : Str} {apos cpos : Pos} {T id : String} {r : V → List V → Hp → VK → Prop} (hK : X.K = K) (pa : PlainAttrs T) (slot : Slot T name id)
    (hty : typeOf (.builtin id) = pure (.type "method_descriptor")) (hm : MtR X id r) (ho : PE X o to) (ha : PA X (e :: es) t)
    (hbase : attributeBase o name X.env (eval o X.env) = eval o X.env := by rfl)
    (hfew : ((backTo cpos (starEach (e :: es) X.env)).all (fun x => !x.1) && (backToKw cpos (keywordEach [] X.env)).all (fun x => x.1.isSome) && decide ((e :: es).length + ([] : List Keyword).length + (if ([] : List Keyword).isEmpty then 0 else 1) < 30)) = true := by rfl)
    (hline : (apos.endLine == cpos.line) = true := by rfl) (hs : starEach (e :: es) X.env = (false, eval e X.env) :: starEach es X.env := by rfl) (hplain : (backTo cpos (starEach es X.env)).any (·.1) = false := by rfl) :
    PE X (.Call (.Attribute o name apos) (e :: es) [] cpos) (tBM K T r to t) := by
  subst hK
  exact pe_bm pa slot hty hm ho ha hbase hfew hline hs hplain
theorem pg_tupK {X : Cx} {K : PySem.W.Frag} {es : List Expr} {k n : Nat} {pos : Pos} {t : TGs} (hK : X.K = K) (hc : X.calm = true) (h : PGs X es t) (hn : (assignEach es X.env).length = n := by rfl) (hst : (assignEach es X.env).findIdx? (·.1) = none := by rfl) : PG X (.Tuple es k pos) (gTup K n t) := by
  subst hK
  exact pg_tup hc h hn hst
end KS
namespace KS
open PySem PySem.Spec PyProof.Rows L2
/-- for comprehensions within comprehensions -/
def rLenSeq (K : PySem.W.Frag) : List V → Hp → VK → Prop := fun xs H Q => ∃ p ys, xs = [.ref p] ∧ (SqL K H p ys ∨ SqT K H p ys) ∧ Q (.int ys.length) H
theorem call_lenK {X : Cx} {K : PySem.W.Frag} (hK : X.K = K) : CallR X (.builtin "len") (rLenSeq K) := by
  subst hK
  exact call_len_seq
theorem pi_tupK {X : Cx} {K : PySem.W.Frag} {tg l : Expr} {tl : TE} (hK : X.K = K) (hl : PE X l tl) : PI X tg l (iTup K tl) := by
  subst hK
  exact pi_tup hl
theorem pi_listK {X : Cx} {K : PySem.W.Frag} {tg l : Expr} {tl : TE} (hK : X.K = K) (hl : PE X l tl) : PI X tg l (iList K tl) := by
  subst hK
  exact pi_list hl
end KS
namespace KS
open PySem PySem.Spec PyProof.Rows L2 RZ
abbrev sIsFill : Stmt := topS 43
theorem scIsFill : FnScope ["plan", "value"] ["plan", "value"] (defScope sIsFill) := ⟨rfl, rfl, rfl, by decide +kernel, rfl, by decide +kernel, by decide +kernel⟩
section
variable {P : Program} {w : World} {K : PySem.W.Frag} {mg : Str → Option Value} {base : Heap}
theorem ok_wholeG {f : Addr} {fd : FuncData} (F : Fun K "is_whole" "is_whole" sWhole f fd) (mi : mg "isinstance" = none) (mI : mg "int" = none) (mB : mg "bool" = none) : FnOk P w K mg base CX0 1 f fd ["value"] (spWholeG K) := by
  refine F.ok scWhole (fun vs H Q E h => ?_) (fun cdv A outer s H vs Q E hr h => ?_)
  · obtain ⟨v, t, rfl, _⟩ := h
    rfl
  · obtain ⟨v, t, rfl, ho, q⟩ := h
    refine ⟨_, pss_one (ps_ret (pe_and (pe_callB call_isi (by rfl) mi (by decide +kernel) (pa_cons (pv 0) (pa_cons (pe_bltn (v := .ty "int") (by rfl) mI (by decide +kernel) rfl) pa_nil)))
      (pe_one (pe_not (pe_callB call_isi (by rfl) mi (by decide +kernel) (pa_cons (pv 0) (pa_cons (pe_bltn (v := .ty "bool") (by rfl) mB (by decide +kernel) rfl) pa_nil))))))), ?_⟩
    refine ⟨_, rfl, v, _, _, _, _, rfl, .ty "int", ho.ty, kit_int ho, _, rfl, ite2 (fun e => ?_) (fun e => ?_)⟩
    · refine ⟨_, rfl, v, _, _, _, _, rfl, .ty "bool", ho.ty, kit_bool ho, _, rfl, ?_⟩
      have e' := of_decide_eq_true e
      have z : (!decide (t = "bool")) = decide (t = "int") := by
        rcases e' with e' | e' <;> subst e' <;> decide
      rw [z]
      exact q
    · have z : decide (t = "int") = false := decide_eq_false fun y => e (decide_eq_true (.inl y))
      rw [z] at q
      exact q
theorem ok_betweenG {f fW : Addr} {fd fdW : FuncData} (F : Fun K "is_between" "is_between" sBetween f fd) (GW : FnOk P w K mg base CX0 1 fW fdW ["value"] (spWholeG K)) (bW : Binds K fdW ["value"] []) (gW : mg "is_whole" = some (.ref fW)) (kW : PySem.W.keepIn K (.ref fW) = true) :
    FnOk P w K mg base CX0 2 f fd ["value", "least", "most"] (spBetweenG K) := by
  refine F.ok scBetween (fun vs H Q E h => ?_) (fun cdv A outer s H vs Q E hr h => ?_)
  · obtain ⟨v, lo, hi, b, rfl, _⟩ := h
    rfl
  · obtain ⟨v, lo, hi, b, rfl, hp, q⟩ := h
    refine ⟨_, pss_one (ps_ret (pe_and (pe_call GW hr (by rfl) gW kW bW .nil pass0 (pa_cons (pv 0) pa_nil)) (pe_one (pe_chain op_le op_le (pv 1) (pv 0) (pv 2))))), ?_⟩
    have go : ∀ i : Int, v = .int i → b = decide (lo ≤ i ∧ i ≤ hi) → tAndV (tCall (spWholeG K) [] E0 (tCons (tVar 0) tNil)) (tChain rLe rLe (tVar 1) (tVar 0) (tVar 2)) [some v, some (.int lo), some (.int hi)] H Q := fun i ei eb => by
      subst ei
      refine ⟨_, rfl, .int i, "int", rfl, .int i, true, rfl, ?_⟩
      refine ⟨_, rfl, _, rfl, _, _, rfl, rfl, _, rfl, ite2 (fun e => ?_) (fun e => ?_)⟩
      · have e' := of_decide_eq_true e
        refine ⟨_, rfl, _, _, rfl, rfl, ?_⟩
        have z : decide (i ≤ hi) = b := by
          rw [eb]
          by_cases y : i ≤ hi
          · rw [decide_eq_true y, decide_eq_true ⟨e', y⟩]
          · rw [decide_eq_false y, decide_eq_false fun x => y x.2]
        show Q (V.bl (decide (i ≤ hi))) H
        rw [z]
        exact q
      · have z : b = false := by
          rw [eb]
          exact decide_eq_false fun x => e (decide_eq_true x.1)
        rw [z] at q
        exact q
    cases b with
    | true =>
      obtain ⟨i, rfl, h0, h1⟩ := hp
      exact go i rfl (decide_eq_true ⟨h0, h1⟩).symm
    | false =>
      rcases hp with ⟨i, rfl, hn⟩ | ⟨ty, ho, hn⟩
      · exact go i rfl (decide_eq_false hn).symm
      · refine ⟨_, rfl, v, ty, rfl, ho, _, rfl, ?_⟩
        rw [decide_eq_false hn]
        exact q
theorem ok_ffG {f fI : Addr} {fd fdI : FuncData} (F : Fun K "first_fault" "first_fault" sFF f fd) (GI : FnOk P w K mg base CX0 2 fI fdI ["value", "least", "most"] (spBetweenG K)) (bI : Binds K fdI ["value", "least", "most"] []) (gI : mg "is_between" = some (.ref fI)) (kI : PySem.W.keepIn K (.ref fI) = true)
    (me : mg "enumerate" = none) : FnOk P w K mg base CX0 3 f fd ["values", "most"] (spFFG K) := by
  refine F.ok scFF (fun vs H Q E h => ?_) (fun cdv A outer s H vs Q E hr h => ?_)
  · obtain ⟨t, ys, rs, b, rfl, _⟩ := h
    rfl
  · obtain ⟨a, ys, rs, b, rfl, hx, he, tw, q⟩ := h
    have nd := scFF.nd
    refine ⟨_, pss_cons (ps_for PassesOwn.never rfl (pi_enumT (by rfl) me (pa_cons (pv 0) pa_nil)) (pg_tup (by rfl) (pgs_cons (pg_name (i := 2) nd rfl (.inl rfl)) (pgs_cons (pg_name (i := 3) nd rfl (.inl rfl)) pgs_nil)))
        (pss_one (ps_if (PW.pt (pw_or (pt_not (pt_val (pe_call GI hr (by rfl) gI kI bI .nil pass0 (pa_cons (pv 3) (pa_cons pe_int (pa_cons (pv 1) pa_nil))))))
          (pw_or1 (pt_cmpR op_in_seq (pv 3) (pe_slice sl_tup (pv 0) po_none (po_some (pv 2))) (by rfl))))) (pss_one (ps_ret (pv 2))) pss_nil)))
      (pss_one (ps_ret pe_non)), ?_⟩
    have hlen := Paired.length he
    refine ⟨_, rfl, a, _, rfl, hx, for_enumT (K := K) (a := a) (xs := ys) (fun i σ H' => Same H H' ∧ OkV rs i ∧ ∃ y1 y2, σ = [some (.ref a), some (.int 9999), y1, y2]) ?_ ?_ ?_ ?_⟩
    · exact ⟨Same.refl _, fun j hj => absurd hj (Nat.not_lt_zero _), none, none, rfl⟩
    · rintro i σ H' _ ⟨sm, _⟩
      exact same_seqT sm hx
    · rintro i x σ H' T hi ⟨sm, ok, y1, y2, rfl⟩ nT
      have hil := (List.getElem?_eq_some_iff.mp hi).1
      obtain ⟨o, hoi, hox⟩ := paired_get he hi
      have sT := same_new (o := .tup [.int (i : Nat), x]) nT
      have s2 := sm.trans sT
      refine ⟨T, _, rfl, SqT.of upd_same, rfl, _, _, rfl, _, _, rfl, rfl, ?_⟩
      cases o with
      | none =>
        have eb := tw.bad ok (.inl hoi)
        subst eb
        refine ⟨_, rfl, _, rfl, x, 1, 9999, false, rfl, BwR.same (lo := 1) (hi := 9999) (b := false) s2 (show BwR K H x 1 9999 false from hox), false, rfl, ?_⟩
        exact ⟨_, rfl, q _ s2⟩
      | some v =>
        obtain ⟨rfl, v1, v2⟩ := hox
        refine ⟨_, rfl, _, rfl, .int v, 1, 9999, true, rfl, ⟨v, rfl, v1, v2⟩, true, rfl, ?_⟩
        refine ⟨_, rfl, _, rfl, _, rfl, _, rfl, a, _, rfl, same_seqT s2 hx, cut_not hil, fun S nS => ?_⟩
        have sS := same_new (o := .tup (cutV ys none (some (i : Int)))) nS
        obtain ⟨is, e1, e2⟩ := okV_take he ok
        refine ⟨S, _, rfl, .inr (SqT.of upd_same), rfl, ?_, ?_⟩
        · rw [cut_take (by omega), e1]
          exact flat_ints _
        rw [cut_take (by omega), e1]
        by_cases c : v ∈ is
        · refine ⟨true, ?_, ?_⟩
          · show V.bl (inV (.int v) (is.map V.int)) = V.bl true
            rw [in_ints, decide_eq_true c]
          obtain ⟨k, k1, k2⟩ := (seen_iff e2).mp c
          have eb := tw.bad ok (.inr ⟨v, k, hoi, k1, k2⟩)
          subst eb
          refine ⟨_, rfl, q _ (s2.trans ?_)⟩
          rw [cut_take (by omega), e1] at sS
          exact sS
        · refine ⟨false, ?_, ?_⟩
          · show V.bl (inV (.int v) (is.map V.int)) = V.bl false
            rw [in_ints, decide_eq_false c]
          refine ⟨s2.trans ?_, okV_succ ok hoi (fun k hk z => c ((seen_iff e2).mpr ⟨k, hk, z⟩)), _, _, rfl⟩
          rw [cut_take (by omega), e1] at sS
          exact sS
    · rintro σ H' ⟨sm, ok, _⟩
      rw [hlen] at ok
      have g := tw.ok ok
      have z := q H' sm
      cases b with
      | ok => exact z
      | non => cases g
      | «at» i => cases g
theorem ok_checkFG {f fI C fN : Addr} {fd fdI : FuncData} {tk : Tok} (F : Fun K "check_filling" "check_filling" sCheckF f fd) (GI : FnOk P w K mg base CX0 3 fI fdI ["values", "most"] (spFFG K)) (bI : Binds K fdI ["values", "most"] []) (gI : mg "first_fault" = some (.ref fI)) (kI : PySem.W.keepIn K (.ref fI) = true)
    (T : PySem.XInvalidFilling.InvalidFillingTxt K mg C fN)
    (mi : mg "isinstance" = none) (mT : mg "tuple" = none) (ml : mg "len" = none) (mM : mg "MOST_VALUE" = some (.int 9999 tk)) : FnOk P w K mg base (L2.CX P w) 4 f fd ["size", "filling"] (spCheckFG K C) := by
  refine F.okX scCheckF (fun vs H Q E h => ?_) (fun cdv A outer s H vs Q E hr h => ?_)
  · obtain ⟨n, v, b, rfl, _⟩ := h
    rfl
  · obtain ⟨n, v, b, rfl, hv, kQ, kE⟩ := h
    have nd := scCheckF.nd
    refine ⟨_, pss_cons (ps_if (PW.pt (pw_or (pt_not (pt_val (pe_callB call_isi (by rfl) mi (by decide +kernel) (pa_cons (pv 1) (pa_cons (pe_bltn (v := .ty "tuple") (by rfl) mT (by decide +kernel) rfl) pa_nil)))))
          (pw_or1 (pt_cmpR op_ne (pe_callB call_len_seq (by rfl) ml PySem.boot_len (pa_cons (pv 1) pa_nil)) (pv 0) (nomark _)))))
        (pss_one (ps_raiseInvalidFilling rfl T hr (takes_of rfl rfl rfl rfl) (pa_cons pe_non pa_nil))) pss_nil)
      (pss_cons (ps_set (i := 2) nd rfl (.inl rfl) (pe_call GI hr (by rfl) gI kI bI .nil pass0 (pa_cons (pv 1) (pa_cons (pe_glob (v := .int 9999) (by rfl) mM ⟨_, rfl⟩) pa_nil))))
      (pss_one (ps_if (pt_cmpR op_notN (pv 2) pe_non (nomark _)) (pss_one (ps_raiseInvalidFilling rfl T hr (takes_of rfl rfl rfl rfl) (pa_cons (pv 2) pa_nil))) pss_nil))), ?_⟩
    rcases hv.split with ⟨rfl, hn⟩ | ⟨a, xs, rs, rfl, hx, hl, he, tw⟩
    · have go : ∀ d : Addr, H d = none → E (.ref C) (some d) (upd H d (.xd [(("index" : Str), V.non)])) := fun d hd => kE rfl _ d (same_new hd) hd upd_same
      rcases hn with ⟨t, ho, ne⟩ | ⟨a, xs, rfl, hx, ne⟩
      · refine ⟨_, rfl, v, _, _, _, _, rfl, .ty "tuple", ho.ty, kit_tuple ho, _, rfl, ?_⟩
        rw [decide_eq_false ne]
        exact ⟨_, rfl, go⟩
      · refine ⟨_, rfl, _, _, _, _, true, rfl, .ty "tuple", tyx_tup hx, kit_ty (by decide +kernel), true, rfl, ?_⟩
        refine ⟨_, rfl, a, _, rfl, .inr hx, _, rfl, rfl, true, ?_, ?_⟩
        · have : decide (V.int ((xs.length : Nat) : Int) = V.int ((n : Nat) : Int)) = false := decide_eq_false fun z => ne (by have := V.int.inj z; omega)
          rw [this]
          rfl
        · exact ⟨_, rfl, go⟩
    · refine ⟨_, rfl, _, _, _, _, true, rfl, .ty "tuple", tyx_tup hx, kit_ty (by decide +kernel), true, rfl, ?_⟩
      refine ⟨_, rfl, a, _, rfl, .inr hx, _, rfl, rfl, false, ?_, ?_⟩
      · rw [hl]
        simp
      refine ⟨_, rfl, a, xs, rs, b, rfl, hx, he, tw, fun H1 s1 => ?_⟩
      cases b with
      | ok => exact ⟨_, rfl, rfl, false, rfl, kQ rfl H1 s1⟩
      | non =>
        rcases tw with ⟨g, _⟩ | ⟨i, e, _⟩
        · cases g
        · cases e
      | «at» i =>
        refine ⟨_, rfl, rfl, true, rfl, ?_⟩
        exact ⟨_, rfl, _, rfl, fun d hd => kE rfl _ d (s1.trans (same_new hd)) (s1.free hd) upd_same⟩
theorem ok_isFill {f fC fP C fN : Addr} {fd fdC fdP : FuncData} (F : Fun K "is_filling" "is_filling" sIsFill f fd)
    (GP : FnOk P w K mg base CX0 5 fP fdP ["plan"] (spCheck K)) (bP : Binds K fdP ["plan"] []) (gP : mg "check_plan" = some (.ref fP)) (kP : PySem.W.keepIn K (.ref fP) = true)
    (GC : FnOk P w K mg base (L2.CX P w) 4 fC fdC ["size", "filling"] (spCheckFG K C)) (bC : Binds K fdC ["size", "filling"] []) (gC : mg "check_filling" = some (.ref fC)) (kC : PySem.W.keepIn K (.ref fC) = true)
    (T : PySem.XInvalidFilling.InvalidFillingTxt K mg C fN) (ml : mg "len" = none) : FnOk P w K mg base CX0 6 f fd ["plan", "value"] (spIsFill K) := by
  refine F.ok scIsFill (fun vs H Q E h => ?_) (fun cdv A outer s H vs Q E hr h => ?_)
  · obtain ⟨p, cs, v, b, rfl, _⟩ := h
    rfl
  · obtain ⟨p, cs, v, b, rfl, hp, gd, hl, hv, q⟩ := h
    have hr4 : Room 4 _ := hr.mono (by omega)
    refine ⟨_, pss_cons (ps_expr (pe_call GP hr (by rfl) gP kP bP .nil pass0 (pa_cons (pv 0) pa_nil)))
      (pss_cons (ps_try_only (tb := fun W => tDrop (tCallS (spCheckFG K C) (WE W) (tCons (tCB (rLenSeq K) (tCons (tVar 0) tNil)) (tCons (tVar 1) tNil)))) (ts := fun _ _ _ => tRet (tC (.bl false))) (Wout := fun _ _ _ _ => False) rfl rfl ⟨rfl, by decide, Or.inl T.gC⟩ takes0
        (fun W pn xe tk _ => pss_one (ps_expr (by exact (pe_callS GC hr4 rfl gC kC bC (fun σ => passAt tk σ) (by exact (pa_cons (pe_callB (id := "len") (r := rLenSeq K) (call_lenK rfl) (by rfl) ml PySem.boot_len (pa_cons (pv 0) pa_nil)) (pa_cons (pv 1) pa_nil)))))))
        (fun a oe cls d pn _ _ => pss_one (ps_ret pe_bl)))
      (pss_one (ps_ret pe_bl))), ?_⟩
    refine ⟨_, rfl, p, cs, rfl, hp, gd, hl, fun H1 s1 => ?_⟩
    obtain ⟨xs, hxs, hcs⟩ := hp
    have el : xs.length = cs.length := Paired.length hcs
    refine ⟨_, rfl, p, xs, rfl, .inr (same_seqT s1 hxs), _, rfl, cs.length, v, b, by rw [el], hv.same s1, fun g H' s2 => ?_, fun g H' d s2 nd hd => ?_⟩
    · have := q H' (s1.trans s2)
      rw [g] at this
      exact this
    · refine ⟨true, T.te, fun _ a ha => ?_, fun z => Bool.noConfusion z⟩
      have := q H' (s1.trans s2)
      rw [g] at this
      exact this
end
end KS
/-! check_plan on anything, beside the one for good plans -/
namespace KS
open PySem PySem.Spec PyProof.Rows L2
section
variable {P : Program} {w : World} {K : PySem.W.Frag} {mg : Str → Option Value} {base : Heap}
theorem ok_placeG {f fB : Addr} {fd fdB : FuncData} {t : Tok} (F : Fun K "is_place" "is_place" sPlace f fd) (GB : FnOk P w K mg base CX0 2 fB fdB ["value", "least", "most"] (spBetweenG K)) (bB : Binds K fdB ["value", "least", "most"] []) (gB : mg "is_between" = some (.ref fB)) (kB : PySem.W.keepIn K (.ref fB) = true)
    (mM : mg "MOST_INDEX" = some (.int 7 t)) : FnOk P w K mg base CX0 3 f fd ["value"] (spPlaceG K) := by
  refine F.ok scPlace (fun vs H Q E h => ?_) (fun cdv A outer s H vs Q E hr h => ?_)
  · obtain ⟨v, b, rfl, _⟩ := h
    rfl
  · obtain ⟨v, b, rfl, hp, q⟩ := h
    refine ⟨_, pss_one (ps_ret (pe_call GB hr (by rfl) gB kB bB .nil pass0 (pa_cons (pv 0) (pa_cons pe_int (pa_cons (pe_glob (v := .int 7) (by rfl) mM ⟨_, rfl⟩) pa_nil))))), ?_⟩
    exact ⟨_, rfl, v, 0, 7, b, rfl, bw_of_pl hp, q⟩
theorem ok_isCellG {f fP : Addr} {fd fdP : FuncData} (F : Fun K "is_cell" "is_cell" sIsCell f fd) (GP : FnOk P w K mg base CX0 3 fP fdP ["value"] (spPlaceG K)) (bP : Binds K fdP ["value"] []) (gP : mg "is_place" = some (.ref fP)) (kP : PySem.W.keepIn K (.ref fP) = true)
    (mi : mg "isinstance" = none) (mT : mg "tuple" = none) (ml : mg "len" = none) : FnOk P w K mg base CX0 4 f fd ["value"] (spIsCellG K) := by
  refine F.ok scIsCell (fun vs H Q E h => ?_) (fun cdv A outer s H vs Q E hr h => ?_)
  · obtain ⟨a, c, rfl, _⟩ := h
    rfl
  · obtain ⟨v, o, rfl, he, q⟩ := h
    refine ⟨_, pss_one (ps_ret (pe_and (pe_callB call_isi (by rfl) mi (by decide +kernel) (pa_cons (pv 0) (pa_cons (pe_bltn (v := .ty "tuple") (by rfl) mT (by decide +kernel) rfl) pa_nil)))
      (pe_and (pe_cmpR op_eq (pe_callB call_len_seq (by rfl) ml PySem.boot_len (pa_cons (pv 0) pa_nil)) pe_int (nomark _))
      (pe_and (pe_call GP hr (by rfl) gP kP bP .nil pass0 (pa_cons (pe_ix ix_tup (pv 0) pe_int (fun _ _ => rfl)) pa_nil))
      (pe_one (pe_call GP hr (by rfl) gP kP bP .nil pass0 (pa_cons (pe_ix ix_tup (pv 0) pe_int (fun _ _ => rfl)) pa_nil))))))), ?_⟩
    have q0 := q H (Same.refl _)
    cases o with
    | some c =>
      obtain ⟨⟨a, rfl, ht⟩, hg⟩ := he
      refine ⟨_, rfl, _, _, _, _, true, rfl, .ty "tuple", tyx_tup ht, kit_ty (by decide +kernel), true, rfl, ?_⟩
      refine ⟨_, rfl, a, _, rfl, .inr ht, rfl, true, rfl, ?_⟩
      refine ⟨_, rfl, a, _, 0, .int c.1, rfl, rfl, ht, rfl, .int c.1, true, rfl, ⟨c.1, rfl, hg.1, hg.2.1⟩, true, rfl, ?_⟩
      exact ⟨_, rfl, a, _, 1, .int c.2, rfl, rfl, ht, rfl, .int c.2, true, rfl, ⟨c.2, rfl, hg.2.2.1, hg.2.2.2⟩, q0⟩
    | none =>
      rcases he with ⟨t, ho, n⟩ | ⟨t, ys, rfl, ht, n⟩ | ⟨t, y0, y1, b0, b1, rfl, ht, p0, p1, n⟩
      · refine ⟨_, rfl, v, _, _, _, _, rfl, .ty "tuple", ho.ty, kit_tuple ho, _, rfl, ?_⟩
        rw [decide_eq_false n]
        exact q0
      · refine ⟨_, rfl, _, _, _, _, true, rfl, .ty "tuple", tyx_tup ht, kit_ty (by decide +kernel), true, rfl, ?_⟩
        refine ⟨_, rfl, t, _, rfl, .inr ht, rfl, false, ?_, q0⟩
        have z : ¬ V.int (ys.length : Int) = V.int 2 := fun y => n (by
          have := V.int.inj y
          omega)
        exact bl_false z
      · refine ⟨_, rfl, _, _, _, _, true, rfl, .ty "tuple", tyx_tup ht, kit_ty (by decide +kernel), true, rfl, ?_⟩
        refine ⟨_, rfl, t, _, rfl, .inr ht, rfl, true, rfl, ?_⟩
        refine ⟨_, rfl, t, _, 0, y0, rfl, rfl, ht, rfl, y0, b0, rfl, p0, b0, rfl, ?_⟩
        cases b0 with
        | false => exact q0
        | true =>
          have n' : b1 = false := by simpa using n
          subst n'
          exact ⟨_, rfl, t, _, 1, y1, rfl, rfl, ht, rfl, y1, false, rfl, p1, q0⟩
theorem ok_checkPG {f fI C fN : Addr} {fd fdI : FuncData} {t : Tok} (F : Fun K "check_plan" "check_plan" sCheck f fd) (GI : FnOk P w K mg base CX0 4 fI fdI ["value"] (spIsCellG K)) (bI : Binds K fdI ["value"] []) (gI : mg "is_cell" = some (.ref fI)) (kI : PySem.W.keepIn K (.ref fI) = true)
    (T : PySem.XInvalidPlan.InvalidPlanTxt K mg C fN)
    (mi : mg "isinstance" = none) (mT : mg "tuple" = none) (ml : mg "len" = none) (me : mg "enumerate" = none) (mM : mg "MOST_CELLS" = some (.int 24 t)) : FnOk P w K mg base (L2.CX P w) 5 f fd ["plan"] (spCheckG K C) := by
  refine F.okX scCheck (fun vs H Q E h => ?_) (fun cdv A outer s H vs Q E hr h => ?_)
  · obtain ⟨v, b, rfl, _⟩ := h
    rfl
  · obtain ⟨v, b, rfl, hv, kQ, kE⟩ := h
    have nd := scCheck.nd
    refine ⟨_, pss_cons (ps_if (PW.pt (pw_or (pt_not (pt_val (pe_callB call_isi (by rfl) mi (by decide +kernel) (pa_cons (pv 0) (pa_cons (pe_bltn (v := .ty "tuple") (by rfl) mT (by decide +kernel) rfl) pa_nil)))))
          (pw_or1 (pt_not (pt_chain op_le op_le pe_int (pe_callB call_len_seq (by rfl) ml PySem.boot_len (pa_cons (pv 0) pa_nil)) (pe_glob (v := .int 24) (by rfl) mM ⟨_, rfl⟩))))))
        (pss_one (ps_raiseInvalidPlan rfl T hr (takes_of rfl rfl rfl rfl) (pa_cons pe_non pa_nil))) pss_nil)
      (pss_one (ps_for (passes_of rfl) rfl (pi_enumT (by rfl) me (pa_cons (pv 0) pa_nil)) (pg_tup (by rfl) (pgs_cons (pg_name (i := 1) nd rfl (.inl rfl)) (pgs_cons (pg_name (i := 2) nd rfl (.inl rfl)) pgs_nil)))
        (pss_cons (ps_if (pt_not (pt_val (pe_call GI hr (by rfl) gI kI bI .nil pass0 (pa_cons (pv 2) pa_nil)))) (pss_one (ps_raiseInvalidPlan rfl T hr (takes_of rfl rfl rfl rfl) (pa_cons (pv 1) pa_nil))) pss_nil)
        (pss_one (ps_if (PW.pt (pw_and (pt_cmpR op_gt (pv 1) pe_int (nomark _)) (pw_and1 (pt_cmpR (op_leT hr.units0) (pv 2) (pe_ix ix_tup (pv 0) (pe_op op_sub (pv 1) pe_int) (fun _ _ => rfl)) (nomark _)))))
          (pss_one (ps_raiseInvalidPlan rfl T hr (takes_of rfl rfl rfl rfl) (pa_cons (pv 1) pa_nil))) pss_nil))))), ?_⟩
    rcases hv.split with ⟨rfl, hn⟩ | ⟨a, xs, rs, rfl, hx, l1, l2, he, tw⟩
    · have go : ∀ d : Addr, H d = none → E (.ref C) (some d) (upd H d (.xd [(("index" : Str), V.non)])) := fun d hd => kE rfl _ d (same_new hd) hd upd_same
      rcases hn with ⟨t, ho, n⟩ | ⟨a, xs, rfl, hx, n⟩
      · refine ⟨_, rfl, v, _, _, _, _, rfl, .ty "tuple", ho.ty, kit_tuple ho, _, rfl, ?_⟩
        rw [decide_eq_false n]
        exact ⟨_, rfl, go⟩
      · refine ⟨_, rfl, _, _, _, _, true, rfl, .ty "tuple", tyx_tup hx, kit_ty (by decide +kernel), true, rfl, ?_⟩
        refine ⟨_, rfl, a, _, rfl, .inr hx, _, _, rfl, rfl, _, rfl, ?_⟩
        by_cases c1 : (1 : Int) ≤ (xs.length : Int)
        · rw [if_pos (decide_eq_true c1)]
          refine ⟨_, _, rfl, rfl, false, bl_false (show ¬ (xs.length : Int) ≤ 24 by omega), ?_⟩
          exact ⟨_, rfl, go⟩
        · rw [if_neg (fun z => c1 (of_decide_eq_true z))]
          refine ⟨false, rfl, ?_⟩
          exact ⟨_, rfl, go⟩
    · have hlen := Paired.length he
      refine ⟨_, rfl, _, _, _, _, true, rfl, .ty "tuple", tyx_tup hx, kit_ty (by decide +kernel), true, rfl, ?_⟩
      refine ⟨_, rfl, a, _, rfl, .inr hx, _, _, rfl, rfl, true, bl_true (show (1 : Int) ≤ (xs.length : Int) by omega), ?_⟩
      refine ⟨_, _, rfl, rfl, true, bl_true (show (xs.length : Int) ≤ 24 by omega), ?_⟩
      refine ⟨_, rfl, a, xs, rfl, hx, for_enumT (K := K) (a := a) (xs := xs) (fun i σ H' => Same H H' ∧ OkTo rs i ∧ ∃ y1 y2, σ = [some (.ref a), y1, y2]) ?_ ?_ ?_ ?_⟩
      · exact ⟨Same.refl _, fun j hj => absurd hj (Nat.not_lt_zero _), none, none, rfl⟩
      · rintro i σ H' _ ⟨sm, _⟩
        exact same_seqT sm hx
      · rintro i x σ H' Tp hi ⟨sm, ok, y1, y2, rfl⟩ nT
        obtain ⟨o, hoi, hox⟩ := paired_get he hi
        have sT := same_new (o := .tup [.int (i : Nat), x]) nT
        have s2 := sm.trans sT
        have fail : BadAt rs i → ∀ H2 : Hp, Same H H2 → ∀ d : Addr, H2 d = none → E (.ref C) (some d) (upd H2 d (.xd [(("index" : Str), V.int ((i : Nat) : Int))])) := fun bad H2 s3 d hd => by
          have eb := tw.bad ok bad
          subst eb
          exact kE rfl _ d (s3.trans (same_new hd)) (s3.free hd) upd_same
        refine ⟨Tp, _, rfl, SqT.of upd_same, rfl, _, _, rfl, _, _, rfl, rfl, ?_⟩
        cases o with
        | none =>
          refine ⟨_, rfl, x, none, rfl, hox.same s2, fun H3 s3 => ⟨false, rfl, ?_⟩⟩
          exact ⟨_, rfl, _, rfl, fun d hd => fail (.inl hoi) _ (s2.trans s3) d hd⟩
        | some c =>
          refine ⟨_, rfl, x, some c, rfl, hox.same s2, fun H3 s3 => ⟨true, rfl, ?_⟩⟩
          have s4 := s2.trans s3
          refine ⟨_, rfl, _, _, rfl, rfl, _, rfl, ite2 (fun e => ?_) (fun e => ?_)⟩
          · have e' : (0 : Int) < (i : Int) := of_decide_eq_true e
            obtain ⟨j, rfl⟩ : ∃ j, i = j + 1 := ⟨i - 1, by omega⟩
            have hj : j < xs.length := by
              have := (List.getElem?_eq_some_iff.mp hi).1
              omega
            obtain ⟨o0, ho0, hx0⟩ := paired_get he (List.getElem?_eq_getElem hj)
            obtain ⟨c0, ec0, _⟩ := ok j (by omega)
            rw [ec0] at ho0
            cases ho0
            obtain ⟨⟨t0, e0, ht0⟩, _⟩ := hx0
            obtain ⟨⟨tt, e1, ht⟩, _⟩ := id hox
            subst e1
            have gx : xs[j]? = some (.ref t0) := by rw [List.getElem?_eq_getElem hj, e0]
            have ej : ((j + 1 : Nat) : Int) - 1 = ((j : Nat) : Int) := by omega
            refine ⟨_, rfl, _, rfl, _, rfl, _, _, rfl, rfl, a, xs, _, .ref t0, rfl, rfl, same_seqT s4 hx, ?_, tt, t0, [c.1, c.2], [c0.1, c0.2], rfl, rfl, same_seqT s4 ht, same_seqT s4 ht0, _, rfl, ite2 (fun e2 => ?_) (fun e2 => ?_)⟩
            · show atI xs (((j + 1 : Nat) : Int) - 1) = _
              rw [ej]
              exact atI_nat gx
            · exact ⟨_, rfl, _, rfl, fun d hd => fail (.inr ⟨c, c0, j, hoi, rfl, ec0, le2_iff.mp e2⟩) _ s4 d hd⟩
            · refine ⟨s4, okTo_succ ok hoi (fun k hk => ?_), _, _, rfl⟩
              have : k = j := by omega
              subst this
              refine ⟨c0, ec0, ?_⟩
              rcases lt2_dec c0 c with z | z
              · exact z
              · exact absurd (le2_iff.mpr z) e2
          · have e' : ¬ (0 : Int) < (i : Int) := fun z => e (decide_eq_true z)
            exact ⟨s4, okTo_succ ok hoi (fun k hk => by omega), _, _, rfl⟩
      · rintro σ H' ⟨sm, ok, _⟩
        rw [hlen] at ok
        exact kQ (tw.ok ok) H' sm
end
end KS
/-! defs that check a plan, a filling, first -/
namespace KS
open PySem PySem.Spec PyProof.Rows L2
theorem pss_any {X : Cx} : ∀ l : List Stmt, ∃ t, PSs X l t
  | [] => ⟨_, pss_nil⟩
  | s :: l => by
    obtain ⟨t, h⟩ := pss_any (X := X) l
    exact ⟨_, pss_cons ps_never h⟩
/-- what is no plan lets this error out -/
def spBadP (K : PySem.W.Frag) (C : Addr) (n : Nat) : Sp := fun vs H Q E => ∃ (v : V) (rest : List V) (b : Verd), vs = v :: rest ∧ rest.length + 1 = n ∧ PlanV K H v b ∧ b.good = false ∧
  ∀ H' d, Same H H' → H' d = some (.xd [(("index" : Str), vIdx b)]) → E (.ref C) (some d) H'
/-- a plan, what is no filling of it -/
def spBadF (K : PySem.W.Frag) (C : Addr) (n : Nat) : Sp := fun vs H Q E => ∃ (a : Addr) (cs : List Cell) (u : V) (rest : List V) (c : Verd), vs = .ref a :: u :: rest ∧ rest.length + 2 = n ∧ PlanAt K H a cs ∧ Good cs ∧ cs.length ≤ 24 ∧ FilV K H cs.length u c ∧ c.good = false ∧
  ∀ H' d, Same H H' → H' d = some (.xd [(("index" : Str), vIdx c)]) → E (.ref C) (some d) H'
section
variable {P : Program} {w : World} {K : PySem.W.Frag} {mg : Str → Option Value} {base : Heap}
theorem ok_badP {x : Str} {st : Stmt} {f fC C : Addr} {fd fdC : FuncData} {N ps : List Str} {p1 p2 p3 p4 : Pos} {rest : List Stmt} (F : Fun K x x st f fd) (S : FnScope N ps (defScope st)) (hb : defBody st = .Expr (.Call (.Name "check_plan" p1) [.Name "plan" p2] [] p3) p4 :: rest)
    (h0 : N[0]? = some ("plan" : Str)) (hv : (defScope st).names.lookup ("plan" : Str) = some .local ∨ (defScope st).names.lookup ("plan" : Str) = some .cell) (hg : (defScope st).names.lookup ("check_plan" : Str) = some .globalImplicit) {n : Nat} (hn : ps.length = n)
    (GC : FnOk P w K mg base (L2.CX P w) 5 fC fdC ["plan"] (spCheckG K C)) (bC : Binds K fdC ["plan"] []) (gC : mg "check_plan" = some (.ref fC)) (kC : PySem.W.keepIn K (.ref fC) = true) :
    FnOk P w K mg base (L2.CX P w) 6 f fd ps (spBadP K C n) := by
  refine F.okX S (fun vs H Q E h => ?_) (fun cdv A outer s H vs Q E hr h => ?_)
  · obtain ⟨v, rest, b, rfl, e, _⟩ := h
    rw [hn, ← e]
    rfl
  · obtain ⟨v, l, b, rfl, e, hp, hbad, kE⟩ := h
    obtain ⟨t', ht'⟩ := pss_any (X := cxOf (L2.CX P w) P w K mg base N x (defScope st) f cdv A outer s H E) rest
    rw [hb]
    refine ⟨_, pss_cons (ps_expr (pe_callS GC hr hg gC kC bC (fun σ => passAt (takes_of rfl rfl rfl rfl) σ) (pa_cons (pv 0 h0 (by rcases hv with z | z <;> first | exact Or.inl z | exact Or.inr (Or.inl z)) (by decide) (by decide)) pa_nil))) ht', ?_⟩
    refine ⟨v, rfl, v, b, rfl, hp, (fun z => Bool.noConfusion (hbad.symm.trans z)), fun _ H' d s1 _ hd => kE H' d s1 hd⟩
theorem ok_badF {x : Str} {st : Stmt} {f fC fK C CF : Addr} {fd fdC fdK : FuncData} {N ps : List Str} {p1 p2 p3 p4 q1 q2 q3 q4 q5 q6 q7 : Pos} {rest : List Stmt} (F : Fun K x x st f fd) (S : FnScope N ps (defScope st))
    (hb : defBody st = .Expr (.Call (.Name "check_plan" p1) [.Name "plan" p2] [] p3) p4 :: .Expr (.Call (.Name "check_filling" q1) [.Call (.Name "len" q2) [.Name "plan" q3] [] q4, .Name "filling" q5] [] q6) q7 :: rest)
    (h0 : N[0]? = some ("plan" : Str)) (h1 : N[1]? = some ("filling" : Str)) (hv : (defScope st).names.lookup ("plan" : Str) = some .local ∨ (defScope st).names.lookup ("plan" : Str) = some .cell) (hw : (defScope st).names.lookup ("filling" : Str) = some .local ∨ (defScope st).names.lookup ("filling" : Str) = some .cell)
    (hg : (defScope st).names.lookup ("check_plan" : Str) = some .globalImplicit) (hg2 : (defScope st).names.lookup ("check_filling" : Str) = some .globalImplicit) (hgl : (defScope st).names.lookup ("len" : Str) = some .globalImplicit) {n : Nat} (hn : ps.length = n)
    (GC : FnOk P w K mg base (L2.CX P w) 5 fC fdC ["plan"] (spCheckG K C)) (bC : Binds K fdC ["plan"] []) (gC : mg "check_plan" = some (.ref fC)) (kC : PySem.W.keepIn K (.ref fC) = true)
    (GK : FnOk P w K mg base (L2.CX P w) 4 fK fdK ["size", "filling"] (spCheckFG K CF)) (bK : Binds K fdK ["size", "filling"] []) (gK : mg "check_filling" = some (.ref fK)) (kK : PySem.W.keepIn K (.ref fK) = true) (ml : mg "len" = none) :
    FnOk P w K mg base (L2.CX P w) 6 f fd ps (spBadF K CF n) := by
  refine F.okX S (fun vs H Q E h => ?_) (fun cdv A outer s H vs Q E hr h => ?_)
  · obtain ⟨a, cs, u, rest, c, rfl, e, _⟩ := h
    rw [hn, ← e]
    rfl
  · obtain ⟨a, cs, u, l, c, rfl, e, hpl, gd, h24, hf, hbad, kE⟩ := h
    have hp := planV_good hpl gd h24
    obtain ⟨xs, hx, hc⟩ := hpl
    have hxm : xs.length = cs.length := Paired.length hc
    obtain ⟨t', ht'⟩ := pss_any (X := cxOf (L2.CX P w) P w K mg base N x (defScope st) f cdv A outer s H E) rest
    have hr4 : Room 4 _ := hr.mono (by decide)
    rw [hb]
    refine ⟨_, pss_cons (ps_expr (pe_callS GC hr hg gC kC bC (fun σ => passAt (takes_of rfl rfl rfl rfl) σ) (pa_cons (pv 0 h0 (by rcases hv with z | z <;> first | exact Or.inl z | exact Or.inr (Or.inl z)) (by decide) (by decide)) pa_nil)))
      (pss_cons (ps_expr (pe_callS GK hr4 hg2 gK kK bK (fun σ => passAt (takes_of rfl rfl rfl rfl) σ) (pa_cons (pe_callB call_len_seq hgl ml PySem.boot_len (pa_cons (pv 0 h0 (by rcases hv with z | z <;> first | exact Or.inl z | exact Or.inr (Or.inl z)) (by decide) (by decide)) pa_nil))
        (pa_cons (pv 1 h1 (by rcases hw with z | z <;> first | exact Or.inl z | exact Or.inr (Or.inl z)) (by decide) (by decide)) pa_nil)))) ht'), ?_⟩
    refine ⟨_, rfl, _, .ok, rfl, hp, (fun _ H1 s1 => ?_), (fun z => nomatch z)⟩
    refine ⟨_, rfl, a, xs, rfl, .inr (same_seqT s1 hx), _, rfl, cs.length, u, c, by rw [hxm], hf.same s1, (fun z => Bool.noConfusion (hbad.symm.trans z)), fun _ H' d s2 _ hd => kE H' d (s1.trans s2) hd⟩
/-- the promises of good and of bad ones together -/
theorem ok_both {CX : CXT} {f : Addr} {fd : FuncData} {ps : List Str} {j k : Nat} {sp1 sp2 : Sp} (G : FnOk P w K mg base CX0 j f fd ps sp1) (B : FnOk P w K mg base CX k f fd ps sp2) (h : j ≤ k) :
    FnOk P w K mg base CX k f fd ps (fun vs H Q E => sp1 vs H Q E0 ∨ sp2 vs H Q E) := by
  refine ⟨fun vs H Q E h => h.elim (fun z => G.len _ _ _ _ z) fun z => B.len _ _ _ _ z, fun A outer s H args us vs Q E hr e0 hb r hsp => ?_⟩
  rcases hsp with z | z
  · refine codeAny_mono (G.run A outer s H args us vs Q E0 (hr.mono h) e0 hb r z) fun r' s' hq => ?_
    cases r' with
    | error e => cases hq
    | ok fl => cases fl <;> exact hq
  · exact B.run A outer s H args us vs Q E hr e0 hb r z
end
/-- a thing that is a plan, is one -/
theorem planV_ok {K : PySem.W.Frag} {H : Hp} {v : V} {b : Verd} (h : PlanV K H v b) (g : b.good = true) : ∃ a cs, v = .ref a ∧ PlanAt K H a cs ∧ Good cs ∧ cs.length ≤ 24 := by
  cases b with
  | non => cases g
  | «at» i => cases g
  | ok =>
    obtain ⟨a, xs, rs, rfl, hx, l1, l2, he, ok⟩ := h
    have key : ∀ (xs : List V) (rs : List (Option Cell)), Els K H xs rs → (∀ j, j < rs.length → ∃ c, rs[j]? = some (some c)) → ∃ cs, rs = cs.map some ∧ CellsAt K H xs cs ∧ ∀ c ∈ cs, InGrid c := by
      intro xs rs he
      induction he with
      | nil => exact fun _ => ⟨[], rfl, .nil, fun c hc => nomatch hc⟩
      | @cons x o xs rs h hs ih =>
        intro hk
        obtain ⟨c, hc⟩ := hk 0 (Nat.succ_pos _)
        cases hc
        obtain ⟨cs, e1, e2, e3⟩ := ih fun j hj => hk (j + 1) (Nat.succ_lt_succ hj)
        refine ⟨c :: cs, by rw [e1]; rfl, .cons h.1 e2, fun c' hc' => ?_⟩
        rcases List.mem_cons.mp hc' with z | z
        · rw [z]; exact h.2
        · exact e3 c' z
    obtain ⟨cs, rfl, hc, hg⟩ := key xs rs he fun j hj => (ok j hj).elim fun c z => ⟨c, z.1⟩
    have cl : cs.length = xs.length := (Paired.length hc).symm
    refine ⟨a, cs, rfl, ⟨xs, hx, hc⟩, ⟨?_, hg, fun z => ?_⟩, by omega⟩
    · have step : ∀ i, i + 1 < cs.length → ∃ c c', cs[i]? = some c ∧ cs[i + 1]? = some c' ∧ lt2 c c' := fun i hi => by
        obtain ⟨c', e1, e2⟩ := ok (i + 1) (by rw [List.length_map]; exact hi)
        obtain ⟨c, e3, e4⟩ := e2 i rfl
        rw [List.getElem?_map] at e1 e3
        refine ⟨c, c', ?_, ?_, e4⟩
        · cases z : cs[i]? with
          | none => rw [z] at e3; cases e3
          | some y => rw [z] at e3; cases e3; rfl
        · cases z : cs[i + 1]? with
          | none => rw [z] at e1; cases e1
          | some y => rw [z] at e1; cases e1; rfl
      have tr : ∀ {x y z : Cell}, lt2 x y → lt2 y z → lt2 x z := fun {x y z} h1 h2 => by
        unfold lt2 at *
        omega
      have far : ∀ d i, i + d + 1 < cs.length → ∃ c c', cs[i]? = some c ∧ cs[i + d + 1]? = some c' ∧ lt2 c c' := fun d => by
        induction d with
        | zero => exact fun i hi => step i hi
        | succ d ih =>
          intro i hi
          obtain ⟨c, c', e1, e2, e3⟩ := ih i (by omega)
          obtain ⟨c1, c2, e4, e5, e6⟩ := step (i + d + 1) (by omega)
          rw [e2] at e4
          cases e4
          exact ⟨c, c2, e1, e5, tr e3 e6⟩
      rw [List.pairwise_iff_getElem]
      intro i j hi hj hij
      obtain ⟨c, c', e1, e2, e3⟩ := far (j - i - 1) i (by omega)
      have ej : i + (j - i - 1) + 1 = j := by omega
      rw [ej] at e2
      rw [List.getElem?_eq_getElem hi] at e1
      rw [List.getElem?_eq_getElem hj] at e2
      cases e1
      cases e2
      exact e3
    · rw [z] at cl
      have : 0 = xs.length := cl
      omega
theorem filV_ok {K : PySem.W.Frag} {H : Hp} {n : Nat} {v : V} {b : Verd} (h : FilV K H n v b) (g : b.good = true) : ∃ a vs, v = .ref a ∧ SqT K H a (vs.map V.int) ∧ Vals9 n vs := by
  cases b with
  | non => cases g
  | «at» i => cases g
  | ok =>
    obtain ⟨a, xs, rs, rfl, hx, hl, he, ok⟩ := h
    obtain ⟨is, e1, e2⟩ := okV_take he ok
    have rl := Paired.length he
    rw [List.take_of_length_le (by omega)] at e1
    rw [List.take_length] at e2
    refine ⟨a, is, rfl, by rw [← e1]; exact hx, ?_, ?_, fun v hv => ?_⟩
    · rw [e2, List.length_map] at rl
      omega
    · rw [List.nodup_iff_pairwise_ne, List.pairwise_iff_getElem]
      intro i j hi hj hij z
      obtain ⟨x, ex, hx⟩ := ok j (by rw [e2, List.length_map]; exact hj)
      rw [e2, List.getElem?_map, List.getElem?_eq_getElem hj] at ex
      cases ex
      refine hx i hij ?_
      rw [e2, List.getElem?_map, List.getElem?_eq_getElem hi, z]
      rfl
    · obtain ⟨i, hi, rfl⟩ := List.mem_iff_getElem.mp hv
      have hxi : xs[i]? = some (.int is[i]) := by rw [e1, List.getElem?_map, List.getElem?_eq_getElem hi]; rfl
      obtain ⟨o, ho, hox⟩ := paired_get he hxi
      rw [e2, List.getElem?_map, List.getElem?_eq_getElem hi] at ho
      cases ho
      exact hox.2
end KS
/-! lambdas with parameters, held as values, handed on from def to def and called there -/
namespace KS
open PySem PySem.Spec PyProof.Rows L2 LamX NdefX
/-- the object at f is the lambda: F its names and captured cells (its body is not F's), eb its body -/
def LamO (f : Addr) (F : NF) (eb : Expr) : HO := .ext fun h => ∃ (pm ctv : Value), h.get? f = some (PySem.W.kla_obj "<lambda>" F.qual F.params eb F.scope F.cl pm F.c ctv)
theorem lamO_at {P : Program} {w : World} {H : Hp} {h : Heap} {f : Addr} {F : NF} {eb : Expr} (hok : HOk P w H h) (e : H f = some (LamO f F eb)) : ∃ (pm ctv : Value), h.get? f = some (PySem.W.kla_obj "<lambda>" F.qual F.params eb F.scope F.cl pm F.c ctv) := by
  obtain ⟨z, _, _⟩ := hok f _ e
  exact z
theorem lamO_ne {f : Addr} {F : NF} {eb : Expr} (ps : Array Value) : LamO f F eb ≠ .tbl ps := fun z => by
  unfold LamO at z
  cases z
abbrev LF (scope : Scope) (params : Arguments) (qual : Str) (cl : List (Str × Addr)) (c : Addr) : NF := ⟨"<lambda>", qual, params, [], scope, cl, c⟩
section
variable {X : Cx} {pins : List (Addr × Obj)} {σ : L2.St} {H : Hp} {s : Shared} {cl : List (Str × Addr)} {fr : List Str} {ws : List (Option V)}
theorem isCell_any {fs ex : List Addr} {H H1 : Hp} {h h1 : Heap} {c : Addr} {v : Option Value} (u : Un fs ex H H1 h h1) (n : H c = none) (hx : c ∉ ex) : h.IsCell c v → h1.IsCell c v := fun ⟨o, ho, hd⟩ => by
  obtain ⟨sl, q⟩ := u.any ho n hx
  exact ⟨_, q, hd⟩
/-- what the cells held when the running frame began they hold still -/
theorem cells_later (C : NdefX.CellsAt cl fr ws X.s_0.heap X.H_0) (hx : X.ex = []) (I : Inv X pins σ H s) : NdefX.CellsAt cl fr ws s.heap H := by
  have nx : ∀ c : Addr, c ∉ X.ex := fun c => by rw [hx]; simp
  refine ⟨C.len, fun y c e => ?_, C.inj, fun i y e => ?_⟩
  · obtain ⟨n, v, z⟩ := C.all y c e
    refine ⟨?_, v, isCell_any I.base n (nx c) z⟩
    obtain ⟨o, ho, _⟩ := z
    exact I.base.free c o ho n (nx c)
  · obtain ⟨c, hc, hv⟩ := C.has i y e
    refine ⟨c, hc, fun v ev => ?_⟩
    obtain ⟨u, r, z⟩ := hv v ev
    exact ⟨u, r, isCell_any I.base (C.all y c hc).1 (nx c) z⟩
/-- the lambda's object just made is known from now on -/
theorem inv_lam {F : NF} {eb : Expr} {o : Obj} {t' : Nat} {pm ctv : Value} (I : Inv X pins σ H s) (ho : o = PySem.W.kla_obj "<lambda>" F.qual F.params eb F.scope F.cl pm F.c ctv) :
    Inv X pins σ (upd H s.heap.objs.size (LamO s.heap.objs.size F eb)) { s with heap := s.heap.push o, toks := t' } := by
  subst ho
  refine I.laid (a := s.heap.objs.size) (fun b u e => Heap.get?_push_of_some _ e) (Nat.le_refl _) ?_
  have e : (s.heap.push (PySem.W.kla_obj "<lambda>" F.qual F.params eb F.scope F.cl pm F.c ctv)).get? s.heap.objs.size = some (PySem.W.kla_obj "<lambda>" F.qual F.params eb F.scope F.cl pm F.c ctv) := Heap.get?_push_size _ rfl
  exact ⟨⟨pm, ctv, e⟩, ⟨_, e⟩, fun h1 h2 ⟨p, t, z⟩ st => ⟨p, t, st _ z⟩⟩
/-- the lambda is made: its code object is new, or found in the table -/
theorem lam_makeV {T : List (Addr × Str)} {c P : Addr} {params : Arguments} {body : Expr} {scope : Scope} {pos : Pos} {E : Value → Shared → Prop} {Q : Value → Shared → Prop} (I : Inv X pins σ H s) (TB : TabB X.base X.mg c P) (hcode : X.env.code = .ref c)
    (hm : (P, X.env.qual ++ "<lambda>") ∈ T) (hu : ∀ p ∈ T, p.1 = P → p.2 = X.env.qual ++ "<lambda>") (hT : Tabs T H) (hdef : defaultsOf params X.env = ([], [])) (hfree : ∀ y ∈ scope.names, y.2 = .free → ∃ c, X.env.cells.lookup y.1 = some c)
    (h : ∀ (f c' : Addr) (H1 : Hp) (s' : Shared), Inv X pins σ H1 s' → ExtN H H1 → (∀ b, H1 b = none → H b = none) → Tabs T H1 → H f = none → H1 f = some (LamO f (LF scope params (X.env.qual ++ "<lambda>") (cloFrom X.env.cells scope.names []) c') body) → H1 c' = some (CodeO c' (X.env.qual ++ "<lambda>")) → Q (.ref f) s') :
    wpAny (model X.prog X.w) X.A (eval (.Lambda params body scope pos) X.env) Q E s := by
  obtain ⟨ps, hP, ht, ha⟩ := hT _ hm
  refine PySem.W.kla_eval hdef ?_
  have bP : s.heap.BuiltinsAt X.mg P := TB.bm.keeps I.bk
  have hP' : s.heap.get? P = some { cls := .none, data := .fields ps } := I.hok P _ hP
  cases hc : codeAmong pos ps.toList with
  | none =>
    refine PySem.W.kla_makeFunction (mg := X.mg) (c := c) (P := P) (ps := ps) (closure_ok hfree) I.ok.glob (I.mod.glob.keeps I.bk) hcode (TB.code.keeps I.bk) hP' ht hc TB.gP bP fun c' ctv h' tk hx hge hlt hrec htb => ?_
    obtain ⟨c2, oc, vs, t, e2, hoc, hd, hv⟩ := hrec
    cases e2
    have nC : H c' = none := I.hok.fresh hge
    have I1 := inv_table (t' := tk) (more := #[rawInt pos.line, rawInt pos.col, .ref c']) (h' := h') I hP (fun b o hb e => hx b o hb e) htb hge ⟨oc, vs, t, hoc, hd, hv⟩
    have hE : ExtN H (upd (upd H P (.tbl (ps ++ #[rawInt pos.line, rawInt pos.col, .ref c']))) c' (CodeO c' (X.env.qual ++ "<lambda>"))) := fun b o e n => by
      rw [upd_ne (ne_of_none e nC), upd_ne (fun z => n ps (Option.some.inj (e.symm.trans (by rw [z]; exact hP))))]
      exact e
    have eL : (ps ++ #[rawInt pos.line, rawInt pos.col, .ref c']).toList = ps.toList ++ [rawInt pos.line, rawInt pos.col, .ref c'] := by simp
    have T1 : Tabs T (upd (upd H P (.tbl (ps ++ #[rawInt pos.line, rawInt pos.col, .ref c']))) c' (CodeO c' (X.env.qual ++ "<lambda>"))) := fun p hp => by
      by_cases hb : p.1 = P
      · rw [hu p hp hb, hb]
        refine ⟨_, by rw [upd_ne (ne_of_none hP nC), upd_same], by rw [eL]; exact PySem.TriplesOk_snoc _ _ _ _ ht, fun p' cv hcv => ?_⟩
        rw [eL] at hcv
        rcases among_app _ ht hcv with z | z
        · obtain ⟨c0, e1, e2⟩ := ha p' cv z
          exact ⟨c0, e1, hE _ _ e2 codeO_ne⟩
        · exact ⟨c', z, upd_same⟩
      · obtain ⟨ps', a1, a2, a3⟩ := hT p hp
        refine ⟨ps', by rw [upd_ne (ne_of_none a1 nC), upd_ne hb]; exact a1, a2, fun p' cv hcv => ?_⟩
        obtain ⟨c0, e1, e2⟩ := a3 p' cv hcv
        exact ⟨c0, e1, hE _ _ e2 codeO_ne⟩
    have nF := I1.hok.fresh (Nat.le_refl _)
    have I2 := inv_lam (F := LF scope params (X.env.qual ++ "<lambda>") (cloFrom X.env.cells scope.names []) c') (eb := body) (t' := tk) (pm := (X.mg "__name__").getD .none) (ctv := ctv) I1 rfl
    refine h h'.objs.size c' _ _ I2 (fun b o e n => ?_) (fun b e => upd_none (upd_none (upd_none e))) (T1.ext fun b o e => ?_) (I.hok.fresh (Nat.le_trans hge (Nat.le_of_lt hlt))) upd_same ?_
    · have e1 := hE b o e n
      exact (upd_ne (ne_of_none e1 nF)).trans e1
    · exact (upd_ne (ne_of_none e nF)).trans e
    · exact (upd_ne (Nat.ne_of_lt hlt)).trans upd_same
  | some cv =>
    obtain ⟨c', e, hco⟩ := ha pos cv hc
    subst e
    refine PySem.W.kla_makeFunctionHit (mg := X.mg) (c := c) (P := P) (ps := ps) (closure_ok hfree) I.ok.glob (I.mod.glob.keeps I.bk) hcode (TB.code.keeps I.bk) hP' ht hc bP fun ctv h' tk hx hsz => ?_
    have I1 : Inv X pins σ H { s with heap := h', toks := tk } := I.kept hx
    have nF : H h'.objs.size = none := I1.hok.fresh (Nat.le_refl _)
    have I2 := inv_lam (F := LF scope params (X.env.qual ++ "<lambda>") (cloFrom X.env.cells scope.names []) c') (eb := body) (t' := tk) (pm := (X.mg "__name__").getD .none) (ctv := ctv) I1 rfl
    refine h h'.objs.size c' _ _ I2 (fun b o e n => ?_) (fun b e => upd_none e) (hT.ext fun b o e => ?_) nF upd_same ?_
    · exact (upd_ne (ne_of_none e nF)).trans e
    · exact (upd_ne (ne_of_none e nF)).trans e
    · exact (upd_ne (ne_of_none hco nF)).trans hco
/-- what the making of a lambda asks, and what it answers -/
def tLamV (T : List (Addr × Str)) (mk : Addr → NF) (body : Expr) : TE := fun σ H Q => Tabs T H ∧ ∀ (f c' : Addr) (H1 : Hp), ExtN H H1 → (∀ b, H1 b = none → H b = none) → Tabs T H1 → H f = none → H1 f = some (LamO f (mk c') body) → H1 c' = some (CodeO c' (mk c').qual) → Q (.ref f) H1
theorem pe_lamV {T : List (Addr × Str)} {c P : Addr} {params : Arguments} {body : Expr} {scope : Scope} {pos : Pos} (TB : TabB X.base X.mg c P) (hcode : X.env.code = .ref c)
    (hm : (P, X.env.qual ++ "<lambda>") ∈ T) (hu : ∀ p ∈ T, p.1 = P → p.2 = X.env.qual ++ "<lambda>") (hdef : defaultsOf params X.env = ([], [])) (hfree : ∀ y ∈ scope.names, y.2 = .free → X.env.scope.names.lookup y.1 = some .cell ∨ X.env.scope.names.lookup y.1 = some .free) :
    PE X (.Lambda params body scope pos) (tLamV T (LF scope params (X.env.qual ++ "<lambda>") (cloFrom X.env.cells scope.names [])) body) := by
  refine ⟨fun pins s σ H Q I h => ?_⟩
  obtain ⟨hT, h⟩ := h
  refine lam_makeV I TB hcode hm hu hT hdef (fun y hy e => (hfree y hy e).elim (fun z => I.ok.has _ (.inl z)) fun z => I.ok.has _ (.inr z)) fun f c' H1 s' I1 e1 e2 e3 e4 e5 e6 => ?_
  exact ⟨.ref f, H1, I1, rfl, h f c' H1 e1 e2 e3 e4 e5 e6⟩
end
/-! ### what a lambda promises -/
/-- the promise of the lambda at f: sp ws, ws what its captured cells hold at the call -/
structure LOk (P : Program) (w : World) (K : PySem.W.Frag) (mg : Str → Option Value) (base : Heap) (CX : CXT) (k : Nat) (f : Addr) (F : NF) (eb : Expr) (ps fr : List Str) (sp : List (Option V) → Sp) : Prop where
  len : ∀ ws vs H Q E, sp ws vs H Q E → vs.length = ps.length
  run : ∀ (A : Around) (outer : List Env) (s : Shared) (H : Hp) (us : List Value) (vs : List V) (ws : List (Option V)) (Q : VK) (E : XK), Room k A → Env0 P w K mg base A outer s H → H f = some (LamO f F eb) → H F.c = some (CodeO F.c F.qual) →
    NdefX.CellsAt F.cl fr ws s.heap H → Vals vs us → sp ws vs H Q E → codeAny (model P w) A (.call (.ref f) ⟨us, []⟩) (CR CX outer P w H s Q E) s
section
variable {CX : CXT} {P : Program} {w : World} {K : PySem.W.Frag} {mg : Str → Option Value} {base : Heap} {N ps fr : List Str} {F : NF} {eb : Expr} {f : Addr} {k j : Nat} {sp sp' : List (Option V) → Sp}
theorem LOk.mono (o : LOk P w K mg base CX j f F eb ps fr sp) (h : j ≤ k) : LOk P w K mg base CX k f F eb ps fr sp := ⟨o.len, fun A outer s H us vs ws Q E hr => o.run A outer s H us vs ws Q E (hr.mono h)⟩
/-- THE RULE: a lambda by its body -/
theorem lok_of (S : NScope N ps fr F.scope) (hb : ∀ (pm ctv : Value) (us : List Value), us.length = ps.length → bindArgs (PySem.W.kla_fn "<lambda>" F.qual F.params eb F.scope F.cl pm (.ref F.c) ctv) ⟨us, []⟩ = pure (ps.zip us)) (len : ∀ ws vs H Q E, sp ws vs H Q E → vs.length = ps.length)
    (hbody : ∀ (A : Around) (outer : List Env) (s : Shared) (H : Hp) (vs : List V) (ws : List (Option V)) (Q : VK) (E : XK), Room k (A.deeper (envF F f s.heap.objs.size)) → H f = some (LamO f F eb) → H F.c = some (CodeO F.c F.qual) → ws.length = fr.length → sp ws vs H Q E →
      ∃ t, PE (ncx CX P w K mg base N F f A outer s H E) eb t ∧ t (startF N vs ws) H Q) :
    LOk P w K mg base CX (k + 1) f F eb ps fr sp := by
  refine ⟨len, fun A outer s H us vs ws Q E hr e0 hf hc C r hsp => ?_⟩
  have hl := len _ _ _ _ _ hsp
  have lim : s.heap.NoLimit := e0.mod.nolimit.keeps fun b o e => (e0.bs b o e).1
  obtain ⟨pm, ctv, ho⟩ := lamO_at e0.hok hf
  refine PySem.W.kla_callFunE hr.depth ho rfl S.co S.gen rfl (codeO_at e0.hok hc) ?_
  rw [hb pm ctv us (by rw [← r.length]; exact hl)]
  refine wpAny_pure (wpAny_newFunctionEnv S.nocell (fun ⟨n, _⟩ hy => S.par n (List.of_mem_zip hy).1) (fun h₁ hns hsb => ⟨lim.fresh _ hsb, ?_⟩) S.kind)
  show codeAny _ _ (.expr eb (envF F f s.heap.objs.size)) _ _
  have kp : ∀ b o, s.heap.get? b = some o → h₁.get? b = some o := fun b o e => hsb.extBut b o (Nat.ne_of_lt (Heap.lt_size e)) (Heap.get?_push_of_some _ e)
  obtain ⟨t, ht, hq⟩ := hbody A outer s H vs ws Q E (hr.deeper _) hf hc C.len hsp
  have I : Inv (ncx CX P w K mg base N F f A outer s H E) [] (startF N vs ws) H { s with heap := h₁, toks := s.toks + (ps.zip us).length } := inv_startN S hr.hd e0 hl r C hns kp
  refine PySem.W.kla_codeExpr (wpAny_mono (ht.run [] _ (startF N vs ws) H _ I hq) (fun v s' hs => ?_) fun e s' hs => hs)
  obtain ⟨w', H', J', rv, q⟩ := hs
  exact ⟨w', H', J'.os, J'.bare, J'.base, J'.hok, rv, q⟩
end
/-! ### defs that are handed a lambda: their promise of the very state's cells -/
structure FnOkC (P : Program) (w : World) (K : PySem.W.Frag) (mg : Str → Option Value) (base : Heap) (CX : CXT) (k : Nat) (f : Addr) (fd : FuncData) (ps : List Str) (sp : List (Str × Addr) → List Str → List (Option V) → Sp) : Prop where
  len : ∀ cl fr ws vs H Q E, sp cl fr ws vs H Q E → vs.length = ps.length
  run : ∀ (cl : List (Str × Addr)) (fr : List Str) (ws : List (Option V)) (A : Around) (outer : List Env) (s : Shared) (H : Hp) (args : Args) (us : List Value) (vs : List V) (Q : VK) (E : XK), Room k A → Env0 P w K mg base A outer s H → NdefX.CellsAt cl fr ws s.heap H → BindsTo s fd args (ps.zip us) → Vals vs us → sp cl fr ws vs H Q E →
    codeAny (model P w) A (.call (.ref f) args) (CR CX outer P w H s Q E) s
theorem FnOkC.mono {P : Program} {w : World} {K : PySem.W.Frag} {mg : Str → Option Value} {base : Heap} {CX : CXT} {j k : Nat} {f : Addr} {fd : FuncData} {ps : List Str} {sp : List (Str × Addr) → List Str → List (Option V) → Sp} (F : FnOkC P w K mg base CX j f fd ps sp) (h : j ≤ k) :
    FnOkC P w K mg base CX k f fd ps sp := ⟨F.len, fun cl fr ws A outer s H args us vs Q E hr => F.run cl fr ws A outer s H args us vs Q E (hr.mono h)⟩
section
variable {P : Program} {w : World} {K : PySem.W.Frag} {mg : Str → Option Value} {base : Heap}
theorem okC {x qual : Str} {st : Stmt} {f : Addr} {fd : FuncData} {N ps : List Str} {k : Nat} {sp : List (Str × Addr) → List Str → List (Option V) → Sp} (F : Fun K x qual st f fd) (S : FnScope N ps (defScope st)) (len : ∀ cl fr ws vs H Q E, sp cl fr ws vs H Q E → vs.length = ps.length)
    (hbody : ∀ (cl : List (Str × Addr)) (fr : List Str) (ws : List (Option V)) (cdv : Value) (A : Around) (outer : List Env) (s : Shared) (H : Hp) (vs : List V) (Q : VK) (E : XK), Room k (A.deeper (envOfC qual (defScope st) s.heap.objs.size f cdv)) → NdefX.CellsAt cl fr ws s.heap H → sp cl fr ws vs H Q E →
      ∃ t, PSs (cxOf CX0 P w K mg base N qual (defScope st) f cdv A outer s H E).nox (defBody st) t ∧ t { nx := fun _ H' => Q .non H', rt := Q } (start N vs) H) : FnOkC P w K mg base CX0 (k + 1) f fd ps sp := by
  obtain ⟨oc, od, kV, doc, pm, an, cdv, ct, osl, rfl, lk, hcd⟩ := F.ex
  refine ⟨len, fun cl fr ws A outer s H args us vs Q E hr e0 C hb r hsp => ?_⟩
  refine run_ofS lk hcd S hr e0 hb r (len _ _ _ _ _ _ _ hsp) fun hr2 => ?_
  obtain ⟨t, h, q⟩ := hbody cl fr ws cdv A outer s H vs Q E hr2 C hsp
  exact ⟨t, h.nox, q⟩
end
section
variable {X : Cx} {CX : CXT} {k : Nat} {f : Addr} {fd : FuncData} {ps : List Str} {sp : List (Str × Addr) → List Str → List (Option V) → Sp} {E : XK} {x : Str} {p pos : Pos} {e : Expr} {es : List Expr} {t : TA} {cl : List (Str × Addr)} {fr : List Str} {ws : List (Option V)}
theorem run_fnC {pins : List (Addr × Obj)} {σ : L2.St} {H : Hp} {s : Shared} {Q : VK} {us : List Value} {vs : List V} (F : FnOkC X.prog X.w X.K X.mg X.base CX k f fd ps sp) (hr : Room k X.A) (hb : L2.Binds X.K fd ps []) (hx : Passes CX X E)
    (I : Inv X pins σ H s) (C : NdefX.CellsAt cl fr ws s.heap H) (r : Vals vs us) (h : sp cl fr ws vs H Q E) : wpAny (model X.prog X.w) X.A (call (.ref f) us) (EP X pins σ Q) X.xe s := by
  have hl : us.length = ps.length := by rw [← r.length]; exact F.len _ _ _ _ _ _ _ h
  have hb' := hb s us I.kIn (by rw [List.append_nil]; exact hl)
  rw [List.append_nil] at hb'
  refine wpAny_call (codeAny_mono (F.run cl fr ws X.A X.stack s H ⟨us, []⟩ us vs Q E hr I.env0 C hb' r h) fun r s' hq => ?_)
  cases r with
  | error e => exact hx pins σ H s e s' I hq
  | ok fl =>
    cases fl with
    | ret u => exact I.after hq
    | next => exact False.elim hq
    | brk => exact False.elim hq
    | cont => exact False.elim hq
/-- f(..), f a def that is handed on a lambda whose cells were known when the running frame began -/
theorem pe_callC (F : FnOkC X.prog X.w X.K X.mg X.base CX k f fd ps sp) (C : NdefX.CellsAt cl fr ws X.s_0.heap X.H_0) (hex : X.ex = []) (hr : Room k X.A) (hg : Gl X x) (hm : X.mg x = some (.ref f)) (hk : PySem.W.keepIn X.K (.ref f) = true) (hb : L2.Binds X.K fd ps []) (hx : Passes CX X E)
    (ha : PA X (e :: es) t) (hdb : (x == ("__debug__" : Str)) = false := by decide) (he : starEach (e :: es) X.env = (false, eval e X.env) :: starEach es X.env := by rfl) (hpl : (backTo pos (starEach es X.env)).any (·.1) = false := by rfl) :
    PE X (.Call (.Name x p) (e :: es) [] pos) (fun σ H Q => t σ H fun vs H1 => sp cl fr ws vs H1 Q E) := by
  refine ⟨fun pins s σ H Q I h => ?_⟩
  refine wpAny_Call_Name_kw (ld_glob I hg hm ?_ hdb)
  refine PySem.W.callWith_K (h₀ := X.base) I.ok.mod.kin hk (thn (ha.run pos pins s σ H _ I h) fun us s1 ⟨vs, H1, I1, r, q⟩ => ⟨I1.kIn, ?_⟩) he hpl
  exact run_fnC F hr hb hx I1 (cells_later C hex I1) r q
/-- .. whose cells are the running frame's own -/
theorem pe_callM {js : List Nat} (F : FnOkC X.prog X.w X.K X.mg X.base CX k f fd ps sp) (cp : X.Ok → Caps X cl fr js) (hr : Room k X.A) (hg : Gl X x) (hm : X.mg x = some (.ref f)) (hk : PySem.W.keepIn X.K (.ref f) = true) (hb : L2.Binds X.K fd ps []) (hx : Passes CX X E)
    (ha : PA X (e :: es) t) (hdb : (x == ("__debug__" : Str)) = false := by decide) (he : starEach (e :: es) X.env = (false, eval e X.env) :: starEach es X.env := by rfl) (hpl : (backTo pos (starEach es X.env)).any (·.1) = false := by rfl) :
    PE X (.Call (.Name x p) (e :: es) [] pos) (fun σ H Q => t σ H fun vs H1 => sp cl fr (js.map (slotAt σ)) vs H1 Q E) := by
  refine ⟨fun pins s σ H Q I h => ?_⟩
  refine wpAny_Call_Name_kw (ld_glob I hg hm ?_ hdb)
  refine PySem.W.callWith_K (h₀ := X.base) I.ok.mod.kin hk (thn (ha.run pos pins s σ H _ I h) fun us s1 ⟨vs, H1, I1, r, q⟩ => ⟨I1.kIn, ?_⟩) he hpl
  exact run_fnC F hr hb hx I1 (cells_of I1 (cp I1.ok)) r q
theorem lam_fnAt {F : NF} {eb : Expr} {pins : List (Addr × Obj)} {σ : L2.St} {H : Hp} {s : Shared} {g : Addr} (I : Inv X pins σ H s) (e : H g = some (LamO g F eb)) : PySem.W.FnAt g s.heap := by
  obtain ⟨pm, ctv, ho⟩ := lamO_at I.hok e
  exact ⟨_, none, _, #[], ho⟩
/-- g(..), g a local name that holds the lambda -/
theorem pe_callL2 {g : Addr} {F : NF} {eb : Expr} {i : Nat} {spl : List (Option V) → Sp} (Fn : LOk X.prog X.w X.K X.mg X.base CX k g F eb ps fr spl) (C : NdefX.CellsAt F.cl fr ws X.s_0.heap X.H_0) (hex : X.ex = []) (hr : Room k X.A) (hx : Passes CX X E) (hN : X.N[i]? = some x) (hv : Vis X.env.scope x) (ha : PA X (e :: es) t)
    (hd : (x == ("__debug__" : Str)) = false := by decide) (hcd : (x == ("__classdict__" : Str)) = false := by decide)
    (he : starEach (e :: es) X.env = (false, eval e X.env) :: starEach es X.env := by rfl) (hpl : (backTo pos (starEach es X.env)).any (·.1) = false := by rfl) :
    PE X (.Call (.Name x p) (e :: es) [] pos) (fun σ H Q => σ[i]? = some (some (.ref g)) ∧ H g = some (LamO g F eb) ∧ t σ H fun vs H1 => H1 g = some (LamO g F eb) ∧ H1 F.c = some (CodeO F.c F.qual) ∧ spl ws vs H1 Q E) := by
  refine ⟨fun pins s σ H Q I h => ?_⟩
  obtain ⟨hs, hf, ht⟩ := h
  refine wpAny_Call_Name_kw (thn ((pe_var (pos := p) hN hv hd hcd).run pins s σ H (fun v H1 => v = .ref g ∧ H1 = H) I ⟨.ref g, hs, rfl, rfl⟩) fun u s1 ⟨v, H1, I1, r1, q1⟩ => ?_)
  obtain ⟨ev, eH⟩ := q1
  subst ev
  rw [eH] at I1
  obtain rfl : u = Value.ref g := r1
  refine PySem.W.callWith_F (first := []) (lam_fnAt I1 hf) (thn (ha.run pos pins s1 σ H _ I1 ht) fun us s2 ⟨vs, H2, I2, r, h1, h2, q⟩ => ⟨lam_fnAt I2 h1, ?_⟩) he hpl
  show wpAny _ _ (call (.ref g) us) _ _ _
  refine wpAny_call (codeAny_mono (Fn.run X.A X.stack s2 H2 us vs _ Q E hr I2.env0 h1 h2 (cells_later C hex I2) r q) fun r s' hq => ?_)
  cases r with
  | error e => exact hx pins σ H2 s2 e s' I2 hq
  | ok fl =>
    cases fl with
    | ret u => exact I2.after hq
    | next => exact False.elim hq
    | brk => exact False.elim hq
    | cont => exact False.elim hq
end
end KS
/-! calls of lambdas that may raise -/
namespace KS
open PySem PySem.Spec PyProof.Rows L2 LamX NdefX
section
variable {X : Cx} {CX : CXT} {k : Nat} {ps fr : List Str} {E : L2.St → XK} {x : Str} {p pos : Pos} {e : Expr} {es : List Expr} {t : TA} {ws : List (Option V)}
/-- g(), g a local name that holds the lambda -/
theorem pe_callL0S {g : Addr} {F : NF} {eb : Expr} {i : Nat} {spl : List (Option V) → Sp} (Fn : LOk X.prog X.w X.K X.mg X.base CX k g F eb [] fr spl) (C : NdefX.CellsAt F.cl fr ws X.s_0.heap X.H_0) (hex : X.ex = []) (hr : Room k X.A) (hx : ∀ σ, PassesAt CX X σ (E σ)) (hN : X.N[i]? = some x) (hv : Vis X.env.scope x)
    (hd : (x == ("__debug__" : Str)) = false := by decide) (hcd : (x == ("__classdict__" : Str)) = false := by decide) :
    PE X (.Call (.Name x p) [] [] pos) (fun σ H Q => σ[i]? = some (some (.ref g)) ∧ H g = some (LamO g F eb) ∧ H F.c = some (CodeO F.c F.qual) ∧ spl ws [] H Q (E σ)) := by
  refine ⟨fun pins s σ H Q I h => ?_⟩
  obtain ⟨hs, hf, hc, q⟩ := h
  refine wpAny_Call_Name_kw (thn ((pe_var (pos := p) hN hv hd hcd).run pins s σ H (fun v H1 => v = .ref g ∧ H1 = H) I ⟨.ref g, hs, rfl, rfl⟩) fun u s1 ⟨v, H1, I1, r1, q1⟩ => ?_)
  obtain ⟨ev, eH⟩ := q1
  subst ev
  rw [eH] at I1
  obtain rfl : u = Value.ref g := r1
  refine PySem.W.callWith_F0 (first := []) (lam_fnAt I1 hf) ?_
  show wpAny _ _ (call (.ref g) []) _ _ _
  refine wpAny_call (codeAny_mono (Fn.run X.A X.stack s1 H [] [] _ Q (E σ) hr I1.env0 hf hc (cells_later C hex I1) .nil q) fun r s' hq => ?_)
  cases r with
  | error e => exact hx σ pins H s1 e s' I1 hq
  | ok fl =>
    cases fl with
    | ret u => exact I1.after hq
    | next => exact False.elim hq
    | brk => exact False.elim hq
    | cont => exact False.elim hq
/-- g(..), g a name that holds the lambda -/
theorem pe_callLS {g : Addr} {F : NF} {eb : Expr} {i : Nat} {spl : List (Option V) → Sp} (Fn : LOk X.prog X.w X.K X.mg X.base CX k g F eb ps fr spl) (C : NdefX.CellsAt F.cl fr ws X.s_0.heap X.H_0) (hex : X.ex = []) (hr : Room k X.A) (hx : ∀ σ, PassesAt CX X σ (E σ)) (hN : X.N[i]? = some x) (hv : Vis X.env.scope x) (ha : PA X (e :: es) t)
    (hd : (x == ("__debug__" : Str)) = false := by decide) (hcd : (x == ("__classdict__" : Str)) = false := by decide)
    (he : starEach (e :: es) X.env = (false, eval e X.env) :: starEach es X.env := by rfl) (hpl : (backTo pos (starEach es X.env)).any (·.1) = false := by rfl) :
    PE X (.Call (.Name x p) (e :: es) [] pos) (fun σ H Q => σ[i]? = some (some (.ref g)) ∧ H g = some (LamO g F eb) ∧ t σ H fun vs H1 => H1 g = some (LamO g F eb) ∧ H1 F.c = some (CodeO F.c F.qual) ∧ spl ws vs H1 Q (E σ)) := by
  refine ⟨fun pins s σ H Q I h => ?_⟩
  obtain ⟨hs, hf, ht⟩ := h
  refine wpAny_Call_Name_kw (thn ((pe_var (pos := p) hN hv hd hcd).run pins s σ H (fun v H1 => v = .ref g ∧ H1 = H) I ⟨.ref g, hs, rfl, rfl⟩) fun u s1 ⟨v, H1, I1, r1, q1⟩ => ?_)
  obtain ⟨ev, eH⟩ := q1
  subst ev
  rw [eH] at I1
  obtain rfl : u = Value.ref g := r1
  refine PySem.W.callWith_F (first := []) (lam_fnAt I1 hf) (thn (ha.run pos pins s1 σ H _ I1 ht) fun us s2 ⟨vs, H2, I2, r, h1, h2, q⟩ => ⟨lam_fnAt I2 h1, ?_⟩) he hpl
  show wpAny _ _ (call (.ref g) us) _ _ _
  refine wpAny_call (codeAny_mono (Fn.run X.A X.stack s2 H2 us vs _ Q (E σ) hr I2.env0 h1 h2 (cells_later C hex I2) r q) fun r s' hq => ?_)
  cases r with
  | error e => exact hx σ pins H2 s2 e s' I2 hq
  | ok fl =>
    cases fl with
    | ret u => exact I2.after hq
    | next => exact False.elim hq
    | brk => exact False.elim hq
    | cont => exact False.elim hq
end
end KS
/-! doors: defs that take a plan, and a filling, of any worth -/
namespace KS
open PySem PySem.Spec PyProof.Rows L2 LamX NdefX
/-! ### things stay what they are when tables grow -/
theorem ktN {K : PySem.W.Frag} {G G' : Hp} (e : ExtN G G') : KT K G G' := fun a xs q => by
  rcases q with (q | ⟨ob, q⟩) | q
  · exact .inl (.inl (e _ _ q (fun ps z => nomatch z)))
  · exact .inl (.inr ⟨ob, e _ _ q (fun ps z => nomatch z)⟩)
  · exact .inr q
section
variable {K : PySem.W.Frag} {H H' : Hp}
theorem Oth.ext {v : V} {t : String} (s : ExtN H H') (h : Oth K H v t) : Oth K H' v t := by
  cases h with
  | non => exact .non
  | bl b => exact .bl b
  | int i => exact .int i
  | str x => exact .str x
  | lst e => exact .lst (s _ _ e (fun ps z => nomatch z))
  | dct e => exact .dct (s _ _ e (fun ps z => nomatch z))
  | tup e => exact .tup (ktN s _ _ e)
theorem PlR.ext {v : V} {b : Bool} (s : ExtN H H') (h : PlR K H v b) : PlR K H' v b := by
  cases b with
  | true => exact h
  | false =>
    rcases h with h | ⟨t, h, n⟩
    · exact .inl h
    · exact .inr ⟨t, h.ext s, n⟩
theorem ElR.ext {x : V} {o : Option Cell} (s : ExtN H H') (h : ElR K H x o) : ElR K H' x o := by
  cases o with
  | some c => exact ⟨h.1.kt (ktN s), h.2⟩
  | none =>
    rcases h with ⟨t, h, n⟩ | ⟨t, ys, e, h, n⟩ | ⟨t, y0, y1, b0, b1, e, h, p0, p1, n⟩
    · exact .inl ⟨t, h.ext s, n⟩
    · exact .inr (.inl ⟨t, ys, e, ktN s _ _ h, n⟩)
    · exact .inr (.inr ⟨t, y0, y1, b0, b1, e, ktN s _ _ h, p0.ext s, p1.ext s, n⟩)
theorem els_ext (s : ExtN H H') {xs : List V} {rs : List (Option Cell)} (h : Els K H xs rs) : Els K H' xs rs := Paired.mono (fun _ _ q => q.ext s) h
theorem PlanV.ext {v : V} {b : Verd} (s : ExtN H H') (h : PlanV K H v b) : PlanV K H' v b := by
  cases b with
  | ok =>
    obtain ⟨a, xs, rs, e, h1, h2, h3, h4, h5⟩ := h
    exact ⟨a, xs, rs, e, ktN s _ _ h1, h2, h3, els_ext s h4, h5⟩
  | non =>
    rcases h with ⟨t, h, n⟩ | ⟨a, xs, e, h, n⟩
    · exact .inl ⟨t, h.ext s, n⟩
    · exact .inr ⟨a, xs, e, ktN s _ _ h, n⟩
  | «at» i =>
    obtain ⟨a, xs, rs, e, h1, h2, h3, h4, h5⟩ := h
    exact ⟨a, xs, rs, e, ktN s _ _ h1, h2, h3, els_ext s h4, h5⟩
theorem BwR.ext {v : V} {lo hi : Int} {b : Bool} (s : ExtN H H') (h : BwR K H v lo hi b) : BwR K H' v lo hi b := by
  cases b with
  | true => exact h
  | false =>
    rcases h with h | ⟨t, h1, h2⟩
    · exact .inl h
    · exact .inr ⟨t, h1.ext s, h2⟩
theorem VlR.ext {v : V} {o : Option Int} (s : ExtN H H') (h : VlR K H v o) : VlR K H' v o := by
  cases o with
  | some i => exact h
  | none => exact BwR.ext (lo := 1) (hi := 9999) (b := false) s (show BwR K H v 1 9999 false from h)
theorem vls_ext (s : ExtN H H') {xs : List V} {rs : List (Option Int)} (h : Vls K H xs rs) : Vls K H' xs rs := Paired.mono (fun _ _ q => q.ext s) h
theorem FilV.ext {n : Nat} {v : V} {b : Verd} (s : ExtN H H') (h : FilV K H n v b) : FilV K H' n v b := by
  cases b with
  | ok =>
    obtain ⟨a, xs, rs, e, h1, h2, h3, h4⟩ := h
    exact ⟨a, xs, rs, e, ktN s _ _ h1, h2, vls_ext s h3, h4⟩
  | non =>
    rcases h with ⟨t, h1, h2⟩ | ⟨a, xs, e, h1, h2⟩
    · exact .inl ⟨t, h1.ext s, h2⟩
    · exact .inr ⟨a, xs, e, ktN s _ _ h1, h2⟩
  | «at» i =>
    obtain ⟨a, xs, rs, e, h1, h2, h3, h4, h5⟩ := h
    exact ⟨a, xs, rs, e, ktN s _ _ h1, h2, vls_ext s h3, h4, h5⟩
end
/-! ### promises of doors -/
theorem fn_weak {P : Program} {w : World} {K : PySem.W.Frag} {mg : Str → Option Value} {base : Heap} {CX : CXT} {k : Nat} {f : Addr} {fd : FuncData} {ps : List Str} {sp sp' : Sp} (G : FnOk P w K mg base CX k f fd ps sp) (h : ∀ vs H Q E, sp' vs H Q E → sp vs H Q E) :
    FnOk P w K mg base CX k f fd ps sp' := ⟨fun vs H Q E z => G.len _ _ _ _ (h _ _ _ _ z), fun A o s H args us vs Q E hr e0 hb r z => G.run A o s H args us vs Q E hr e0 hb r (h _ _ _ _ z)⟩
theorem fn_or {P : Program} {w : World} {K : PySem.W.Frag} {mg : Str → Option Value} {base : Heap} {CX : CXT} {k : Nat} {f : Addr} {fd : FuncData} {ps : List Str} {sp1 sp2 : Sp} (G : FnOk P w K mg base CX k f fd ps sp1) (B : FnOk P w K mg base CX k f fd ps sp2) :
    FnOk P w K mg base CX k f fd ps (fun vs H Q E => sp1 vs H Q E ∨ sp2 vs H Q E) := ⟨fun vs H Q E z => z.elim (G.len _ _ _ _) (B.len _ _ _ _), fun A o s H args us vs Q E hr e0 hb r z => z.elim (G.run A o s H args us vs Q E hr e0 hb r) (B.run A o s H args us vs Q E hr e0 hb r)⟩
/-- a plan's door: what is no plan is refused -/
def spPD (K : PySem.W.Frag) (C : Addr) (R : Hp → List V → Prop) : Sp := fun vs H Q E => ∃ (v : V) (rest : List V) (b : Verd), vs = v :: rest ∧ R H rest ∧ PlanV K H v b ∧ (b.good = true → ∀ u H', Same H H' → Q u H') ∧
  (b.good = false → ∀ H' d, Same H H' → H' d = some (.xd [(("index" : Str), vIdx b)]) → E (.ref C) (some d) H')
/-- a door of a plan and a filling -/
def spFD (K : PySem.W.Frag) (C CF : Addr) (R : Hp → List V → Prop) : Sp := fun vs H Q E => ∃ (v u : V) (rest : List V) (b c : Verd), vs = v :: u :: rest ∧ R H rest ∧ PlanV K H v b ∧ (b.good = true → ∃ a cs, v = .ref a ∧ PlanAt K H a cs ∧ Good cs ∧ cs.length ≤ 24 ∧ FilV K H cs.length u c) ∧ (b.good = true → c.good = true → ∀ u H', Same H H' → Q u H') ∧
  (b.good = false → ∀ H' d, Same H H' → H' d = some (.xd [(("index" : Str), vIdx b)]) → E (.ref C) (some d) H') ∧
  (b.good = true → c.good = false → ∀ H' d, Same H H' → H' d = some (.xd [(("index" : Str), vIdx c)]) → E (.ref CF) (some d) H')
section
variable {P : Program} {w : World} {K : PySem.W.Frag} {mg : Str → Option Value} {base : Heap} {f C CF : Addr} {fd : FuncData} {ps : List Str} {k n : Nat} {sp : Sp} {R : Hp → List V → Prop}
theorem pd_of (G : FnOk P w K mg base (L2.CX P w) k f fd ps (fun vs H Q E => sp vs H Q E0 ∨ spBadP K C n vs H Q E)) (hR : ∀ H rest, R H rest → rest.length + 1 = n)
    (hg : ∀ H Q a cs rest, PlanAt K H a cs → Good cs → cs.length ≤ 24 → R H rest → (∀ u H', Same H H' → Q u H') → sp (.ref a :: rest) H Q E0) : FnOk P w K mg base (L2.CX P w) k f fd ps (spPD K C R) := by
  refine fn_weak G fun vs H Q E h => ?_
  obtain ⟨v, rest, b, rfl, hr, hp, kg, ke⟩ := h
  cases e : b.good with
  | true =>
    obtain ⟨a, cs, rfl, h1, h2, h3⟩ := planV_ok hp e
    exact .inl (hg H Q a cs rest h1 h2 h3 hr (kg e))
  | false => exact .inr ⟨v, rest, b, rfl, hR _ _ hr, hp, e, ke e⟩
theorem fd_of (G : FnOk P w K mg base (L2.CX P w) k f fd ps (fun vs H Q E => sp vs H Q E0 ∨ (spBadP K C n vs H Q E ∨ spBadF K CF n vs H Q E))) (hR : ∀ H rest, R H rest → rest.length + 2 = n)
    (hg : ∀ H Q a t cs vs rest, PlanAt K H a cs → Good cs → cs.length ≤ 24 → SqT K H t (vs.map V.int) → Vals9 cs.length vs → R H rest → (∀ u H', Same H H' → Q u H') → sp (.ref a :: .ref t :: rest) H Q E0) : FnOk P w K mg base (L2.CX P w) k f fd ps (spFD K C CF R) := by
  refine fn_weak G fun vs H Q E h => ?_
  obtain ⟨v, u, rest, b, c, rfl, hr, hp, hm, kg, ke, kf⟩ := h
  cases e : b.good with
  | true =>
    obtain ⟨a, cs, rfl, h1, h2, h3, hf⟩ := hm e
    cases e2 : c.good with
    | true =>
      obtain ⟨t, vs, rfl, h4, h5⟩ := filV_ok hf e2
      exact .inl (hg H Q a t cs vs rest h1 h2 h3 h4 h5 hr (kg e e2))
    | false => exact .inr (.inr ⟨a, cs, u, rest, c, rfl, hR _ _ hr, h1, h2, h3, hf, e2, kf e e2⟩)
  | false => exact .inr (.inl ⟨v, u :: rest, b, rfl, by have := hR _ _ hr; rw [List.length_cons]; omega, hp, e, ke e⟩)
end
/-! ### doors that are lambdas, what is made of them -/
abbrev NoR : Hp → List V → Prop := fun _ r => r = []
/-- a lambda that is a door, at g -/
structure DoorL (P : Program) (w : World) (K : PySem.W.Frag) (mg : Str → Option Value) (base : Heap) (k : Nat) (ps : List Str) (sp : Sp) (H : Hp) (g : Addr) : Prop where
  ex : ∃ (F : NF) (eb : Expr), F.cl = [] ∧ H g = some (LamO g F eb) ∧ H F.c = some (CodeO F.c F.qual) ∧ LOk P w K mg base (L2.CX P w) k g F eb ps [] (fun _ => sp)
theorem DoorL.extE {P : Program} {w : World} {K : PySem.W.Frag} {mg : Str → Option Value} {base : Heap} {k : Nat} {ps : List Str} {sp : Sp} {H H' : Hp} {g : Addr} (e : ∀ b o, H b = some o → (∀ ps, o ≠ .tbl ps) → (∀ xs, o ≠ .lst xs) → H' b = some o) (h : DoorL P w K mg base k ps sp H g) : DoorL P w K mg base k ps sp H' g := by
  obtain ⟨F, eb, h0, h1, h2, h3⟩ := h.ex
  exact ⟨F, eb, h0, e _ _ h1 (fun ps => lamO_ne ps) (fun _ z => nomatch z), e _ _ h2 codeO_ne (fun _ z => nomatch z), h3⟩
theorem DoorL.ext {P : Program} {w : World} {K : PySem.W.Frag} {mg : Str → Option Value} {base : Heap} {k : Nat} {ps : List Str} {sp : Sp} {H H' : Hp} {g : Addr} (e : ExtN H H') (h : DoorL P w K mg base k ps sp H g) : DoorL P w K mg base k ps sp H' g :=
  h.extE fun b o z n _ => e b o z n
theorem tabs_but {T : List (Addr × Str)} {H : Hp} {L : Addr} {xs ys : List V} (t : Tabs T H) (hL : H L = some (.lst xs)) : Tabs T (upd H L (.lst ys)) := fun p hp => by
  obtain ⟨ps, h1, h2, h3⟩ := t p hp
  refine ⟨ps, by rw [upd_ne (fun z => by rw [z, hL] at h1; cases h1)]; exact h1, h2, fun pos cv hc => ?_⟩
  obtain ⟨c, e1, e2⟩ := h3 pos cv hc
  exact ⟨c, e1, by rw [upd_ne (fun z => by rw [z, hL] at e2; cases e2)]; exact e2⟩
/-- while doors are put into a list -/
structure DI (P : Program) (w : World) (K : PySem.W.Frag) (mg : Str → Option Value) (base : Heap) (k : Nat) (ps : List Str) (sp : Sp) (T : List (Addr × Str)) (H : Hp) (L : Addr) (xs : List V) (G : Hp) : Prop where
  new : H L = none
  ext : ExtN H G
  tab : Tabs T G
  at_ : G L = some (.lst xs)
  all : ∀ x ∈ xs, ∃ g, x = .ref g ∧ DoorL P w K mg base k ps sp G g
section
variable {P : Program} {w : World} {K : PySem.W.Frag} {mg : Str → Option Value} {base : Heap} {k : Nat} {ps : List Str} {sp : Sp} {T : List (Addr × Str)} {H : Hp} {L : Addr}
theorem DI.put {xs : List V} {G G1 : Hp} {g : Addr} (D : DI P w K mg base k ps sp T H L xs G) (e : ExtN G G1) (t : Tabs T G1) (d : DoorL P w K mg base k ps sp G1 g) : DI P w K mg base k ps sp T H L (xs ++ [.ref g]) (upd G1 L (.lst (xs ++ [.ref g]))) := by
  have hL : G1 L = some (.lst xs) := e _ _ D.at_ (fun _ z => nomatch z)
  have k1 : ∀ b o, G1 b = some o → (∀ ps, o ≠ .tbl ps) → (∀ xs, o ≠ .lst xs) → upd G1 L (.lst (xs ++ [.ref g])) b = some o := fun b o z _ n => by
    rw [upd_ne (fun y => by rw [y, hL] at z; cases z; exact n _ rfl)]
    exact z
  refine ⟨D.new, fun b o z n => ?_, tabs_but t hL, upd_same, fun x hx => ?_⟩
  · rw [upd_ne (ne_of_none z D.new)]
    exact e _ _ (D.ext _ _ z n) n
  · rcases List.mem_append.mp hx with z | z
    · obtain ⟨g', e1, e2⟩ := D.all x z
      exact ⟨g', e1, (e2.ext e).extE k1⟩
    · obtain rfl : x = .ref g := by simpa using z
      exact ⟨g, rfl, d.extE k1⟩
theorem DI.one {G : Hp} {g : Addr} (e : ExtN H G) (hf : ∀ b, G b = none → H b = none) (t : Tabs T G) (d : DoorL P w K mg base k ps sp G g) (n : G L = none) : DI P w K mg base k ps sp T H L [.ref g] (upd G L (.lst [.ref g])) := by
  have s1 := same_new (o := .lst [.ref g]) n
  refine ⟨hf _ n, fun b o z m => s1 _ _ (e _ _ z m), t.ext s1, upd_same, fun x hx => ?_⟩
  obtain rfl : x = .ref g := by simpa using hx
  exact ⟨g, rfl, d.ext (ExtN.of s1)⟩
theorem no_free {l : List (Str × NameKind)} {G : Str × NameKind → Prop} (h : l.all (fun y => !decide (y.2 = .free)) = true) : ∀ y ∈ l, y.2 = .free → G y := fun y hy e => by
  have := List.all_eq_true.mp h y hy
  rw [e] at this
  cases this
/-- the lambda just made is a door -/
theorem door_of {f c : Addr} {scope : Scope} {params : Arguments} {qual : Str} {cl : List (Str × Addr)} {eb : Expr} {G : Hp} (hcl : cl = []) (e5 : G f = some (LamO f (LF scope params qual cl c) eb)) (e6 : G c = some (CodeO c qual)) (S : NScope ps ps [] scope)
    (hb : ∀ (F : NF) (pm ctv : Value) (us : List Value), F = LF scope params qual cl c → us.length = ps.length → bindArgs (PySem.W.kla_fn "<lambda>" F.qual F.params eb F.scope F.cl pm (.ref F.c) ctv) ⟨us, []⟩ = pure (ps.zip us)) (len : ∀ vs H Q E, sp vs H Q E → vs.length = ps.length)
    (hbody : ∀ (A : Around) (outer : List Env) (s : Shared) (H : Hp) (vs : List V) (Q : VK) (E : XK), Room k (A.deeper (envF (LF scope params qual cl c) f s.heap.objs.size)) → sp vs H Q E →
      ∃ t, PE (ncx (L2.CX P w) P w K mg base ps (LF scope params qual cl c) f A outer s H E) eb t ∧ t (startF ps vs []) H Q) : DoorL P w K mg base (k + 1) ps sp G f := by
  refine ⟨_, eb, hcl, e5, e6, lok_of (N := ps) S (fun pm ctv us h => hb _ pm ctv us rfl h) (fun ws vs H Q E h => len vs H Q E h) (fun A outer s H vs ws Q E hr _ _ hw h => ?_)⟩
  have hw0 : ws = [] := List.eq_nil_of_length_eq_zero hw
  subst hw0
  exact hbody A outer s H vs Q E hr h
end
end KS
/-! defs that make a lambda: their code object is known -/
namespace KS
open PySem PySem.Spec PyProof.Rows L2 LamX NdefX
/-- a def whose code object stands at c -/
structure FunC (K : PySem.W.Frag) (x qual : Str) (st : Stmt) (f c : Addr) (fd : FuncData) : Prop where
  ex : ∃ (oc : Value) (od : Option Addr) (kV doc pm : Value) (an : Option Addr) (ct : Value) (osl : Array (Option Value)),
    fd = PySem.W.fnOf x qual (defArgs st) (defBody st) (defScope st) .none kV doc pm an (.ref c) ct ∧ K.lookup f = some ⟨oc, od, .func fd, osl⟩ ∧ PySem.W.codeIn K (.ref c) qual = true
section
variable {P : Program} {w : World} {K : PySem.W.Frag} {mg : Str → Option Value} {base : Heap}
theorem okCC {x qual : Str} {st : Stmt} {f c : Addr} {fd : FuncData} {N ps : List Str} {k : Nat} {sp : List (Str × Addr) → List Str → List (Option V) → Sp} (F : FunC K x qual st f c fd) (S : FnScope N ps (defScope st)) (len : ∀ cl fr ws vs H Q E, sp cl fr ws vs H Q E → vs.length = ps.length)
    (hbody : ∀ (cl : List (Str × Addr)) (fr : List Str) (ws : List (Option V)) (A : Around) (outer : List Env) (s : Shared) (H : Hp) (vs : List V) (Q : VK) (E : XK), Room k (A.deeper (envOfC qual (defScope st) s.heap.objs.size f (.ref c))) → NdefX.CellsAt cl fr ws s.heap H → sp cl fr ws vs H Q E →
      ∃ t, PSs (cxOf CX0 P w K mg base N qual (defScope st) f (.ref c) A outer s H E).nox (defBody st) t ∧ t { nx := fun _ H' => Q .non H', rt := Q } (start N vs) H) : FnOkC P w K mg base CX0 (k + 1) f fd ps sp := by
  obtain ⟨oc, od, kV, doc, pm, an, ct, osl, rfl, lk, hcd⟩ := F.ex
  refine ⟨len, fun cl fr ws A outer s H args us vs Q E hr e0 C hb r hsp => ?_⟩
  refine run_ofS lk hcd S hr e0 hb r (len _ _ _ _ _ _ _ hsp) fun hr2 => ?_
  obtain ⟨t, h, q⟩ := hbody cl fr ws A outer s H vs Q E hr2 C hsp
  exact ⟨t, h.nox, q⟩
/-- the same without cells -/
theorem okC0 {x qual : Str} {st : Stmt} {f c : Addr} {fd : FuncData} {N ps : List Str} {k : Nat} {sp : Sp} (F : FunC K x qual st f c fd) (S : FnScope N ps (defScope st)) (len : ∀ vs H Q E, sp vs H Q E → vs.length = ps.length)
    (hbody : ∀ (A : Around) (outer : List Env) (s : Shared) (H : Hp) (vs : List V) (Q : VK) (E : XK), Room k (A.deeper (envOfC qual (defScope st) s.heap.objs.size f (.ref c))) → sp vs H Q E →
      ∃ t, PSs (cxOf CX0 P w K mg base N qual (defScope st) f (.ref c) A outer s H E).nox (defBody st) t ∧ t { nx := fun _ H' => Q .non H', rt := Q } (start N vs) H) : FnOk P w K mg base CX0 (k + 1) f fd ps sp := by
  obtain ⟨oc, od, kV, doc, pm, an, ct, osl, rfl, lk, hcd⟩ := F.ex
  refine fn_of lk hcd S len fun A outer s H vs Q E hr hsp => ?_
  obtain ⟨t, h, q⟩ := hbody A outer s H vs Q E hr hsp
  exact ⟨t, h.nox, q⟩
end
end KS
/-! the law's doors: lists of lambdas -/
namespace KS
open PySem PySem.Spec PyProof.Rows L2 LamX NdefX
abbrev sPDoors : Stmt := topS 76
abbrev sBDoors : Stmt := topS 77
theorem scPDoors : FnScope ["_law_found"] [] (defScope sPDoors) := ⟨rfl, rfl, rfl, by decide +kernel, rfl, by decide +kernel, by decide +kernel⟩
theorem scBDoors : FnScope ["_law_found"] [] (defScope sBDoors) := ⟨rfl, rfl, rfl, by decide +kernel, rfl, by decide +kernel, by decide +kernel⟩
def lamPD : Str := (envOfC "_law_plan_doors" (defScope sPDoors) 0 0 .none).qual ++ "<lambda>"
def lamBD : Str := (envOfC "_law_both_doors" (defScope sBDoors) 0 0 .none).qual ++ "<lambda>"
section
variable {P : Program} {w : World} {K : PySem.W.Frag} {mg : Str → Option Value} {base : Heap} {C CF : Addr}
/-- a list of doors -/
def spDoors (T : List (Addr × Str)) (P : Program) (w : World) (K : PySem.W.Frag) (mg : Str → Option Value) (base : Heap) (k : Nat) (ps : List Str) (sp : Sp) : Sp := fun vs H Q _ => vs = [] ∧ Tabs T H ∧
  ∀ H' L xs, ExtN H H' → Tabs T H' → H' L = some (.lst xs) → xs.length ≤ 64 → (∀ x ∈ xs, ∃ g, x = .ref g ∧ DoorL P w K mg base k ps sp H' g) → Q (.ref L) H'
theorem ok__law_plan_doors {T : List (Addr × Str)} {f c Pt : Addr} {fd : FuncData} (F : FunC K "_law_plan_doors" "_law_plan_doors" sPDoors f c fd) (TB : TabB base mg c Pt) (hm : (Pt, lamPD) ∈ T) (hu : ∀ p ∈ T, p.1 = Pt → p.2 = lamPD)
    {f0 : Addr} {fd0 : FuncData} (G0 : FnOk P w K mg base (L2.CX P w) 10 f0 fd0 ["plan", "kind"] (spPD K C (fun _ r => r = [.str "R"]))) (b0 : Binds K fd0 ["plan", "kind"] []) (g0 : mg "lines" = some (.ref f0)) (k0 : PySem.W.keepIn K (.ref f0) = true)
    {f1 : Addr} {fd1 : FuncData} (G1 : FnOk P w K mg base (L2.CX P w) 10 f1 fd1 ["plan"] (spPD K C (NoR))) (b1 : Binds K fd1 ["plan"] []) (g1 : mg "transposed" = some (.ref f1)) (k1 : PySem.W.keepIn K (.ref f1) = true)
    {f2 : Addr} {fd2 : FuncData} (G2 : FnOk P w K mg base (L2.CX P w) 10 f2 fd2 ["plan"] (spPD K C (NoR))) (b2 : Binds K fd2 ["plan"] []) (g2 : mg "is_rectangle" = some (.ref f2)) (k2 : PySem.W.keepIn K (.ref f2) = true)
    {f3 : Addr} {fd3 : FuncData} (G3 : FnOk P w K mg base (L2.CX P w) 10 f3 fd3 ["plan", "value"] (spPD K C (fun H r => ∃ t, r = [.ref t] ∧ SqT K H t [.int 1]))) (b3 : Binds K fd3 ["plan", "value"] []) (g3 : mg "is_filling" = some (.ref f3)) (k3 : PySem.W.keepIn K (.ref f3) = true)
    {f4 : Addr} {fd4 : FuncData} (G4 : FnOk P w K mg base (L2.CX P w) 10 f4 fd4 ["plan"] (spPD K C (NoR))) (b4 : Binds K fd4 ["plan"] []) (g4 : mg "keeps" = some (.ref f4)) (k4 : PySem.W.keepIn K (.ref f4) = true)
    {f5 : Addr} {fd5 : FuncData} (G5 : FnOk P w K mg base (L2.CX P w) 10 f5 fd5 ["plan"] (spPD K C (NoR))) (b5 : Binds K fd5 ["plan"] []) (g5 : mg "obstacle" = some (.ref f5)) (k5 : PySem.W.keepIn K (.ref f5) = true)
    {f6 : Addr} {fd6 : FuncData} (G6 : FnOk P w K mg base (L2.CX P w) 10 f6 fd6 ["plan", "kind"] (spPD K C (fun _ r => r = [.str "C"]))) (b6 : Binds K fd6 ["plan", "kind"] []) (g6 : mg "breaking_filling" = some (.ref f6)) (k6 : PySem.W.keepIn K (.ref f6) = true) :
    FnOk P w K mg base CX0 1 f fd [] (spDoors T P w K mg base 11 ["_law_thing"] (spPD K C NoR)) := by
  refine okC0 F scPDoors (fun vs H Q E h => ?_) (fun A outer s H vs Q E hr h => ?_)
  · rw [h.1]; rfl
  · obtain ⟨rfl, hT, q⟩ := h
    have nd := scPDoors.nd
    refine ⟨_, pss_cons (ps_set (i := 0) nd rfl (.inl rfl) (pe_lst (pa_cons (pe_lamV TB rfl hm hu rfl (no_free (by decide +kernel))) pa_nil)))
      (pss_cons (ps_expr (pe_bm PySem.F.plainAttrs_list PySem.F.slot_list_append PySem.F.type_list_append mt_append (pv 0) (pa_cons (pe_lamV TB rfl hm hu rfl (no_free (by decide +kernel))) pa_nil)))
      (pss_cons (ps_expr (pe_bm PySem.F.plainAttrs_list PySem.F.slot_list_append PySem.F.type_list_append mt_append (pv 0) (pa_cons (pe_lamV TB rfl hm hu rfl (no_free (by decide +kernel))) pa_nil)))
      (pss_cons (ps_expr (pe_bm PySem.F.plainAttrs_list PySem.F.slot_list_append PySem.F.type_list_append mt_append (pv 0) (pa_cons (pe_lamV TB rfl hm hu rfl (no_free (by decide +kernel))) pa_nil)))
      (pss_cons (ps_expr (pe_bm PySem.F.plainAttrs_list PySem.F.slot_list_append PySem.F.type_list_append mt_append (pv 0) (pa_cons (pe_lamV TB rfl hm hu rfl (no_free (by decide +kernel))) pa_nil)))
      (pss_cons (ps_expr (pe_bm PySem.F.plainAttrs_list PySem.F.slot_list_append PySem.F.type_list_append mt_append (pv 0) (pa_cons (pe_lamV TB rfl hm hu rfl (no_free (by decide +kernel))) pa_nil)))
      (pss_cons (ps_expr (pe_bm PySem.F.plainAttrs_list PySem.F.slot_list_append PySem.F.type_list_append mt_append (pv 0) (pa_cons (pe_lamV TB rfl hm hu rfl (no_free (by decide +kernel))) pa_nil)))
      (pss_one (ps_ret (pv 0))))))))), ?_⟩
    refine ⟨hT, fun a0 c0 H0 x0 n0 T0 _ o0 d0 => ?_⟩
    have L0 := door_of (P := P) (w := w) (K := K) (mg := mg) (base := base) (k := 10) (ps := ["_law_thing"]) (sp := spPD K C NoR) rfl o0 d0 (nscope_by (by decide +kernel)) (fun F pm ctv us e hus => by
        subst e
        match us, hus with
        | [u1], _ => rfl) (fun vs H Q E h => by
        obtain ⟨v, l, b, rfl, hl, _⟩ := h
        rw [show l = [] from hl]; rfl) (fun A outer s H vs Q E hr h => by
        refine ⟨_, pe_callS G0 hr (by rfl) g0 k0 b0 (fun σ => passAt (takes_of rfl rfl rfl rfl) σ) (pa_cons (pv 0) (pa_cons pe_str pa_nil)), ?_⟩
        obtain ⟨v, l, b, rfl, hl, hp, kg, ke⟩ := h
        obtain rfl : l = [] := hl
        exact ⟨_, rfl, v, [.str "R"], b, rfl, rfl, hp, kg, ke⟩)
    refine ⟨(by show 1 ≤ sizeLine; decide), fun L nL => ?_⟩
    have D0 := DI.one x0 n0 T0 L0 nL
    generalize upd H0 L (.lst [.ref a0]) = J0 at D0 ⊢
    refine ⟨_, rfl, .inl ⟨rfl, _, SqL.of D0.at_⟩, D0.tab, fun a1 c1 H1 x1 n1 T1 _ o1 d1 => ?_⟩
    have L1 := door_of (P := P) (w := w) (K := K) (mg := mg) (base := base) (k := 10) (ps := ["_law_thing"]) (sp := spPD K C NoR) rfl o1 d1 (nscope_by (by decide +kernel)) (fun F pm ctv us e hus => by
        subst e
        match us, hus with
        | [u1], _ => rfl) (fun vs H Q E h => by
        obtain ⟨v, l, b, rfl, hl, _⟩ := h
        rw [show l = [] from hl]; rfl) (fun A outer s H vs Q E hr h => by
        refine ⟨_, pe_callS G1 hr (by rfl) g1 k1 b1 (fun σ => passAt (takes_of rfl rfl rfl rfl) σ) (pa_cons (pv 0) pa_nil), ?_⟩
        obtain ⟨v, l, b, rfl, hl, hp, kg, ke⟩ := h
        obtain rfl : l = [] := hl
        exact ⟨_, rfl, v, [], b, rfl, rfl, hp, kg, ke⟩)
    have D1 := D0.put x1 T1 L1
    refine ⟨L, _, _, rfl, rfl, x1 _ _ D0.at_ (fun _ z => nomatch z), (by show 1 < sizeLine; decide), ?_⟩
    generalize upd H1 L _ = J1 at D1 ⊢
    refine ⟨_, rfl, .inl ⟨rfl, _, SqL.of D1.at_⟩, D1.tab, fun a2 c2 H2 x2 n2 T2 _ o2 d2 => ?_⟩
    have L2 := door_of (P := P) (w := w) (K := K) (mg := mg) (base := base) (k := 10) (ps := ["_law_thing"]) (sp := spPD K C NoR) rfl o2 d2 (nscope_by (by decide +kernel)) (fun F pm ctv us e hus => by
        subst e
        match us, hus with
        | [u1], _ => rfl) (fun vs H Q E h => by
        obtain ⟨v, l, b, rfl, hl, _⟩ := h
        rw [show l = [] from hl]; rfl) (fun A outer s H vs Q E hr h => by
        refine ⟨_, pe_callS G2 hr (by rfl) g2 k2 b2 (fun σ => passAt (takes_of rfl rfl rfl rfl) σ) (pa_cons (pv 0) pa_nil), ?_⟩
        obtain ⟨v, l, b, rfl, hl, hp, kg, ke⟩ := h
        obtain rfl : l = [] := hl
        exact ⟨_, rfl, v, [], b, rfl, rfl, hp, kg, ke⟩)
    have D2 := D1.put x2 T2 L2
    refine ⟨L, _, _, rfl, rfl, x2 _ _ D1.at_ (fun _ z => nomatch z), (by show 2 < sizeLine; decide), ?_⟩
    generalize upd H2 L _ = J2 at D2 ⊢
    refine ⟨_, rfl, .inl ⟨rfl, _, SqL.of D2.at_⟩, D2.tab, fun a3 c3 H3 x3 n3 T3 _ o3 d3 => ?_⟩
    have L3 := door_of (P := P) (w := w) (K := K) (mg := mg) (base := base) (k := 10) (ps := ["_law_thing"]) (sp := spPD K C NoR) rfl o3 d3 (nscope_by (by decide +kernel)) (fun F pm ctv us e hus => by
        subst e
        match us, hus with
        | [u1], _ => rfl) (fun vs H Q E h => by
        obtain ⟨v, l, b, rfl, hl, _⟩ := h
        rw [show l = [] from hl]; rfl) (fun A outer s H vs Q E hr h => by
        refine ⟨_, pe_callS G3 hr (by rfl) g3 k3 b3 (fun σ => passAt (takes_of rfl rfl rfl rfl) σ) (pa_cons (pv 0) (pa_cons (pe_tup (pa_cons pe_int pa_nil)) pa_nil)), ?_⟩
        obtain ⟨v, l, b, rfl, hl, hp, kg, ke⟩ := h
        obtain rfl : l = [] := hl
        refine ⟨_, rfl, (by show 1 ≤ sizeLine; decide), fun t nt => ?_⟩
        have st := same_new (o := .tup [.int 1]) nt
        exact ⟨v, [.ref t], b, rfl, ⟨t, rfl, SqT.of upd_same⟩, hp.same st, fun e u H' s1 => kg e u H' (st.trans s1), fun e H' d s1 h1 => ke e H' d (st.trans s1) h1⟩)
    have D3 := D2.put x3 T3 L3
    refine ⟨L, _, _, rfl, rfl, x3 _ _ D2.at_ (fun _ z => nomatch z), (by show 3 < sizeLine; decide), ?_⟩
    generalize upd H3 L _ = J3 at D3 ⊢
    refine ⟨_, rfl, .inl ⟨rfl, _, SqL.of D3.at_⟩, D3.tab, fun a4 c4 H4 x4 n4 T4 _ o4 d4 => ?_⟩
    have L4 := door_of (P := P) (w := w) (K := K) (mg := mg) (base := base) (k := 10) (ps := ["_law_thing"]) (sp := spPD K C NoR) rfl o4 d4 (nscope_by (by decide +kernel)) (fun F pm ctv us e hus => by
        subst e
        match us, hus with
        | [u1], _ => rfl) (fun vs H Q E h => by
        obtain ⟨v, l, b, rfl, hl, _⟩ := h
        rw [show l = [] from hl]; rfl) (fun A outer s H vs Q E hr h => by
        refine ⟨_, pe_callS G4 hr (by rfl) g4 k4 b4 (fun σ => passAt (takes_of rfl rfl rfl rfl) σ) (pa_cons (pv 0) pa_nil), ?_⟩
        obtain ⟨v, l, b, rfl, hl, hp, kg, ke⟩ := h
        obtain rfl : l = [] := hl
        exact ⟨_, rfl, v, [], b, rfl, rfl, hp, kg, ke⟩)
    have D4 := D3.put x4 T4 L4
    refine ⟨L, _, _, rfl, rfl, x4 _ _ D3.at_ (fun _ z => nomatch z), (by show 4 < sizeLine; decide), ?_⟩
    generalize upd H4 L _ = J4 at D4 ⊢
    refine ⟨_, rfl, .inl ⟨rfl, _, SqL.of D4.at_⟩, D4.tab, fun a5 c5 H5 x5 n5 T5 _ o5 d5 => ?_⟩
    have L5 := door_of (P := P) (w := w) (K := K) (mg := mg) (base := base) (k := 10) (ps := ["_law_thing"]) (sp := spPD K C NoR) rfl o5 d5 (nscope_by (by decide +kernel)) (fun F pm ctv us e hus => by
        subst e
        match us, hus with
        | [u1], _ => rfl) (fun vs H Q E h => by
        obtain ⟨v, l, b, rfl, hl, _⟩ := h
        rw [show l = [] from hl]; rfl) (fun A outer s H vs Q E hr h => by
        refine ⟨_, pe_callS G5 hr (by rfl) g5 k5 b5 (fun σ => passAt (takes_of rfl rfl rfl rfl) σ) (pa_cons (pv 0) pa_nil), ?_⟩
        obtain ⟨v, l, b, rfl, hl, hp, kg, ke⟩ := h
        obtain rfl : l = [] := hl
        exact ⟨_, rfl, v, [], b, rfl, rfl, hp, kg, ke⟩)
    have D5 := D4.put x5 T5 L5
    refine ⟨L, _, _, rfl, rfl, x5 _ _ D4.at_ (fun _ z => nomatch z), (by show 5 < sizeLine; decide), ?_⟩
    generalize upd H5 L _ = J5 at D5 ⊢
    refine ⟨_, rfl, .inl ⟨rfl, _, SqL.of D5.at_⟩, D5.tab, fun a6 c6 H6 x6 n6 T6 _ o6 d6 => ?_⟩
    have L6 := door_of (P := P) (w := w) (K := K) (mg := mg) (base := base) (k := 10) (ps := ["_law_thing"]) (sp := spPD K C NoR) rfl o6 d6 (nscope_by (by decide +kernel)) (fun F pm ctv us e hus => by
        subst e
        match us, hus with
        | [u1], _ => rfl) (fun vs H Q E h => by
        obtain ⟨v, l, b, rfl, hl, _⟩ := h
        rw [show l = [] from hl]; rfl) (fun A outer s H vs Q E hr h => by
        refine ⟨_, pe_callS G6 hr (by rfl) g6 k6 b6 (fun σ => passAt (takes_of rfl rfl rfl rfl) σ) (pa_cons (pv 0) (pa_cons pe_str pa_nil)), ?_⟩
        obtain ⟨v, l, b, rfl, hl, hp, kg, ke⟩ := h
        obtain rfl : l = [] := hl
        exact ⟨_, rfl, v, [.str "C"], b, rfl, rfl, hp, kg, ke⟩)
    have D6 := D5.put x6 T6 L6
    refine ⟨L, _, _, rfl, rfl, x6 _ _ D5.at_ (fun _ z => nomatch z), (by show 6 < sizeLine; decide), ?_⟩
    generalize upd H6 L _ = J6 at D6 ⊢
    exact ⟨_, rfl, q J6 L _ D6.ext D6.tab D6.at_ (by show 7 ≤ 64; decide) D6.all⟩
theorem ok__law_both_doors {T : List (Addr × Str)} {f c Pt : Addr} {fd : FuncData} (F : FunC K "_law_both_doors" "_law_both_doors" sBDoors f c fd) (TB : TabB base mg c Pt) (hm : (Pt, lamBD) ∈ T) (hu : ∀ p ∈ T, p.1 = Pt → p.2 = lamBD)
    {f0 : Addr} {fd0 : FuncData} (G0 : FnOk P w K mg base (L2.CX P w) 10 f0 fd0 ["plan", "filling"] (spFD K C CF (NoR))) (b0 : Binds K fd0 ["plan", "filling"] []) (g0 : mg "ranks" = some (.ref f0)) (k0 : PySem.W.keepIn K (.ref f0) = true)
    {f1 : Addr} {fd1 : FuncData} (G1 : FnOk P w K mg base (L2.CX P w) 10 f1 fd1 ["plan", "filling", "limit"] (spFD K C CF (fun _ r => r = [.int 5]))) (b1 : Binds K fd1 ["plan", "filling", "limit"] []) (g1 : mg "signs" = some (.ref f1)) (k1 : PySem.W.keepIn K (.ref f1) = true)
    {f2 : Addr} {fd2 : FuncData} (G2 : FnOk P w K mg base (L2.CX P w) 10 f2 fd2 ["plan", "filling", "kind"] (spFD K C CF (fun _ r => r = [.str "R"]))) (b2 : Binds K fd2 ["plan", "filling", "kind"] []) (g2 : mg "sort_lines" = some (.ref f2)) (k2 : PySem.W.keepIn K (.ref f2) = true)
    {f3 : Addr} {fd3 : FuncData} (G3 : FnOk P w K mg base (L2.CX P w) 10 f3 fd3 ["plan", "filling", "word"] (spFD K C CF (fun _ r => r = [.str "CR"]))) (b3 : Binds K fd3 ["plan", "filling", "word"] []) (g3 : mg "after" = some (.ref f3)) (k3 : PySem.W.keepIn K (.ref f3) = true)
    {f4 : Addr} {fd4 : FuncData} (G4 : FnOk P w K mg base (L2.CX P w) 10 f4 fd4 ["plan", "filling", "kind"] (spFD K C CF (fun _ r => r = [.str "C"]))) (b4 : Binds K fd4 ["plan", "filling", "kind"] []) (g4 : mg "is_sorted" = some (.ref f4)) (k4 : PySem.W.keepIn K (.ref f4) = true)
    {f5 : Addr} {fd5 : FuncData} (G5 : FnOk P w K mg base (L2.CX P w) 10 f5 fd5 ["plan", "filling", "kind"] (spFD K C CF (fun _ r => r = [.str "R"]))) (b5 : Binds K fd5 ["plan", "filling", "kind"] []) (g5 : mg "rest" = some (.ref f5)) (k5 : PySem.W.keepIn K (.ref f5) = true) :
    FnOk P w K mg base CX0 1 f fd [] (spDoors T P w K mg base 11 ["_law_thing", "_law_some"] (spFD K C CF NoR)) := by
  refine okC0 F scBDoors (fun vs H Q E h => ?_) (fun A outer s H vs Q E hr h => ?_)
  · rw [h.1]; rfl
  · obtain ⟨rfl, hT, q⟩ := h
    have nd := scBDoors.nd
    refine ⟨_, pss_cons (ps_set (i := 0) nd rfl (.inl rfl) (pe_lst (pa_cons (pe_lamV TB rfl hm hu rfl (no_free (by decide +kernel))) pa_nil)))
      (pss_cons (ps_expr (pe_bm PySem.F.plainAttrs_list PySem.F.slot_list_append PySem.F.type_list_append mt_append (pv 0) (pa_cons (pe_lamV TB rfl hm hu rfl (no_free (by decide +kernel))) pa_nil)))
      (pss_cons (ps_expr (pe_bm PySem.F.plainAttrs_list PySem.F.slot_list_append PySem.F.type_list_append mt_append (pv 0) (pa_cons (pe_lamV TB rfl hm hu rfl (no_free (by decide +kernel))) pa_nil)))
      (pss_cons (ps_expr (pe_bm PySem.F.plainAttrs_list PySem.F.slot_list_append PySem.F.type_list_append mt_append (pv 0) (pa_cons (pe_lamV TB rfl hm hu rfl (no_free (by decide +kernel))) pa_nil)))
      (pss_cons (ps_expr (pe_bm PySem.F.plainAttrs_list PySem.F.slot_list_append PySem.F.type_list_append mt_append (pv 0) (pa_cons (pe_lamV TB rfl hm hu rfl (no_free (by decide +kernel))) pa_nil)))
      (pss_cons (ps_expr (pe_bm PySem.F.plainAttrs_list PySem.F.slot_list_append PySem.F.type_list_append mt_append (pv 0) (pa_cons (pe_lamV TB rfl hm hu rfl (no_free (by decide +kernel))) pa_nil)))
      (pss_one (ps_ret (pv 0)))))))), ?_⟩
    refine ⟨hT, fun a0 c0 H0 x0 n0 T0 _ o0 d0 => ?_⟩
    have L0 := door_of (P := P) (w := w) (K := K) (mg := mg) (base := base) (k := 10) (ps := ["_law_thing", "_law_some"]) (sp := spFD K C CF NoR) rfl o0 d0 (nscope_by (by decide +kernel)) (fun F pm ctv us e hus => by
        subst e
        match us, hus with
        | [u1, u2], _ => rfl) (fun vs H Q E h => by
        obtain ⟨v, u, l, b, c, rfl, hl, _⟩ := h
        rw [show l = [] from hl]; rfl) (fun A outer s H vs Q E hr h => by
        refine ⟨_, pe_callS G0 hr (by rfl) g0 k0 b0 (fun σ => passAt (takes_of rfl rfl rfl rfl) σ) (pa_cons (pv 0) (pa_cons (pv 1) pa_nil)), ?_⟩
        obtain ⟨v, u, l, b, c, rfl, hl, hp, hf, kg, ke, kf⟩ := h
        obtain rfl : l = [] := hl
        exact ⟨_, rfl, _, rfl, v, u, [], b, c, rfl, rfl, hp, hf, kg, ke, kf⟩)
    refine ⟨(by show 1 ≤ sizeLine; decide), fun L nL => ?_⟩
    have D0 := DI.one x0 n0 T0 L0 nL
    generalize upd H0 L (.lst [.ref a0]) = J0 at D0 ⊢
    refine ⟨_, rfl, .inl ⟨rfl, _, SqL.of D0.at_⟩, D0.tab, fun a1 c1 H1 x1 n1 T1 _ o1 d1 => ?_⟩
    have L1 := door_of (P := P) (w := w) (K := K) (mg := mg) (base := base) (k := 10) (ps := ["_law_thing", "_law_some"]) (sp := spFD K C CF NoR) rfl o1 d1 (nscope_by (by decide +kernel)) (fun F pm ctv us e hus => by
        subst e
        match us, hus with
        | [u1, u2], _ => rfl) (fun vs H Q E h => by
        obtain ⟨v, u, l, b, c, rfl, hl, _⟩ := h
        rw [show l = [] from hl]; rfl) (fun A outer s H vs Q E hr h => by
        refine ⟨_, pe_callS G1 hr (by rfl) g1 k1 b1 (fun σ => passAt (takes_of rfl rfl rfl rfl) σ) (pa_cons (pv 0) (pa_cons (pv 1) (pa_cons pe_int pa_nil))), ?_⟩
        obtain ⟨v, u, l, b, c, rfl, hl, hp, hf, kg, ke, kf⟩ := h
        obtain rfl : l = [] := hl
        exact ⟨_, rfl, _, rfl, v, u, [.int 5], b, c, rfl, rfl, hp, hf, kg, ke, kf⟩)
    have D1 := D0.put x1 T1 L1
    refine ⟨L, _, _, rfl, rfl, x1 _ _ D0.at_ (fun _ z => nomatch z), (by show 1 < sizeLine; decide), ?_⟩
    generalize upd H1 L _ = J1 at D1 ⊢
    refine ⟨_, rfl, .inl ⟨rfl, _, SqL.of D1.at_⟩, D1.tab, fun a2 c2 H2 x2 n2 T2 _ o2 d2 => ?_⟩
    have L2 := door_of (P := P) (w := w) (K := K) (mg := mg) (base := base) (k := 10) (ps := ["_law_thing", "_law_some"]) (sp := spFD K C CF NoR) rfl o2 d2 (nscope_by (by decide +kernel)) (fun F pm ctv us e hus => by
        subst e
        match us, hus with
        | [u1, u2], _ => rfl) (fun vs H Q E h => by
        obtain ⟨v, u, l, b, c, rfl, hl, _⟩ := h
        rw [show l = [] from hl]; rfl) (fun A outer s H vs Q E hr h => by
        refine ⟨_, pe_callS G2 hr (by rfl) g2 k2 b2 (fun σ => passAt (takes_of rfl rfl rfl rfl) σ) (pa_cons (pv 0) (pa_cons (pv 1) (pa_cons pe_str pa_nil))), ?_⟩
        obtain ⟨v, u, l, b, c, rfl, hl, hp, hf, kg, ke, kf⟩ := h
        obtain rfl : l = [] := hl
        exact ⟨_, rfl, _, rfl, v, u, [.str "R"], b, c, rfl, rfl, hp, hf, kg, ke, kf⟩)
    have D2 := D1.put x2 T2 L2
    refine ⟨L, _, _, rfl, rfl, x2 _ _ D1.at_ (fun _ z => nomatch z), (by show 2 < sizeLine; decide), ?_⟩
    generalize upd H2 L _ = J2 at D2 ⊢
    refine ⟨_, rfl, .inl ⟨rfl, _, SqL.of D2.at_⟩, D2.tab, fun a3 c3 H3 x3 n3 T3 _ o3 d3 => ?_⟩
    have L3 := door_of (P := P) (w := w) (K := K) (mg := mg) (base := base) (k := 10) (ps := ["_law_thing", "_law_some"]) (sp := spFD K C CF NoR) rfl o3 d3 (nscope_by (by decide +kernel)) (fun F pm ctv us e hus => by
        subst e
        match us, hus with
        | [u1, u2], _ => rfl) (fun vs H Q E h => by
        obtain ⟨v, u, l, b, c, rfl, hl, _⟩ := h
        rw [show l = [] from hl]; rfl) (fun A outer s H vs Q E hr h => by
        refine ⟨_, pe_callS G3 hr (by rfl) g3 k3 b3 (fun σ => passAt (takes_of rfl rfl rfl rfl) σ) (pa_cons (pv 0) (pa_cons (pv 1) (pa_cons pe_str pa_nil))), ?_⟩
        obtain ⟨v, u, l, b, c, rfl, hl, hp, hf, kg, ke, kf⟩ := h
        obtain rfl : l = [] := hl
        exact ⟨_, rfl, _, rfl, v, u, [.str "CR"], b, c, rfl, rfl, hp, hf, kg, ke, kf⟩)
    have D3 := D2.put x3 T3 L3
    refine ⟨L, _, _, rfl, rfl, x3 _ _ D2.at_ (fun _ z => nomatch z), (by show 3 < sizeLine; decide), ?_⟩
    generalize upd H3 L _ = J3 at D3 ⊢
    refine ⟨_, rfl, .inl ⟨rfl, _, SqL.of D3.at_⟩, D3.tab, fun a4 c4 H4 x4 n4 T4 _ o4 d4 => ?_⟩
    have L4 := door_of (P := P) (w := w) (K := K) (mg := mg) (base := base) (k := 10) (ps := ["_law_thing", "_law_some"]) (sp := spFD K C CF NoR) rfl o4 d4 (nscope_by (by decide +kernel)) (fun F pm ctv us e hus => by
        subst e
        match us, hus with
        | [u1, u2], _ => rfl) (fun vs H Q E h => by
        obtain ⟨v, u, l, b, c, rfl, hl, _⟩ := h
        rw [show l = [] from hl]; rfl) (fun A outer s H vs Q E hr h => by
        refine ⟨_, pe_callS G4 hr (by rfl) g4 k4 b4 (fun σ => passAt (takes_of rfl rfl rfl rfl) σ) (pa_cons (pv 0) (pa_cons (pv 1) (pa_cons pe_str pa_nil))), ?_⟩
        obtain ⟨v, u, l, b, c, rfl, hl, hp, hf, kg, ke, kf⟩ := h
        obtain rfl : l = [] := hl
        exact ⟨_, rfl, _, rfl, v, u, [.str "C"], b, c, rfl, rfl, hp, hf, kg, ke, kf⟩)
    have D4 := D3.put x4 T4 L4
    refine ⟨L, _, _, rfl, rfl, x4 _ _ D3.at_ (fun _ z => nomatch z), (by show 4 < sizeLine; decide), ?_⟩
    generalize upd H4 L _ = J4 at D4 ⊢
    refine ⟨_, rfl, .inl ⟨rfl, _, SqL.of D4.at_⟩, D4.tab, fun a5 c5 H5 x5 n5 T5 _ o5 d5 => ?_⟩
    have L5 := door_of (P := P) (w := w) (K := K) (mg := mg) (base := base) (k := 10) (ps := ["_law_thing", "_law_some"]) (sp := spFD K C CF NoR) rfl o5 d5 (nscope_by (by decide +kernel)) (fun F pm ctv us e hus => by
        subst e
        match us, hus with
        | [u1, u2], _ => rfl) (fun vs H Q E h => by
        obtain ⟨v, u, l, b, c, rfl, hl, _⟩ := h
        rw [show l = [] from hl]; rfl) (fun A outer s H vs Q E hr h => by
        refine ⟨_, pe_callS G5 hr (by rfl) g5 k5 b5 (fun σ => passAt (takes_of rfl rfl rfl rfl) σ) (pa_cons (pv 0) (pa_cons (pv 1) (pa_cons pe_str pa_nil))), ?_⟩
        obtain ⟨v, u, l, b, c, rfl, hl, hp, hf, kg, ke, kf⟩ := h
        obtain rfl : l = [] := hl
        exact ⟨_, rfl, _, rfl, v, u, [.str "R"], b, c, rfl, rfl, hp, hf, kg, ke, kf⟩)
    have D5 := D4.put x5 T5 L5
    refine ⟨L, _, _, rfl, rfl, x5 _ _ D4.at_ (fun _ z => nomatch z), (by show 5 < sizeLine; decide), ?_⟩
    generalize upd H5 L _ = J5 at D5 ⊢
    exact ⟨_, rfl, q J5 L _ D5.ext D5.tab D5.at_ (by show 6 ≤ 64; decide) D5.all⟩
end
end KS
/-! defs with lambdas, with no guard on the way (for repr) -/
namespace KS
open PySem PySem.Spec PyProof.Rows L2 LamX NdefX
structure FnGC (P : Program) (w : World) (K : PySem.W.Frag) (mg : Str → Option Value) (base : Heap) (k : Nat) (f : Addr) (fd : FuncData) (ps : List Str) (sp : List (Str × Addr) → List Str → List (Option V) → Sp) : Prop where
  len : ∀ cl fr ws vs H Q E, sp cl fr ws vs H Q E → vs.length = ps.length
  run : ∀ (cl : List (Str × Addr)) (fr : List Str) (ws : List (Option V)) (A : Around) (outer : List Env) (s : Shared) (H : Hp) (args : Args) (us : List Value) (vs : List V) (Q : VK) (E : XK), Room k A → A.guards = some [] → Env0 P w K mg base A outer s H → NdefX.CellsAt cl fr ws s.heap H → BindsTo s fd args (ps.zip us) → Vals vs us → sp cl fr ws vs H Q E →
    codeAny (model P w) A (.call (.ref f) args) (CR CX0 outer P w H s Q E) s
section
variable {P : Program} {w : World} {K : PySem.W.Frag} {mg : Str → Option Value} {base : Heap}
theorem FnGC.mono {j k : Nat} {f : Addr} {fd : FuncData} {ps : List Str} {sp : List (Str × Addr) → List Str → List (Option V) → Sp} (F : FnGC P w K mg base j f fd ps sp) (h : j ≤ k) : FnGC P w K mg base k f fd ps sp := ⟨F.len, fun cl fr ws A outer s H args us vs Q E hr => F.run cl fr ws A outer s H args us vs Q E (hr.mono h)⟩
theorem okGC {x qual : Str} {st : Stmt} {f : Addr} {fd : FuncData} {N ps : List Str} {k : Nat} {sp : List (Str × Addr) → List Str → List (Option V) → Sp} (F : Fun K x qual st f fd) (S : FnScope N ps (defScope st)) (len : ∀ cl fr ws vs H Q E, sp cl fr ws vs H Q E → vs.length = ps.length)
    (hbody : ∀ (cl : List (Str × Addr)) (fr : List Str) (ws : List (Option V)) (cdv : Value) (A : Around) (outer : List Env) (s : Shared) (H : Hp) (vs : List V) (Q : VK) (E : XK), Room k (A.deeper (envOfC qual (defScope st) s.heap.objs.size f cdv)) → A.guards = some [] → NdefX.CellsAt cl fr ws s.heap H → sp cl fr ws vs H Q E →
      ∃ t, PSs (cxOf CX0 P w K mg base N qual (defScope st) f cdv A outer s H E).nox (defBody st) t ∧ t { nx := fun _ H' => Q .non H', rt := Q } (start N vs) H) : FnGC P w K mg base (k + 1) f fd ps sp := by
  obtain ⟨oc, od, kV, doc, pm, an, cdv, ct, osl, rfl, lk, hcd⟩ := F.ex
  refine ⟨len, fun cl fr ws A outer s H args us vs Q E hr hgd e0 C hb r hsp => ?_⟩
  refine run_ofS lk hcd S hr e0 hb r (len _ _ _ _ _ _ _ hsp) fun hr2 => ?_
  obtain ⟨t, h, q⟩ := hbody cl fr ws cdv A outer s H vs Q E hr2 hgd C hsp
  exact ⟨t, h.nox, q⟩
/-- a def that makes lambdas -/
theorem okGF {x qual : Str} {st : Stmt} {f c : Addr} {fd : FuncData} {N ps : List Str} {k : Nat} {sp : Sp} (F : FunC K x qual st f c fd) (S : FnScope N ps (defScope st)) (len : ∀ vs H Q E, sp vs H Q E → vs.length = ps.length)
    (hbody : ∀ (A : Around) (outer : List Env) (s : Shared) (H : Hp) (vs : List V) (Q : VK) (E : XK), Room k (A.deeper (envOfC qual (defScope st) s.heap.objs.size f (.ref c))) → A.guards = some [] → sp vs H Q E →
      ∃ t, PSs (cxOf CX0 P w K mg base N qual (defScope st) f (.ref c) A outer s H E).nox (defBody st) t ∧ t { nx := fun _ H' => Q .non H', rt := Q } (start N vs) H) : FnG P w K mg base (k + 1) f fd ps sp := by
  obtain ⟨oc, od, kV, doc, pm, an, ct, osl, rfl, lk, hcd⟩ := F.ex
  refine ⟨len, fun A outer s H args us vs Q E hr hgd e0 hb r hsp => ?_⟩
  refine run_ofS lk hcd S hr e0 hb r (len _ _ _ _ hsp) fun hr2 => ?_
  obtain ⟨t, h, q⟩ := hbody A outer s H vs Q E hr2 hgd hsp
  exact ⟨t, h.nox, q⟩
end
section
variable {X : Cx} {k : Nat} {f : Addr} {fd : FuncData} {ps : List Str} {sp : List (Str × Addr) → List Str → List (Option V) → Sp} {x : Str} {p pos : Pos} {e : Expr} {es : List Expr} {t : TA} {cl : List (Str × Addr)} {fr : List Str}
/-- f(..), f a def that is handed on a lambda whose cells are the running frame's own -/
theorem pe_callGM {js : List Nat} (F : FnGC X.prog X.w X.K X.mg X.base k f fd ps sp) (cp : X.Ok → Caps X cl fr js) (hr : Room k X.A) (hgd : X.A.guards = some []) (hg : Gl X x) (hm : X.mg x = some (.ref f)) (hk : PySem.W.keepIn X.K (.ref f) = true) (hb : L2.Binds X.K fd ps [])
    (ha : PA X (e :: es) t) (hdb : (x == ("__debug__" : Str)) = false := by decide) (he : starEach (e :: es) X.env = (false, eval e X.env) :: starEach es X.env := by rfl) (hpl : (backTo pos (starEach es X.env)).any (·.1) = false := by rfl) :
    PE X (.Call (.Name x p) (e :: es) [] pos) (fun σ H Q => t σ H fun vs H1 => sp cl fr (js.map (slotAt σ)) vs H1 Q E0) := by
  refine ⟨fun pins s σ H Q I h => ?_⟩
  refine wpAny_Call_Name_kw (ld_glob I hg hm ?_ hdb)
  refine PySem.W.callWith_K (h₀ := X.base) I.ok.mod.kin hk (thn (ha.run pos pins s σ H _ I h) fun us s1 ⟨vs, H1, I1, r, q⟩ => ⟨I1.kIn, ?_⟩) he hpl
  have hl : us.length = ps.length := by rw [← r.length]; exact F.len _ _ _ _ _ _ _ q
  have hb' := hb s1 us I1.kIn (by rw [List.append_nil]; exact hl)
  rw [List.append_nil] at hb'
  refine wpAny_call (codeAny_mono (F.run cl fr (js.map (slotAt σ)) X.A X.stack s1 H1 ⟨us, []⟩ us vs Q E0 hr hgd I1.env0 (cells_of I1 (cp I1.ok)) hb' r q) fun z s' hq => ?_)
  cases z with
  | error e => cases hq
  | ok fl =>
    cases fl with
    | ret u => exact I1.after hq
    | next => exact False.elim hq
    | brk => exact False.elim hq
    | cont => exact False.elim hq
end
end KS
namespace PySem.W
open PySem PySem.Spec PySem.Calls PyProof.Rows
section
variable {prog : Program} {w : World} {A : Around} {E : Value → Shared → Prop} {s : Shared} {K : Frag} {x D : Addr} {ox : Obj}
theorem kin_classD {Q : Option Value → Shared → Prop} (hga : findIn K (.ref D) "__getattribute__" = some (some (.builtin "BaseException.__getattribute__"))) (hgt : findIn K (.ref D) "__getattr__" = some none) (hsub : subIn K (.ref D) (.type "BaseException") = some true)
    (hdct : hasDictIn K D = true) (ha : findIn K (.ref D) "__class__" = some (some (.builtin "object.__class__")))
    (hn : specialIn K (.builtin "object.__class__") "__get__" = some (some (.builtin "getset_descriptor.__get__"))) (htk : takesIn K (.builtin "object.__class__") = some true) (hm : mroIn K D (.type "object") = some true)
    {od : Option Obj} (X : K.In s.heap) (I : InstAt s.heap x ox D od) (h : Q (some (.ref D)) { s with toks := s.toks + 1 }) : wpAny (model prog w) A (getAttr? (.ref x) "__class__") Q E s := by
  have hf : findObj K D od "__class__" = some (.bind (.builtin "getset_descriptor.__get__") (.builtin "object.__class__")) := by
    cases od with
    | none => exact findObj_dataN (by obtain ⟨cd, hc, _⟩ := any_some hdct; rw [hc]; rfl) ha hn htk
    | some od => exact findObj_data (by obtain ⟨cd, hc, _⟩ := any_some hdct; rw [hc]; rfl) ha hn htk
  obtain ⟨hp, g, d, t, os⟩ := s
  have L0 := I.type (M := model prog w)
  have L1 := looks_findIn (M := model prog w) X hga
  have L2 := looks_findIn (M := model prog w) X hgt
  have L3 := looks_find (M := model prog w) X I hf
  have sub : Looks (model prog w) hp (isInstance (.ref x) (.type "BaseException")) true := L0.andThen (looks_subIn X hsub)
  have hx0 : (false && onTheHeap (Value.builtin "BaseException.__getattribute__")) = false := rfl
  have hx2 : (Value.builtin "BaseException.__getattribute__" == Value.builtin "object.__getattribute__") = false := by decide +kernel
  have hx1 : (onTheHeap (Value.ref D) && Value.builtin "BaseException.__getattribute__" == Value.builtin "object.__getattribute__") = false := by rw [hx2]; rfl
  unfold getAttr? getAttrBy? getAttrBy
  refine wpAny_bind (wpAny_mkText (wpAny_bind (wpAny_attempt (wpAny_holding (wpAny_bind (L0.at (wpAny_bind (L1.at ?_))))))))
  show wpAny _ _ (if (onTheHeap (Value.ref D) && Value.builtin "BaseException.__getattribute__" == Value.builtin "object.__getattribute__") = true then _ else _) _ _ _
  rw [hx1, if_neg Bool.false_ne_true]
  unfold getAttrByItsOwn hookBefore
  refine wpAny_bind ?_
  rw [if_pos (show onTheHeap (Value.ref D) = true from rfl)]
  refine L2.at ?_
  refine wpAny_bind (wpAny_attempt (wpAny_holding ?_))
  unfold callGetattribute
  rw [hx0, if_neg Bool.false_ne_true]
  unfold boundAndCalled
  rw [PySem.F.excAttr_ValueError.ga.bind (.ref x)]
  refine wpAny_bind (wpAny_pure ?_)
  show wpAny _ _ (call (.builtin "BaseException.__getattribute__") [.ref x, .str "__class__" t]) _ _ _
  refine wpAny_call (codeAny_call_builtin PySem.F.excAttr_ValueError.ga.plain PySem.F.entry_bexc_ga ?_)
  refine @check_slot (model prog w) _ _ ⟨hp, g, d, t + 1, os⟩ "BaseException.__getattribute__" "BaseException" "__getattribute__" (.ref x) [.str "__class__" t] [] _ (by decide +kernel) (by decide +kernel) sub (PySem.F.args_bexc_ga (.ref x) (.str "__class__" t)) ?_
  unfold Builtin.«object.__getattribute__»
  refine wpAny_bind (wpAny_of_eq (a := ((Value.ref x : Value), [Value.str "__class__" t])) (by first | rfl | (simp only [slotArgs]; rfl)) ?_)
  refine wpAny_bind (wpAny_pure (wpAny_bind (L0.at (wpAny_bind (L3.at ?_)))))
  show wpAny _ _ (holding [Value.builtin "object.__class__"] (call (.builtin "getset_descriptor.__get__") [.builtin "object.__class__", .ref x, .ref D]) >>= ret) _ _ _
  refine wpAny_bind (wpAny_holding (wpAny_call (class_get (s := ⟨hp, g, d, t + 1, os⟩) (ox := ox) (od := od) X I hm ?_)))
  refine wpAny_pure ?_
  show wpAny _ _ (handedOut (.ref D)) _ _ _
  rw [handedOut_of (v := .ref D) rfl]
  first
    | exact wpAny_pure (wpAny_pure h)
    | exact wpAny_pure h
    | exact wpAny_pure (wpAny_bind (wpAny_pure (wpAny_pure h)))
theorem kitx_excD {od : Option Obj} (hga : findIn K (.ref D) "__getattribute__" = some (some (.builtin "BaseException.__getattribute__"))) (hgt : findIn K (.ref D) "__getattr__" = some none) (hsub : subIn K (.ref D) (.type "BaseException") = some true) (hdct : hasDictIn K D = true) (ha : findIn K (.ref D) "__class__" = some (some (.builtin "object.__class__")))
    (hn : specialIn K (.builtin "object.__class__") "__get__" = some (some (.builtin "getset_descriptor.__get__"))) (htk : takesIn K (.builtin "object.__class__") = some true) (hm : mroIn K D (.type "object") = some true) :
    KitX K (.ref x) (.ref D) (fun h => InstAt h x ox D od) where
  ty := fun _ _ _ I => I.type
  it := fun _ _ X _ => by
    obtain ⟨cdD, hcD, _⟩ := any_some hdct
    unfold clsIn at hcD
    split at hcD
    · rename_i c' d' cd' sl' ho
      intro A' Q' E' s' k q
      unfold isType loadHead
      exact wpAny_bind (wpAny_loadPart (k _ _ (X _ _ ho)) (wpAny_pure q))
    · cases hcD
  ne := fun h tp dd its n sl X htp => by
    obtain ⟨cdD, hcD, _⟩ := any_some hdct
    refine Bool.eq_false_iff.mpr fun q => ?_
    have e : D = tp := Value.ref.inj (beq_iff_eq.mp q)
    subst e
    unfold clsIn at hcD
    split at hcD
    · rename_i c' d' cd' sl' ho
      have z := (X _ _ ho).symm.trans htp
      cases z
    · cases hcD
  ca := fun X I k => kin_classD hga hgt hsub hdct ha hn htk hm X I k
end
end PySem.W
namespace KS
open PySem PySem.Spec PyProof.Rows L2
/-- an own exception as a thing: at a, of the class at C, with its dict and fields or without -/
inductive ExAt (H : Hp) (a C : Addr) : Option (List (Str × V)) → Prop where
  | bare (e : H a = some (exo a C none)) : ExAt H a C none
  | full {d : Addr} {fs : List (Str × V)} (e : H a = some (exo a C (some d))) (ed : H d = some (exd d fs)) : ExAt H a C (some fs)
section
variable {X : Cx} {pins : List (Addr × Obj)} {σ : L2.St} {H : Hp} {s : Shared}
theorem ExAt.inst {a C : Addr} {fs : Option (List (Str × V))} (I : Inv X pins σ H s) (h : ExAt H a C fs) : ∃ ox od, PySem.W.InstAt s.heap a ox C od := by
  cases h with
  | bare e =>
    obtain ⟨t1, ho⟩ := exo_at I.hok e
    exact ⟨_, none, ho, rfl, rfl, trivial⟩
  | full e ed =>
    obtain ⟨t1, ho⟩ := exo_at I.hok e
    obtain ⟨mA, hns, _⟩ := exd_at I.hok ed
    obtain ⟨od, hod, _⟩ := lookIn_ns hns
    exact ⟨_, some od, ho, rfl, rfl, hod⟩
/-- isinstance(e, c), e such an exception -/
def rIsX (K : PySem.W.Frag) : List V → Hp → VK → Prop := fun xs H Q => ∃ (a C : Addr) (fs : Option (List (Str × V))) (c : V) (cv : Value) (b : Bool), xs = [.ref a, c] ∧ ExAt H a C fs ∧ ExcC K C ∧ ClsV c cv ∧ PySem.W.kitOne K (.ref C) cv = some b ∧ Q (.bl b) H
theorem call_isX : CallR X (.builtin "isinstance") (rIsX X.K) := by
  intro pins s σ H xs us Q I r h
  obtain ⟨a, C, fs, c, cv, b, rfl, ex, T, hc, e, q⟩ := h
  obtain ⟨u1, u2, rfl, r1, r2⟩ := vals2 r
  cases (show u1 = Value.ref a from r1)
  have e2 := hc.eq r2
  subst e2
  obtain ⟨ox, od, J⟩ := ex.inst I
  exact PySem.W.kia_one (PySem.W.kitx_excD T.hg T.hk T.hs T.hd T.ha T.hn T.ht T.hm) I.kIn J e (fun z => nomatch z) fun tk => ⟨.bl b, H, I.kept (t' := tk) fun _ _ z => z, rfl, q⟩
/-- e.f -/
def tExf (K : PySem.W.Frag) (f : Str) (te : TE) : TE := fun σ H Q => te σ H fun x H1 => ∃ (a C d : Addr) (fs : List (Str × V)) (v : V), x = .ref a ∧ H1 a = some (exo a C (some d)) ∧ H1 d = some (exd d fs) ∧ XfC K C ∧ PySem.W.findIn K (.ref C) f = some none ∧ fs.lookup f = some v ∧ Q v H1
theorem pe_exf {e : Expr} {te : TE} {pos : Pos} {n : Str} (he : PE X e te) (hb : attributeBase e n X.env (eval e X.env) = eval e X.env := by rfl) : PE X (.Attribute e n pos) (tExf X.K n te) := by
  refine ⟨fun pins s σ H Q I h => ?_⟩
  refine attr_of hb (thn (he.run pins s σ H _ I h) fun u s1 hh => ?_)
  obtain ⟨x, H1, I1, rx, a, C, d, fs, v, ex, ea, ed, T, hno, l, q⟩ := hh
  subst ex
  obtain rfl : u = Value.ref a := rx
  obtain ⟨t1, ho⟩ := exo_at I1.hok ea
  obtain ⟨mA, hns, hr⟩ := exd_at I1.hok ed
  obtain ⟨od, hod, hl⟩ := lookIn_ns hns
  obtain ⟨u, hu, ru⟩ := RelO.some_of (v := v) (o := mA n) (by rw [← l]; exact hr n)
  have J : PySem.W.InstAt s1.heap a _ C (some od) := ⟨ho, rfl, rfl, hod⟩
  exact HandSPX.exc_get I1.kIn J T.ga T.gg T.exC (PySem.W.findObj_own T.hdC hno rfl (by rw [hl, hu])) (handed_of ru) ⟨v, H1, I1.tok _, ru, q⟩
end
end KS
namespace PySem
namespace HandSPX
open PySem.W PySem.Calls PyProof.Rows
/-! ### type.__call__ on such a class: BaseException.__new__, then the own __init__ -/
section
variable {M : Model} {A : Around} {E : Value → Shared → Prop} {h : Heap} {g : Array GenState} {d : Drawn} {t : Nat} {os : OsState}
variable {nm q : Str} {C N : Addr} {bs bm bmB : List Value} {hdct : Bool} {sn : List Str} {sub : List Value} {ab : Bool} {col : Option Bool} {dd : Option Addr} {k0 k1 k2 k3 k5 : Option Value} {B newId initId : String}

theorem check_new_kw (F : ExcBaseFacts B newId initId bmB) (hT : ∀ X : String, bm.contains (.type X) = bmB.contains (.type X)) {rest : List Value} {kw : List (Str × Value)} {Q : Unit → Shared → Prop}
    (hC : h.get? C = some (excClassObj nm q C N bs bm hdct sn sub ab col dd k0 k1 k2 k3 k5 newId)) (hq : Q () ⟨h, g, d, t, os⟩) : wpAny M A (checkBuiltinCall newId ⟨.ref C :: rest, kw⟩) Q E ⟨h, g, d, t, os⟩ := by
  have hcont : (Value.ref C :: bm).contains (.type B) = true := by rw [List.contains_cons, hT, F.hasB, Bool.or_true]
  have hstar := F.noStar
  simp only [checkBuiltinCall, F.newKind, F.newSplit, F.newRow]
  repeat (first | refine wpAny_loadPart_at hC ?_ | (refine wpAny_isSubtype_exc hC ?_; rw [hcont]) | refine wpAny_staticBase_exc hC ?_ | refine wpAny_madeBy_exc hC ?_ | simp only [bne_self_eq_false, Bool.false_eq_true, if_false] | wp_step)
  exact hq
end

section
variable {prog : Program} {w : World} {A : Around} {E : Value → Shared → Prop} {R : Result → Shared → Prop} {h : Heap} {g : Array GenState} {d : Drawn} {t : Nat} {os : OsState}
variable {nm q : Str} {C N : Addr} {bs bm bmB : List Value} {hdct : Bool} {sn : List Str} {sub : List Value} {ab : Bool} {col : Option Bool} {dd : Option Addr} {k0 k1 k2 k3 k5 : Option Value} {B newId initId : String}

theorem new_kw (F : ExcBaseFacts B newId initId bmB) (hT : ∀ X : String, bm.contains (.type X) = bmB.contains (.type X)) {rest : List Value} {kw : List (Str × Value)}
    (hC : h.get? C = some (excClassObj nm q C N bs bm hdct sn sub ab col dd k0 k1 k2 k3 k5 newId))
    (hq : R (.ok (.ret (.ref (h.objs.size + 1)))) ⟨(h.push { cls := .type "tuple", data := .seq rest.toArray }).push
      { cls := .ref C, data := .fields #[.ref h.objs.size, .none, .none, .none, .bool false, .none] }, g, d, t, os⟩) (hrest : rest.length ≤ sizeLine) :
    codeAny (model prog w) A (.builtin newId ⟨.ref C :: rest, kw⟩) R ⟨h, g, d, t, os⟩ := by
  have hends := F.ends
  have hcB : (Value.ref C :: bm).contains (.type B) = true := by rw [List.contains_cons, hT, F.hasB, Bool.or_true]
  have hcA : (Value.ref C :: bm).contains (.type "AttributeError") = false := by rw [List.contains_cons, hT, F.noAttr]; rfl
  have hcN : (Value.ref C :: bm).contains (.type "NameError") = false := by rw [List.contains_cons, hT, F.noName]; rfl
  refine codeAny_builtinAt F.entry ?_
  unfold Builtin.«BaseException.__new__»
  refine wpAt_bind ?_
  show wpAt _ _ _ (stack >>= _) _ _ _
  refine wpAt_bind (wpAt_stack fun p below => wpAt_of_wpAny ?_)
  wp_walk
  refine wpAt_of_wpAny ?_
  rw [F.owner]
  repeat (first | with_reducible refine wpAny_madeHere_exc F.canon hC ?_ | with_reducible refine wpAny_loadPart_at hC ?_ | (with_reducible refine wpAny_isSubtype_exc hC ?_; first | rw [hcB] | rw [hcA] | rw [hcN]) | wp_step)
  show R _ _
  rw [Heap.size_push]
  exact hq

theorem type_call_kw (F : ExcBaseFacts B newId initId bmB) (hT : ∀ X : String, bm.contains (.type X) = bmB.contains (.type X)) {rest : List Value} {kw : List (Str × Value)} {fI : Addr} {Q : Fin → Shared → Prop}
    (hC : h.get? C = some (excClassObj nm q C N bs bm hdct sn sub ab col dd k0 k1 k2 k3 k5 newId))
    (hi : W.Looks (model prog w) h (typeLookup (.ref C) "__init__") (some (.ref fI))) (hb : ∀ self, W.Looks (model prog w) h (bindSpecial (.ref fI) self) (.ref fI, [self])) (hrest : rest.length ≤ sizeLine)
    (hq : codeAny (model prog w) A (.call (.ref fI) ⟨.ref (h.objs.size + 1) :: rest, kw⟩)
      (fun r s' => match r with | .ok (.ret v) => v = .none ∧ Q (.done (.ret (.ref (h.objs.size + 1)))) s' | .ok _ => False | .error e => E e s')
      ⟨(h.push (W.kdv_tup rest)).push (excO C h.objs.size), g, d, t, os⟩) :
    wpAny (model prog w) A (Builtin.«type.__call__» ⟨.ref C :: rest, kw⟩) Q E ⟨h, g, d, t, os⟩ := by
  repeat (first | with_reducible refine wpAny_loadPart_at hC ?_ | with_reducible refine wpAny_madeBy_exc hC ?_ | wp_step)
  refine codeAny_call_builtin_code (Code.quiet_builtin _ F.quiet) (check_new_kw F hT hC ?_)
  refine new_kw F hT hC ?_ hrest
  show wpAny _ _ _ _ _ _
  have k : ∀ b o, h.get? b = some o → ((h.push (W.kdv_tup rest)).push (excO C h.objs.size)).get? b = some o := fun b o e => Heap.get?_push_of_some _ (Heap.get?_push_of_some _ e)
  have hC₁ := k _ _ hC
  have hget : ((h.push (W.kdv_tup rest)).push (excO C h.objs.size)).get? (h.objs.size + 1) = some (excO C h.objs.size) := by heap_get
  have hcC : (Value.ref C :: bm).contains (.ref C) = true := by simp
  have i1 := hi.keeps k
  have b1 := (hb (.ref (h.objs.size + 1))).keeps k
  unfold isInstance
  repeat (first | with_reducible refine wpAny_loadPart_at hget ?_ | (with_reducible refine wpAny_isSubtype_exc hC₁ ?_; rw [hcC]) | wp_step)
  show wpAny _ _ (typeLookup (.ref C) _) _ _ _
  refine i1.at ?_
  refine wpAny_holding (wpAny_bind (b1.at ?_))
  refine wpAny_bind (wpAny_call (codeAny_mono hq fun r s' z => ?_))
  rcases r with e | (v | _ | _ | _) <;> first | exact z | exact z.elim | skip
  obtain ⟨rfl, z⟩ := z
  first
    | exact wpAny_pure (wpAny_pure z)
    | (wp_walk; exact z)

theorem call_kw (F : ExcBaseFacts B newId initId bmB) (hT : ∀ X : String, bm.contains (.type X) = bmB.contains (.type X)) {rest : List Value} {kw : List (Str × Value)} {fI : Addr}
    (hC : h.get? C = some (excClassObj nm q C N bs bm hdct sn sub ab col dd k0 k1 k2 k3 k5 newId))
    (hi : W.Looks (model prog w) h (typeLookup (.ref C) "__init__") (some (.ref fI))) (hb : ∀ self, W.Looks (model prog w) h (bindSpecial (.ref fI) self) (.ref fI, [self])) (hrest : rest.length ≤ sizeLine)
    (hq : codeAny (model prog w) (A.under (.builtin "type.__call__" ⟨.ref C :: rest, kw⟩)) (.call (.ref fI) ⟨.ref (h.objs.size + 1) :: rest, kw⟩) (W.InitBack (h.objs.size + 1) R)
      ⟨(h.push (W.kdv_tup rest)).push (excO C h.objs.size), g, d, t, os⟩) :
    codeAny (model prog w) A (.call (.ref C) ⟨rest, kw⟩) R ⟨h, g, d, t, os⟩ := by
  have f1 := tc_lookup
  have f2 := tc_bind (.ref C)
  have hTy : (⟨h, g, d, t, os⟩ : Shared).TypeIs (.ref C) "type" := ⟨_, hC, rfl⟩
  refine codeAny_of_tree ?_
  show wpAny _ _ (callAny (.ref C) _) _ _ _
  repeat (any_goals (first | assumption | with_reducible refine wpAny_loadPart_at hC ?_ | wp_step))
  refine ⟨rfl, ?_⟩
  refine codeAny_call_builtin_at (Code.quiet_builtin _ (by decide +kernel)) entry_typeCall (wpAny_check_type_call_sub hC (type_call_kw F hT hC hi hb hrest ?_))
  refine codeAny_mono hq fun r s' z => ?_
  rcases r with e | (v | _ | _ | _) <;> exact z

end
end HandSPX
end PySem
namespace PySem
namespace HandSPX
open Builtin Builtin.ObjectAttr
section
variable {prog : Program} {w : World} {A : Around} {E : Value → Shared → Prop} {R : Result → Shared → Prop} {hp : Heap} {g : Array GenState} {d : Drawn} {t : Nat} {os : OsState}
theorem exc_osaG {K : W.Frag} {name : Str} {tk : Tok} {v : Value} {x C : Addr} {fv : Array Value} {cd : ClassData}
    (X : K.In hp) (hx : hp.get? x = some { cls := .ref C, data := .fields fv }) (hcd : W.clsIn K C = some cd) (hp0 : ∀ self, refuseLoop self "__setattr__" cd.mro = pure ()) (ne : cd.mro.isEmpty = false) (hob : cd.mro.contains (.type "object") = true) (hh : cd.hasDict = true) (ha : W.findIn K (.ref C) name = some none)
    (hq : ∀ h' tk' dx, (∀ b o, b ≠ x → hp.get? b = some o → h'.get? b = some o) → hp.objs.size ≤ dx → dx ≠ x → h'.get? x = some { cls := .ref C, dict := some dx, data := .fields fv } →
      h'.Ns1 dx (fun y => if y = name then some v else none) → R (.ok (.ret .none)) ⟨h', g, d, tk', os⟩) :
    codeAny (model prog w) A (.call (.builtin "object.__setattr__") ⟨[.ref x, .str name tk, v], []⟩) R ⟨hp, g, d, t, os⟩ := by
  have I : W.InstAt hp x { cls := .ref C, data := .fields fv } C none := ⟨hx, rfl, rfl, trivial⟩
  have SF := F.store_object
  have hxs : x ≠ hp.objs.size := Nat.ne_of_lt (Heap.lt_size hx)
  have sub : W.Looks (model prog w) hp (isInstance (.ref x) (.type "object")) true := I.type.andThen (W.looks_mroIn X (by unfold W.mroIn; rw [hcd, Option.bind_some, if_neg (by rw [ne]; decide), hob]))
  refine codeAny_call_builtin SF.slot.plain SF.entry (@W.check_slot (model prog w) _ _ ⟨hp, g, d, t, os⟩ "object.__setattr__" "object" "__setattr__" (.ref x) [.str name tk, v] [] _ SF.kind SF.split sub (SF.args (.ref x) (.str name tk) v) ?_)
  have hmr : W.Looks (model prog w) hp (mroOf (.ref C)) cd.mro := (W.looks_clsIn X hcd).andThen .now
  have L3 : W.Looks (model prog w) hp (storeTaker? none) none := .now
  have hcls : W.Looks (model prog w) hp (classData C) cd := W.looks_clsIn X hcd
  rw [W.osa_eq, refuse_eq]
  refine wpAny_bind (wpAny_bind (I.type.at (wpAny_bind (hmr.at ?_))))
  rw [hp0]
  refine wpAny_pure (wpAny_bind (I.type.at (wpAny_bind ((W.looks_findIn X ha).at (wpAny_bind (L3.at ?_))))))
  show wpAny _ _ (storeInOwnDict (.ref x) (.ref C) (.str name tk) name v false) _ _ _
  obtain ⟨nm, bs, mro, ns, qn, hd, sn, sb, ab, col, del⟩ := cd
  dsimp only at hh
  subst hh
  unfold storeInOwnDict ownDictForStores
  repeat (first | with_reducible refine store_in_new ?_ ?_ | with_reducible refine wpAny_loadPart_at hx ?_ | with_reducible refine hcls.at ?_ | wp_step)
  · exact ⟨_, #[], _, (Heap.get?_update_ne _ _ _ _ hxs.symm).trans (Heap.get?_push_at rfl rfl), rfl, fun e he => absurd he (by simp), fun _ => rfl⟩
  · intro h' tk' hn' hs
    have hx₁ : (hp.push { cls := .type "dict", data := .dict #[] }).get? x = some { cls := .ref C, data := .fields fv } := Heap.get?_push_of_some _ hx
    refine hq h' tk' hp.objs.size (fun b o hb ho => ?_) (Nat.le_refl _) hxs.symm ?_ hn'
    · exact (hs.2 b (Nat.ne_of_lt (Heap.lt_size ho))).trans ((Heap.get?_update_ne _ _ _ _ hb).trans (Heap.get?_push_of_some _ ho))
    · exact (hs.2 x hxs).trans (Heap.get?_update_self _ hx₁ rfl)
end
end HandSPX
end PySem
namespace KS
open PySem PySem.Spec PyProof.Rows L2
/-- own classes above a built-in one -/
structure TailOk (bm bmB : List Value) : Prop where
  pass : ∀ self, refuseLoop self "__setattr__" bm = pure ()
  has : ∀ Y : String, bm.contains (.type Y) = bmB.contains (.type Y)
  obj : bmB.contains (.type "object") = true
theorem TailOk.one {B : String} {bmB : List Value} {sa owner : String} (S : Addr) (F : StoreFacts B bmB sa owner) (ho : bmB.contains (.type "object") = true) : TailOk (.ref S :: bmB) bmB :=
  ⟨fun self => by rw [refuseLoop_ref]; exact F.passes self, fun Y => by rw [List.contains_cons]; rfl, ho⟩
/-- what the written part says of an own class of exceptions, over any built-in one -/
structure OexB (K : PySem.W.Frag) (C : Addr) : Prop where
  cls : ∃ (B newId initId : String) (bmB : List Value), ∃ nm q N bs bm sn sub ab col dd k0 k1 k2 k3 k5, ExcBaseFacts B newId initId bmB ∧ K.lookup C = some (excClassObj nm q C N bs bm true sn sub ab col dd k0 k1 k2 k3 k5 newId) ∧ TailOk bm bmB
  sa : PySem.W.findIn K (.ref C) "__setattr__" = some (some (.builtin "object.__setattr__"))
  kC : PySem.W.keepIn K (.ref C) = true
section
variable {X : Cx} {pins : List (Addr × Obj)} {σ : L2.St} {H : Hp} {s : Shared} {A : Around} {E : Value → Shared → Prop} {a C : Addr} {f : Str} {y : V} {u : Value} {Q : Unit → Shared → Prop}
theorem ost_newG (T : OexB X.K C) (I : Inv X pins σ H s) (e : H a = some (exo a C none)) (hno : PySem.W.findIn X.K (.ref C) f = some none) (ry : RelV y u)
    (h : ∀ dx s', H dx = none → dx ≠ a → Inv X pins σ (upd (upd H dx (exd dx [(f, y)])) a (exo a C (some dx))) s' → Q () s') : wpAny (model X.prog X.w) A (setAttr (.ref a) f u) Q E s := by
  obtain ⟨B, newId, initId, bmB, nm, q, N, bs, bm, sn, sub, ab, col, dd, k0, k1, k2, k3, k5, FB, hC, hbm⟩ := T.cls
  have hcl : PySem.W.clsIn X.K C = some { name := nm, bases := bs, mro := .ref C :: bm, ns := N, qualname := q, hasDict := true, slotNames := sn, subclasses := sub, abstract := ab, collection := col, hasDel := false } := by unfold PySem.W.clsIn; rw [hC] <;> rfl
  obtain ⟨t1, ho⟩ := exo_at I.hok e
  obtain ⟨hp, g, d, t, os⟩ := s
  refine PySem.W.set_plain I.kIn (ox := { cls := .ref C, dict := none, data := .fields #[.ref t1, .none, .none, .none, .bool false, .none] }) (od := none) ⟨ho, rfl, rfl, trivial⟩ T.sa ?_
  refine PySem.HandSPX.exc_osaG I.kIn ho hcl (fun self => (by show PySem.refuseLoop self "__setattr__" (.ref C :: bm) = pure (); rw [PySem.refuseLoop_ref]; exact hbm.pass self)) rfl (by show (Value.ref C :: bm).contains (.type "object") = true; rw [List.contains_cons, hbm.has, hbm.obj, Bool.or_true]) rfl hno (fun h' tk' dx k dn dne hx hn => ?_)
  have hnd : H dx = none := I.hok.fresh dn
  have nd : ∀ {b : Addr} {o : Obj}, hp.get? b = some o → b ≠ dx := fun {b o} q => Nat.ne_of_lt (Nat.lt_of_lt_of_le (Heap.lt_size q) dn)
  have na : ∀ {b : Addr}, H b = none → b ≠ a := fun {b} n z => by
    rw [z, e] at n
    cases n
  have Un1 : Un X.fs [] H (upd (upd H dx (exd dx [(f, y)])) a (exo a C (some dx))) hp h' := {
    keep := fun b o q n _ _ => k b o (na n) q
    slot := fun b o q n _ _ => ⟨o.slots, k b o (na n) q⟩
    free := fun b o q n _ => by rw [upd_ne (na n), upd_ne (nd q)]; exact n
    there := fun b o q _ => by
      by_cases hb : b = a
      · exact ⟨_, by rw [hb]; exact hx⟩
      · exact ⟨o, k b o hb q⟩
    tups := fun b xs q => by rw [upd_ne (at_ne e q exo_tup), upd_ne (ne_of_none q hnd)]; exact q
    frzs := fun b o v q => by rw [upd_ne (at_ne e q exo_frz), upd_ne (ne_of_none q hnd)]; exact q
    tbls := fun b ps q => ⟨#[], by rw [upd_ne (at_ne e q exo_tbl), upd_ne (ne_of_none q hnd), q]; simp⟩ }
  refine h dx _ hnd dne (I.un (t' := tk') Un1 fun b o q => ?_)
  by_cases hb : b = a
  · subst hb
    rw [upd_same] at q
    cases q
    exact exo_ok hx
  · rw [upd_ne hb] at q
    by_cases hd : b = dx
    · subst hd
      rw [upd_same] at q
      cases q
      exact exd_ok hn (relO_put (fs := []) ry fun g => True.intro)
    · rw [upd_ne hd] at q
      exact (I.hok b o q).stay (fun c v hc z => k c v (by
          rcases hc with hc | hc
          · rw [hc]
            exact hb
          · exact at_ne e hc exo_own) z)
        (fun c hc => by rw [upd_ne (at_ne e hc exo_own), upd_ne (ne_of_none hc hnd)]; exact hc) (fun c xs hc => by rw [upd_ne (at_ne e hc exo_tup), upd_ne (ne_of_none hc hnd)]; exact hc)
/-- self.f = e, the first field -/
def tOstG (K : PySem.W.Frag) (f : Str) (to te : TE) : TS := fun D σ H => te σ H fun y H1 => to σ H1 fun x H2 => ∃ a C : Addr, x = .ref a ∧ OexB K C ∧ PySem.W.findIn K (.ref C) f = some none ∧ H2 a = some (exo a C none) ∧
  ∀ dx, H2 dx = none → dx ≠ a → D.nx σ (upd (upd H2 dx (exd dx [(f, y)])) a (exo a C (some dx)))
theorem ps_ostG {o e : Expr} {to te : TE} {p' pos : Pos} (ho : PE X o to) (he : PE X e te) (hs : swapsWith e (some (.Attribute o f p')) pos.line X.env = pure false := by rfl) : PS X (.Assign [.Attribute o f p'] e pos) (tOstG X.K f to te) := by
  refine ⟨fun pins s σ H D I h => ?_⟩
  refine plainObj_wpAny_Assign_Attribute (thn (he.run pins s σ H _ I h) fun v s1 ⟨y, H1, I1, r1, q1⟩ => thn (ho.run pins s1 σ H1 _ I1 q1) fun u s2 ⟨x, H2, I2, r2, a, C, ex, T, hno, ea, q⟩ => ?_) hs
  subst ex
  obtain rfl : u = Value.ref a := r2
  exact ost_newG T I2 ea hno r1 fun dx s' n ne J => ⟨σ, _, J, q dx n ne⟩
end
/-- what such an __init__ keeps -/
def spIni (K : PySem.W.Frag) (f : Str) : Sp := fun vs H Q _ => ∃ (a C : Addr) (v : V), vs = [.ref a, v] ∧ OexB K C ∧ PySem.W.findIn K (.ref C) f = some none ∧ H a = some (exo a C none) ∧ ∀ dx, H dx = none → dx ≠ a → Q .non (upd (upd H dx (exd dx [(f, v)])) a (exo a C (some dx)))
/-- C(e), C(f = e): a new error with its field -/
def tMkX (C : Addr) (f : Str) (ta : TA) : TE := fun σ H Q => ta σ H fun vs H1 => ∃ v, vs = [v] ∧ ∀ a d, H1 a = none → H1 d = none → d ≠ a → Q (.ref a) (upd (upd H1 d (exd d [(f, v)])) a (exo a C (some d)))
section
variable {X : Cx} {k : Nat} {fI C : Addr} {fd : FuncData} {ps : List Str} {x f : Str} {p pos : Pos} {e : Expr}
theorem mkx_run {pins : List (Addr × Obj)} {σ : L2.St} {H1 : Hp} {s1 : Shared} {Q : VK} {us : List Value} {kw : List (Str × Value)} {v : V} {u : Value} (T : OexB X.K C) (iC : PySem.W.findIn X.K (.ref C) "__init__" = some (some (.ref fI))) (tI : PySem.W.typeIn X.K (.ref fI) = some (.type "function")) (nf : PySem.W.findIn X.K (.ref C) f = some none)
    (F1 : FnOk X.prog X.w X.K X.mg X.base CX0 k fI fd ps (spIni X.K f)) (hr : Room (k + 1) X.A) (hb : ∀ (s : Shared) (r : Value), X.K.In s.heap → BindsTo s fd ⟨r :: us, kw⟩ (ps.zip [r, u])) (hus : us.length ≤ 1)
    (I1 : Inv X pins σ H1 s1) (rv : RelV v u) (q1 : ∀ a d, H1 a = none → H1 d = none → d ≠ a → Q (.ref a) (upd (upd H1 d (exd d [(f, v)])) a (exo a C (some d)))) :
    wpAny (model X.prog X.w) X.A (call (.ref C) us kw) (EP X pins σ Q) X.xe s1 := by
  obtain ⟨B, newId, initId, bmB, nm, q, N, bs, bm, sn, sub, ab, col, dd, k0, k1, k2, k3, k5, FB, hC, hbm⟩ := T.cls
  obtain ⟨hp, g, dr, tk, os⟩ := s1
  have hsz : hp.objs.size ≤ hp.objs.size + 1 := Nat.le_succ _
  have hn : H1 (hp.objs.size + 1) = none := I1.hok.fresh hsz
  have kk : ∀ b o, hp.get? b = some o → ((hp.push (PySem.W.kdv_tup us)).push (PySem.HandSPX.excO C hp.objs.size)).get? b = some o := fun b o e => Heap.get?_push_of_some _ (Heap.get?_push_of_some _ e)
  have hget : ((hp.push (PySem.W.kdv_tup us)).push (PySem.HandSPX.excO C hp.objs.size)).get? (hp.objs.size + 1) = some (PySem.HandSPX.excO C hp.objs.size) := by heap_get
  have I2 : Inv X pins σ (upd H1 (hp.objs.size + 1) (exo (hp.objs.size + 1) C none)) ⟨(hp.push (PySem.W.kdv_tup us)).push (PySem.HandSPX.excO C hp.objs.size), g, dr, tk, os⟩ :=
    I1.laid (t' := tk) (a := hp.objs.size + 1) (o := exo (hp.objs.size + 1) C none) (h' := (hp.push (PySem.W.kdv_tup us)).push (PySem.HandSPX.excO C hp.objs.size)) kk hsz (exo_ok hget)
  have r2 : Vals [V.ref (hp.objs.size + 1), v] [Value.ref (hp.objs.size + 1), u] := .cons rfl (.cons rv .nil)
  have hsz2 : us.length ≤ sizeLine := Nat.le_trans hus (by rw [sizeLine_eq]; omega)
  have hq : spIni X.K f [V.ref (hp.objs.size + 1), v] (upd H1 (hp.objs.size + 1) (exo (hp.objs.size + 1) C none)) (fun x H2 => x = .non ∧ Q (.ref (hp.objs.size + 1)) H2) (fun _ _ _ => False) := by
    refine ⟨_, C, v, rfl, T, nf, upd_same, fun dx nx ne => ⟨rfl, ?_⟩⟩
    have nd : H1 dx = none := by rwa [upd_ne ne] at nx
    have e : upd (upd (upd H1 (hp.objs.size + 1) (exo (hp.objs.size + 1) C none)) dx (exd dx [(f, v)])) (hp.objs.size + 1) (exo (hp.objs.size + 1) C (some dx)) =
        upd (upd H1 dx (exd dx [(f, v)])) (hp.objs.size + 1) (exo (hp.objs.size + 1) C (some dx)) := by
      funext b
      by_cases h1 : b = hp.objs.size + 1
      · rw [h1, upd_same, upd_same]
      · rw [upd_ne h1, upd_ne h1]
        by_cases h2 : b = dx
        · rw [h2, upd_same, upd_same]
        · rw [upd_ne h2, upd_ne h2, upd_ne h1]
    rw [e]
    exact q1 _ dx hn nd ne
  refine wpAny_call (PySem.HandSPX.call_kw FB hbm.has (I1.kIn _ _ hC) (PySem.W.looks_findIn I1.kIn iC) (fun self => PySem.W.bind_fn I1.kIn self tI) hsz2
    (codeAny_mono (F1.run _ X.stack _ _ ⟨Value.ref (hp.objs.size + 1) :: us, kw⟩ [Value.ref (hp.objs.size + 1), u] _ _ (fun _ _ _ => False) (hr.make C us kw) (I2.env0.make C us kw) (hb _ _ I2.kIn) r2 hq) fun r s' hq' => ?_))
  cases r with
  | error er => exact (show False from hq').elim
  | ok fl =>
    cases fl with
    | ret u2 =>
      obtain ⟨w2, H2, J, rv2, ew, q2⟩ := I2.after hq'
      subst ew
      exact ⟨rv2, .ref (hp.objs.size + 1), H2, J, rfl, q2⟩
    | next => exact False.elim hq'
    | brk => exact False.elim hq'
    | cont => exact False.elim hq'
end
end KS
namespace KS
open PySem PySem.Spec PyProof.Rows L2
/-- an own error class with one field, at C -/
structure XIni (P : Program) (w : World) (K : PySem.W.Frag) (mg : Str → Option Value) (base : Heap) (x f : Str) (C : Addr) : Prop where
  T : OexB K C
  mC : mg x = some (.ref C)
  nf : PySem.W.findIn K (.ref C) f = some none
  xf : XfC K C
  ec : ExcC K C
  ini : ∃ fI fd, PySem.W.findIn K (.ref C) "__init__" = some (some (.ref fI)) ∧ PySem.W.typeIn K (.ref fI) = some (.type "function") ∧ FnOk P w K mg base CX0 1 fI fd ["self", f] (spIni K f) ∧
    (∀ (s : Shared) (r u : Value), K.In s.heap → BindsTo s fd ⟨[r, u], []⟩ [("self", r), (f, u)]) ∧ (∀ (s : Shared) (r u : Value), K.In s.heap → BindsTo s fd ⟨[r], [(f, u)]⟩ [("self", r), (f, u)])
/-- a new error with its field -/
def tMk1 (C : Addr) (f : Str) (te : TE) : TE := fun σ H Q => te σ H fun v H1 => ∀ a d, H1 a = none → H1 d = none → d ≠ a → Q (.ref a) (upd (upd H1 d (exd d [(f, v)])) a (exo a C (some d)))
def tMk1k (C : Addr) (f : Str) (tk : TA) : TE := fun σ H Q => tk σ H fun vs H1 => ∃ v, vs = [v] ∧ ∀ a d, H1 a = none → H1 d = none → d ≠ a → Q (.ref a) (upd (upd H1 d (exd d [(f, v)])) a (exo a C (some d)))
section
variable {X : Cx} {C : Addr} {x f : Str} {p pos : Pos} {e : Expr} {te : TE}
theorem pe_mk1 (J : XIni X.prog X.w X.K X.mg X.base x f C) (hr : Room 2 X.A) (hg : Gl X x) (he : PE X e te) (hs : starEach [e] X.env = (false, eval e X.env) :: starEach [] X.env := by rfl) (hdb : (x == ("__debug__" : Str)) = false := by decide) :
    PE X (.Call (.Name x p) [e] [] pos) (tMk1 C f te) := by
  refine ⟨fun pins s σ H Q I h => ?_⟩
  refine wpAny_Call_Name_kw (ld_glob I hg J.mC ?_ hdb)
  refine PySem.W.callWith_K (h₀ := X.base) I.ok.mod.kin J.T.kC ?_ hs (by rfl)
  rw [hs]
  show wpAny _ _ (spliced ((false, eval e X.env) :: backTo pos (starEach [] X.env))) _ _ s
  refine Calls.spliced_cons (thn (he.run pins s σ H _ I h) fun u s1 ⟨v, H1, I1, r1, q1⟩ => ?_)
  refine Calls.spliced_nil ⟨I1.kIn, ?_⟩
  obtain ⟨fI, fd, iC, tI, F1, b1, _⟩ := J.ini
  exact mkx_run J.T iC tI J.nf F1 hr (fun s r k => b1 s r u k) (Nat.le_refl 1) I1 r1 q1
theorem pe_mk1k {kws : List Keyword} {tk : TA} (J : XIni X.prog X.w X.K X.mg X.base x f C) (hr : Room 2 X.A) (hg : Gl X x) (hkw : PK X kws tk) (hall : (backToKw pos (keywordEach kws X.env)).all (·.1.isSome) = true := by rfl)
    (hks : (backToKw pos (keywordEach kws X.env)).filterMap (·.1) = [f] := by rfl) (hdb : (x == ("__debug__" : Str)) = false := by decide)
    (hpl : ((backTo pos (starEach [] X.env)).any (·.1) || (backToKw pos (keywordEach kws X.env)).any (·.1.isNone)) = false := by rfl) :
    PE X (.Call (.Name x p) [] kws pos) (tMk1k C f tk) := by
  refine ⟨fun pins s σ H Q I h => wpAny_Call_Name_kw (ld_glob I hg J.mC ?_ hdb)⟩
  refine PySem.W.callWith_KW0 (h₀ := X.base) I.ok.mod.kin J.T.kC hall ?_ hpl
  refine thn (hkw.run pos pins s σ H _ I h) fun ws s2 hh => ?_
  obtain ⟨zs, H2, I2, rz, v, ez, q2⟩ := hh
  refine ⟨I2.kIn, ?_⟩
  rw [hks]
  subst ez
  cases rz with
  | @cons _ u _ ur r1 rr =>
    cases rr
    obtain ⟨fI, fd, iC, tI, F1, _, b2⟩ := J.ini
    show wpAny _ _ (call (.ref C) [] [(f, u)]) _ _ _
    exact mkx_run J.T iC tI J.nf F1 hr (fun s r k => b2 s r u k) (by decide) I2 r1 q2
/-- an own error class without an own __init__ -/
structure XBare (K : PySem.W.Frag) (mg : Str → Option Value) (x : Str) (C : Addr) : Prop where
  mC : mg x = some (.ref C)
  kC : PySem.W.keepIn K (.ref C) = true
  ec : ExcC K C
  cls : ∃ (B newId initId : String) (bmB : List Value), ExcBaseFacts B newId initId bmB ∧ PySem.W.excIn K C bmB newId = true
def tMk0 (C : Addr) : TE := fun σ H Q => ∀ a, H a = none → Q (.ref a) (upd H a (exo a C none))
theorem pe_mk0 (J : XBare X.K X.mg x C) (hg : Gl X x) (hdb : (x == ("__debug__" : Str)) = false := by decide) : PE X (.Call (.Name x p) [] [] pos) (tMk0 C) := by
  refine ⟨fun pins s σ H Q I h => ?_⟩
  obtain ⟨B, newId, initId, bmB, F, q⟩ := J.cls
  refine wpAny_Call_Name_kw (ld_glob I hg J.mC ?_ hdb)
  refine PySem.W.callWith_K0 I.kIn J.kC ?_
  show wpAny _ _ (call (.ref C) []) _ _ _
  obtain ⟨bm, N, nm, qn, bs, hdct, sn, sub, ab, col, dd, k0, k1, k2, k3, k5, mN, hC, hN, hni, T⟩ := exc_obj I.kIn q
  refine wpAny_call_exc_subT F T hC hN hni (fun h' a hm => ?_) (by show 0 ≤ sizeLine; rw [sizeLine_eq]; omega)
  have hn : H a = none := I.hok.gone hm.new
  obtain ⟨t, ht, _, _⟩ := hm.there
  exact ⟨.ref a, upd H a (exo a C none), I.laidN hm.keeps hm.new hn (exo_ok ht), rfl, h a hn⟩
end
/-- the def __init__ of a class: its one def -/
def iniOf (s : Stmt) : Stmt := match s with
  | .ClassDef _ _ _ (x :: _) _ _ _ _ _ _ _ => x
  | _ => s
section
variable {P : Program} {w : World} {K : PySem.W.Frag} {mg : Str → Option Value} {base : Heap}
theorem ok_ini {q f : Str} {st : Stmt} {fI : Addr} {fd : FuncData} {p1 p2 p3 p4 : Pos} (F : Fun K "__init__" q st fI fd) (S : FnScope ["self", f] ["self", f] (defScope st))
    (hb : defBody st = [.Assign [.Attribute (.Name "self" p1) f p2] (.Name f p3) p4]) (l0 : (defScope st).names.lookup ("self" : Str) = some NameKind.local) (l1 : (defScope st).names.lookup f = some NameKind.local)
    (hd : (f == ("__debug__" : Str)) = false) (hc : (f == ("__classdict__" : Str)) = false) : FnOk P w K mg base CX0 1 fI fd ["self", f] (spIni K f) := by
  refine F.ok S (fun vs H Q E h => ?_) (fun cdv A outer s H vs Q E hr h => ?_)
  · obtain ⟨a, C, v, rfl, _⟩ := h
    rfl
  · obtain ⟨a, C, v, rfl, T, nf, ea, q⟩ := h
    have nd := S.nd
    rw [hb]
    refine ⟨_, pss_one (ps_ostG (pe_var (i := 0) rfl (.inl l0)) (pe_var (i := 1) rfl (.inl l1) hd hc)), ?_⟩
    exact ⟨_, rfl, _, rfl, a, C, rfl, T, nf, ea, fun dx nx ne => q dx nx ne⟩
end
end KS
namespace KS
open PySem PySem.Spec PyProof.Rows L2
/-- l.count(x), l a list of plain data, x plain data -/
def rCntD (K : PySem.W.Frag) : V → List V → Hp → VK → Prop := fun x xs H Q => ∃ (p : Addr) (ys : List V) (ds : List PyData) (y : V) (d : PyData), x = .ref p ∧ xs = [y] ∧ SqL K H p ys ∧ DpAll K H ys ds ∧ Dp K H y d ∧
  PyData.plainAll ds = true ∧ d.plain = true ∧ d.depth ≤ 60 ∧ Q (.int ((ds.countP fun z => PyData.eqv z d : Nat) : Int)) H
theorem mt_lcountD {X : Cx} (hu : X.A.units + 65 < cLine) : MtR X "list.count" (rCntD X.K) := by
  intro pins s σ H x xs v us Q I rx rs h
  obtain ⟨p, ys, ds, y, d, rfl, rfl, hl, hds, hd, p1, p2, dp, q⟩ := h
  cases rx
  obtain ⟨u, rfl, ru⟩ := rs.one
  obtain ⟨its, rv, pl, hlen⟩ := I.list hl
  obtain ⟨as, hr⟩ := Dp.readsAll I ds ys its hds rv
  obtain ⟨bs, r2⟩ := Dp.reads I d y u hd ru
  refine SeqAt.count_list_data pl.isList (by simpa using hr) r2 p1 p2 ?_ ⟨.int _, H, I.tok _, ⟨_, rfl⟩, q⟩
  have h2 : min (PyData.depthAll ds) d.depth ≤ d.depth := Nat.min_le_right _ _
  omega
/-- the tables of a list that are one -/
theorem count_ints (T : List Int) (ls : List (List Int)) : (ls.map lineD).countP (fun z => PyData.eqv z (lineD T)) = ls.count T := by
  rw [List.countP_map, List.count]
  refine List.countP_congr fun l _ => ?_
  show PyData.eqv (lineD l) (lineD T) = true ↔ (l == T) = true
  rw [ints_eqvT]
  simp
theorem plain_ints : ∀ l : List Int, PyData.plainAll (l.map PyData.int) = true
  | [] => rfl
  | x :: l => by
    show (PyData.plain (.int x) && PyData.plainAll (l.map PyData.int)) = true
    rw [plain_ints l]
    rfl
theorem plain_line (l : List Int) : (lineD l).plain = true := by
  show PyData.plainAll (l.map PyData.int) = true
  exact plain_ints l
theorem plain_lines : ∀ ls : List (List Int), PyData.plainAll (ls.map lineD) = true
  | [] => rfl
  | l :: ls => by
    show ((lineD l).plain && PyData.plainAll (ls.map lineD)) = true
    rw [plain_line, plain_lines ls]
    rfl
end KS
namespace KS
open PySem PySem.Spec PyProof.Rows L2
theorem ExAt.same {H H' : Hp} (s : Same H H') {a C : Addr} {fs : Option (List (Str × V))} (h : ExAt H a C fs) : ExAt H' a C fs := by
  cases h with
  | bare e => exact .bare (s _ _ e)
  | full e ed => exact .full (s _ _ e) (s _ _ ed)
/-- the classes of errors of the program, by their numbers, and their bases -/
def clsNames : List Str := ["InvalidPlan", "InvalidKind", "InvalidFilling", "InvalidNumber", "InvalidWord", "InvalidProgram", "InvalidText", "InvalidLengths", "InvalidTable", "InvalidRecord", "InvalidCell", "InvalidValue", "InvalidEdit", "InvalidCommand", "OtherValues", "UnknownName", "NoOrder", "ValueTaken", "NothingToUndo", "TooManyCells", "TooManyEdits"]
structure Kinds (K : PySem.W.Frag) (mg : Str → Option Value) (cs bs : Nat → Addr) : Prop where
  m0 : mg "InvalidPlan" = some (.ref (cs 0))
  m1 : mg "InvalidKind" = some (.ref (cs 1))
  m2 : mg "InvalidFilling" = some (.ref (cs 2))
  m3 : mg "InvalidNumber" = some (.ref (cs 3))
  m4 : mg "InvalidWord" = some (.ref (cs 4))
  m5 : mg "InvalidProgram" = some (.ref (cs 5))
  m6 : mg "InvalidText" = some (.ref (cs 6))
  m7 : mg "InvalidLengths" = some (.ref (cs 7))
  m8 : mg "InvalidTable" = some (.ref (cs 8))
  m9 : mg "InvalidRecord" = some (.ref (cs 9))
  m10 : mg "InvalidCell" = some (.ref (cs 10))
  m11 : mg "InvalidValue" = some (.ref (cs 11))
  m12 : mg "InvalidEdit" = some (.ref (cs 12))
  m13 : mg "InvalidCommand" = some (.ref (cs 13))
  m14 : mg "OtherValues" = some (.ref (cs 14))
  m15 : mg "UnknownName" = some (.ref (cs 15))
  m16 : mg "NoOrder" = some (.ref (cs 16))
  m17 : mg "ValueTaken" = some (.ref (cs 17))
  m18 : mg "NothingToUndo" = some (.ref (cs 18))
  m19 : mg "TooManyCells" = some (.ref (cs 19))
  m20 : mg "TooManyEdits" = some (.ref (cs 20))
  b0 : mg "SortError" = some (.ref (bs 0))
  b1 : mg "FindError" = some (.ref (bs 1))
  b2 : mg "LimitError" = some (.ref (bs 2))
  kit : ∀ i, i < 21 → ∀ j, j < 21 → PySem.W.kitOne K (.ref (cs i)) (.ref (cs j)) = some (decide (i = j))
  kit0 : ∀ i, i < 21 → PySem.W.kitOne K (.ref (cs i)) (.ref (bs 0)) = some (decide (i < 14))
  kit1 : ∀ i, i < 21 → PySem.W.kitOne K (.ref (cs i)) (.ref (bs 1)) = some (decide (14 ≤ i ∧ i < 19))
  kit2 : ∀ i, i < 21 → PySem.W.kitOne K (.ref (cs i)) (.ref (bs 2)) = some (decide (19 ≤ i))
  own0 : ∀ i, i < 21 → PySem.W.kitOne K (.ref (cs i)) (.type "ValueError") = some (decide (i < 14))
  own1 : ∀ i, i < 21 → PySem.W.kitOne K (.ref (cs i)) (.type "LookupError") = some (decide (14 ≤ i ∧ i < 19))
  own2 : ∀ i, i < 21 → PySem.W.kitOne K (.ref (cs i)) (.type "ArithmeticError") = some (decide (19 ≤ i))
  ec : ∀ i, i < 21 → ExcC K (cs i)
def spLKind (K : PySem.W.Frag) (cs : Nat → Addr) : Sp := fun vs H Q _ => ∃ (a : Addr) (i : Nat) (fs : Option (List (Str × V))), vs = [.ref a] ∧ i < 21 ∧ ExAt H a (cs i) fs ∧ ∀ H', Same H H' → Q (.int (i : Nat)) H'
abbrev sLKind : Stmt := topS 74
abbrev nLKind : List Str := ["_law_e", "_law_found", "_law_bases", "_law_own", "_law_at"]
theorem scLKind : FnScope nLKind ["_law_e"] (defScope sLKind) := ⟨rfl, rfl, rfl, by decide +kernel, rfl, by decide +kernel, by decide +kernel⟩
theorem kd_count : ∀ i, i < 21 → (((List.range 21).map fun j => PyData.bool (decide (i = j))).countP fun z => PyData.eqv z (.bool true)) = 1 := by decide +kernel
theorem kd_at : ∀ i, i < 21 → ((List.range 21).map fun j => V.bl (decide (i = j)))[i]? = some (.bl true) := by decide +kernel
theorem kd_before : ∀ i, i < 21 → ∀ m, m < i → ((List.range 21).map fun j => V.bl (decide (i = j)))[m]? = some (.bl false) := by decide +kernel
theorem kd_flat : ∀ i, i < 21 → (((List.range 21).map fun j => V.bl (decide (i = j))).all flatV) = true := by decide +kernel
theorem kd_plain : ∀ i, i < 21 → PyData.plainAll ((List.range 21).map fun j => PyData.bool (decide (i = j))) = true := by decide +kernel
theorem kd_shape : ∀ x y z : Bool, SeqAt.shaped (.list [.bool x, .bool y, .bool z]) = true := by decide +kernel
theorem kd_eqv : ∀ x y z : Bool, PyData.eqv (.list [.bool x, .bool y, .bool z]) (.list [.bool x, .bool y, .bool z]) = true := by decide +kernel
theorem dp_bls {K : PySem.W.Frag} {H : Hp} : ∀ l : List Bool, DpAll K H (l.map V.bl) (l.map PyData.bool)
  | [] => .nil
  | b :: l => .cons (.bl b) (dp_bls l)
section
variable {P : Program} {w : World} {K : PySem.W.Frag} {mg : Str → Option Value} {base : Heap}
theorem ok_lkind {f : Addr} {fd : FuncData} {cs bs : Nat → Addr} (F : Fun K "_law_kind" "_law_kind" sLKind f fd) (J : Kinds K mg cs bs) (mi : mg "isinstance" = none) (mV : mg "ValueError" = none) (mL : mg "LookupError" = none) (mA : mg "ArithmeticError" = none) :
    FnOk P w K mg base CX0 1 f fd ["_law_e"] (spLKind K cs) := by
  refine F.ok scLKind (fun vs H Q E h => ?_) (fun cdv A outer s H vs Q E hr h => ?_)
  · obtain ⟨a, i, fs, rfl, _⟩ := h
    rfl
  · obtain ⟨a, i, fs, rfl, hi, ex, q⟩ := h
    have nd := scLKind.nd
    have hu66 : (A.deeper (envOfC "_law_kind" (defScope sLKind) s.heap.objs.size f cdv)).units + 65 < cLine := by
      have := hr.un
      omega
    refine ⟨_, pss_cons (ps_set (i := 1) nd rfl (.inl rfl) (pe_lst (pa_cons (pe_callB call_isX (by rfl) mi (by decide +kernel) (pa_cons (pv 0) (pa_cons (pe_glob (v := .ref (cs 0)) (by rfl) J.m0 rfl) pa_nil))) (pa_cons (pe_callB call_isX (by rfl) mi (by decide +kernel) (pa_cons (pv 0) (pa_cons (pe_glob (v := .ref (cs 1)) (by rfl) J.m1 rfl) pa_nil))) (pa_cons (pe_callB call_isX (by rfl) mi (by decide +kernel) (pa_cons (pv 0) (pa_cons (pe_glob (v := .ref (cs 2)) (by rfl) J.m2 rfl) pa_nil))) pa_nil)))))
      (pss_cons (ps_set (i := 1) nd rfl (.inl rfl) (pe_op op_cat (pv 1) (pe_lst (pa_cons (pe_callB call_isX (by rfl) mi (by decide +kernel) (pa_cons (pv 0) (pa_cons (pe_glob (v := .ref (cs 3)) (by rfl) J.m3 rfl) pa_nil))) (pa_cons (pe_callB call_isX (by rfl) mi (by decide +kernel) (pa_cons (pv 0) (pa_cons (pe_glob (v := .ref (cs 4)) (by rfl) J.m4 rfl) pa_nil))) (pa_cons (pe_callB call_isX (by rfl) mi (by decide +kernel) (pa_cons (pv 0) (pa_cons (pe_glob (v := .ref (cs 5)) (by rfl) J.m5 rfl) pa_nil))) pa_nil))))))
      (pss_cons (ps_set (i := 1) nd rfl (.inl rfl) (pe_op op_cat (pv 1) (pe_lst (pa_cons (pe_callB call_isX (by rfl) mi (by decide +kernel) (pa_cons (pv 0) (pa_cons (pe_glob (v := .ref (cs 6)) (by rfl) J.m6 rfl) pa_nil))) (pa_cons (pe_callB call_isX (by rfl) mi (by decide +kernel) (pa_cons (pv 0) (pa_cons (pe_glob (v := .ref (cs 7)) (by rfl) J.m7 rfl) pa_nil))) (pa_cons (pe_callB call_isX (by rfl) mi (by decide +kernel) (pa_cons (pv 0) (pa_cons (pe_glob (v := .ref (cs 8)) (by rfl) J.m8 rfl) pa_nil))) pa_nil))))))
      (pss_cons (ps_set (i := 1) nd rfl (.inl rfl) (pe_op op_cat (pv 1) (pe_lst (pa_cons (pe_callB call_isX (by rfl) mi (by decide +kernel) (pa_cons (pv 0) (pa_cons (pe_glob (v := .ref (cs 9)) (by rfl) J.m9 rfl) pa_nil))) (pa_cons (pe_callB call_isX (by rfl) mi (by decide +kernel) (pa_cons (pv 0) (pa_cons (pe_glob (v := .ref (cs 10)) (by rfl) J.m10 rfl) pa_nil))) (pa_cons (pe_callB call_isX (by rfl) mi (by decide +kernel) (pa_cons (pv 0) (pa_cons (pe_glob (v := .ref (cs 11)) (by rfl) J.m11 rfl) pa_nil))) pa_nil))))))
      (pss_cons (ps_set (i := 1) nd rfl (.inl rfl) (pe_op op_cat (pv 1) (pe_lst (pa_cons (pe_callB call_isX (by rfl) mi (by decide +kernel) (pa_cons (pv 0) (pa_cons (pe_glob (v := .ref (cs 12)) (by rfl) J.m12 rfl) pa_nil))) (pa_cons (pe_callB call_isX (by rfl) mi (by decide +kernel) (pa_cons (pv 0) (pa_cons (pe_glob (v := .ref (cs 13)) (by rfl) J.m13 rfl) pa_nil))) (pa_cons (pe_callB call_isX (by rfl) mi (by decide +kernel) (pa_cons (pv 0) (pa_cons (pe_glob (v := .ref (cs 14)) (by rfl) J.m14 rfl) pa_nil))) pa_nil))))))
      (pss_cons (ps_set (i := 1) nd rfl (.inl rfl) (pe_op op_cat (pv 1) (pe_lst (pa_cons (pe_callB call_isX (by rfl) mi (by decide +kernel) (pa_cons (pv 0) (pa_cons (pe_glob (v := .ref (cs 15)) (by rfl) J.m15 rfl) pa_nil))) (pa_cons (pe_callB call_isX (by rfl) mi (by decide +kernel) (pa_cons (pv 0) (pa_cons (pe_glob (v := .ref (cs 16)) (by rfl) J.m16 rfl) pa_nil))) (pa_cons (pe_callB call_isX (by rfl) mi (by decide +kernel) (pa_cons (pv 0) (pa_cons (pe_glob (v := .ref (cs 17)) (by rfl) J.m17 rfl) pa_nil))) pa_nil))))))
      (pss_cons (ps_set (i := 1) nd rfl (.inl rfl) (pe_op op_cat (pv 1) (pe_lst (pa_cons (pe_callB call_isX (by rfl) mi (by decide +kernel) (pa_cons (pv 0) (pa_cons (pe_glob (v := .ref (cs 18)) (by rfl) J.m18 rfl) pa_nil))) (pa_cons (pe_callB call_isX (by rfl) mi (by decide +kernel) (pa_cons (pv 0) (pa_cons (pe_glob (v := .ref (cs 19)) (by rfl) J.m19 rfl) pa_nil))) (pa_cons (pe_callB call_isX (by rfl) mi (by decide +kernel) (pa_cons (pv 0) (pa_cons (pe_glob (v := .ref (cs 20)) (by rfl) J.m20 rfl) pa_nil))) pa_nil))))))
      (pss_cons (ps_set (i := 2) nd rfl (.inl rfl) (pe_lst (pa_cons (pe_callB call_isX (by rfl) mi (by decide +kernel) (pa_cons (pv 0) (pa_cons (pe_glob (v := .ref (bs 0)) (by rfl) J.b0 rfl) pa_nil))) (pa_cons (pe_callB call_isX (by rfl) mi (by decide +kernel) (pa_cons (pv 0) (pa_cons (pe_glob (v := .ref (bs 1)) (by rfl) J.b1 rfl) pa_nil))) (pa_cons (pe_callB call_isX (by rfl) mi (by decide +kernel) (pa_cons (pv 0) (pa_cons (pe_glob (v := .ref (bs 2)) (by rfl) J.b2 rfl) pa_nil))) pa_nil)))))
      (pss_cons (ps_set (i := 3) nd rfl (.inl rfl) (pe_lst (pa_cons (pe_callB call_isX (by rfl) mi (by decide +kernel) (pa_cons (pv 0) (pa_cons (pe_bltn (v := .ty "ValueError") (by rfl) mV (by decide +kernel) rfl) pa_nil))) (pa_cons (pe_callB call_isX (by rfl) mi (by decide +kernel) (pa_cons (pv 0) (pa_cons (pe_bltn (v := .ty "LookupError") (by rfl) mL (by decide +kernel) rfl) pa_nil))) (pa_cons (pe_callB call_isX (by rfl) mi (by decide +kernel) (pa_cons (pv 0) (pa_cons (pe_bltn (v := .ty "ArithmeticError") (by rfl) mA (by decide +kernel) rfl) pa_nil))) pa_nil)))))
      (pss_cons (ps_if (PW.pt (pw_or (pt_cmpR op_ne (pe_bm PySem.F.plainAttrs_list PySem.F.slot_list_count PySem.F.type_list_count (mt_lcountD hu66) (pv 1) (pa_cons pe_bl pa_nil)) pe_int (nomark _)) (pw_or1 (pt_cmpR (op_neD hr.units) (pv 3) (pv 2) (nomark _))))) (pss_one (ps_ret (pe_op op_sub pe_int pe_int))) pss_nil)
      (pss_cons (ps_set (i := 4) nd rfl (.inl rfl) (pe_bm PySem.F.plainAttrs_list PySem.F.slot_list_index PySem.F.type_list_index mt_index (pv 1) (pa_cons pe_bl pa_nil)))
      (pss_one (ps_ret (pe_ifExp (pt_cmpR (op_eqD hr.units) (pv 2) (pe_lst (pa_cons (pe_cmpR op_lt (pv 4) pe_int (nomark _)) (pa_cons (pe_chain op_lt op_lt pe_int (pv 4) pe_int) (pa_cons (pe_cmpR op_gt (pv 4) pe_int (nomark _)) pa_nil)))) (nomark _)) (pv 4) (pe_op op_sub pe_int pe_int)))))))))))))), ?_⟩
    refine ⟨_, rfl, a, cs i, fs, .ref (cs 0), .ref (cs 0), _, rfl, ex, J.ec i hi, .own _, J.kit i hi 0 (by decide), ?_⟩
    refine ⟨_, rfl, a, cs i, fs, .ref (cs 1), .ref (cs 1), _, rfl, ex, J.ec i hi, .own _, J.kit i hi 1 (by decide), ?_⟩
    refine ⟨_, rfl, a, cs i, fs, .ref (cs 2), .ref (cs 2), _, rfl, ex, J.ec i hi, .own _, J.kit i hi 2 (by decide), ?_⟩
    refine ⟨by show 3 ≤ sizeLine; decide, fun A0 nA0 => ?_⟩
    have sA0 := same_new (o := .lst [.bl (decide (i = 0)), .bl (decide (i = 1)), .bl (decide (i = 2))]) nA0
    have ex := ex.same sA0
    have hF1 : upd H A0 (.lst [.bl (decide (i = 0)), .bl (decide (i = 1)), .bl (decide (i = 2))]) A0 = some (.lst ((List.range 3).map fun j => V.bl (decide (i = j)))) := upd_same
    have s1 := sA0
    generalize upd H A0 (.lst [.bl (decide (i = 0)), .bl (decide (i = 1)), .bl (decide (i = 2))]) = H1 at ex hF1 s1
    refine ⟨_, rfl, ?_⟩
    refine ⟨_, rfl, a, cs i, fs, .ref (cs 3), .ref (cs 3), _, rfl, ex, J.ec i hi, .own _, J.kit i hi 3 (by decide), ?_⟩
    refine ⟨_, rfl, a, cs i, fs, .ref (cs 4), .ref (cs 4), _, rfl, ex, J.ec i hi, .own _, J.kit i hi 4 (by decide), ?_⟩
    refine ⟨_, rfl, a, cs i, fs, .ref (cs 5), .ref (cs 5), _, rfl, ex, J.ec i hi, .own _, J.kit i hi 5 (by decide), ?_⟩
    refine ⟨by show 3 ≤ sizeLine; decide, fun A1 nA1 => ?_⟩
    have sA1 := same_new (o := .lst [.bl (decide (i = 3)), .bl (decide (i = 4)), .bl (decide (i = 5))]) nA1
    have ex := ex.same sA1
    refine ⟨A0, A1, _, _, rfl, rfl, sA1 _ _ hF1, upd_same, by rw [List.length_map, List.length_range, sizeLine_eq]; show _ + 3 ≤ _; omega, fun L2 nL2 => ?_⟩
    have sL2 := same_new (o := .lst ((List.range 3).map (fun j => V.bl (decide (i = j))) ++ [.bl (decide (i = 3)), .bl (decide (i = 4)), .bl (decide (i = 5))])) nL2
    have ex := ex.same sL2
    have hF2 : upd (upd H1 A1 (.lst [.bl (decide (i = 3)), .bl (decide (i = 4)), .bl (decide (i = 5))])) L2 (.lst ((List.range 3).map (fun j => V.bl (decide (i = j))) ++ [.bl (decide (i = 3)), .bl (decide (i = 4)), .bl (decide (i = 5))])) L2 = some (.lst ((List.range 6).map fun j => V.bl (decide (i = j)))) := upd_same
    have s2 := (s1.trans sA1).trans sL2
    generalize upd (upd H1 A1 (.lst [.bl (decide (i = 3)), .bl (decide (i = 4)), .bl (decide (i = 5))])) L2 (.lst ((List.range 3).map (fun j => V.bl (decide (i = j))) ++ [.bl (decide (i = 3)), .bl (decide (i = 4)), .bl (decide (i = 5))])) = H2 at ex hF2 s2
    refine ⟨_, rfl, ?_⟩
    refine ⟨_, rfl, a, cs i, fs, .ref (cs 6), .ref (cs 6), _, rfl, ex, J.ec i hi, .own _, J.kit i hi 6 (by decide), ?_⟩
    refine ⟨_, rfl, a, cs i, fs, .ref (cs 7), .ref (cs 7), _, rfl, ex, J.ec i hi, .own _, J.kit i hi 7 (by decide), ?_⟩
    refine ⟨_, rfl, a, cs i, fs, .ref (cs 8), .ref (cs 8), _, rfl, ex, J.ec i hi, .own _, J.kit i hi 8 (by decide), ?_⟩
    refine ⟨by show 3 ≤ sizeLine; decide, fun A2 nA2 => ?_⟩
    have sA2 := same_new (o := .lst [.bl (decide (i = 6)), .bl (decide (i = 7)), .bl (decide (i = 8))]) nA2
    have ex := ex.same sA2
    refine ⟨L2, A2, _, _, rfl, rfl, sA2 _ _ hF2, upd_same, by rw [List.length_map, List.length_range, sizeLine_eq]; show _ + 3 ≤ _; omega, fun L3 nL3 => ?_⟩
    have sL3 := same_new (o := .lst ((List.range 6).map (fun j => V.bl (decide (i = j))) ++ [.bl (decide (i = 6)), .bl (decide (i = 7)), .bl (decide (i = 8))])) nL3
    have ex := ex.same sL3
    have hF3 : upd (upd H2 A2 (.lst [.bl (decide (i = 6)), .bl (decide (i = 7)), .bl (decide (i = 8))])) L3 (.lst ((List.range 6).map (fun j => V.bl (decide (i = j))) ++ [.bl (decide (i = 6)), .bl (decide (i = 7)), .bl (decide (i = 8))])) L3 = some (.lst ((List.range 9).map fun j => V.bl (decide (i = j)))) := upd_same
    have s3 := (s2.trans sA2).trans sL3
    generalize upd (upd H2 A2 (.lst [.bl (decide (i = 6)), .bl (decide (i = 7)), .bl (decide (i = 8))])) L3 (.lst ((List.range 6).map (fun j => V.bl (decide (i = j))) ++ [.bl (decide (i = 6)), .bl (decide (i = 7)), .bl (decide (i = 8))])) = H3 at ex hF3 s3
    refine ⟨_, rfl, ?_⟩
    refine ⟨_, rfl, a, cs i, fs, .ref (cs 9), .ref (cs 9), _, rfl, ex, J.ec i hi, .own _, J.kit i hi 9 (by decide), ?_⟩
    refine ⟨_, rfl, a, cs i, fs, .ref (cs 10), .ref (cs 10), _, rfl, ex, J.ec i hi, .own _, J.kit i hi 10 (by decide), ?_⟩
    refine ⟨_, rfl, a, cs i, fs, .ref (cs 11), .ref (cs 11), _, rfl, ex, J.ec i hi, .own _, J.kit i hi 11 (by decide), ?_⟩
    refine ⟨by show 3 ≤ sizeLine; decide, fun A3 nA3 => ?_⟩
    have sA3 := same_new (o := .lst [.bl (decide (i = 9)), .bl (decide (i = 10)), .bl (decide (i = 11))]) nA3
    have ex := ex.same sA3
    refine ⟨L3, A3, _, _, rfl, rfl, sA3 _ _ hF3, upd_same, by rw [List.length_map, List.length_range, sizeLine_eq]; show _ + 3 ≤ _; omega, fun L4 nL4 => ?_⟩
    have sL4 := same_new (o := .lst ((List.range 9).map (fun j => V.bl (decide (i = j))) ++ [.bl (decide (i = 9)), .bl (decide (i = 10)), .bl (decide (i = 11))])) nL4
    have ex := ex.same sL4
    have hF4 : upd (upd H3 A3 (.lst [.bl (decide (i = 9)), .bl (decide (i = 10)), .bl (decide (i = 11))])) L4 (.lst ((List.range 9).map (fun j => V.bl (decide (i = j))) ++ [.bl (decide (i = 9)), .bl (decide (i = 10)), .bl (decide (i = 11))])) L4 = some (.lst ((List.range 12).map fun j => V.bl (decide (i = j)))) := upd_same
    have s4 := (s3.trans sA3).trans sL4
    generalize upd (upd H3 A3 (.lst [.bl (decide (i = 9)), .bl (decide (i = 10)), .bl (decide (i = 11))])) L4 (.lst ((List.range 9).map (fun j => V.bl (decide (i = j))) ++ [.bl (decide (i = 9)), .bl (decide (i = 10)), .bl (decide (i = 11))])) = H4 at ex hF4 s4
    refine ⟨_, rfl, ?_⟩
    refine ⟨_, rfl, a, cs i, fs, .ref (cs 12), .ref (cs 12), _, rfl, ex, J.ec i hi, .own _, J.kit i hi 12 (by decide), ?_⟩
    refine ⟨_, rfl, a, cs i, fs, .ref (cs 13), .ref (cs 13), _, rfl, ex, J.ec i hi, .own _, J.kit i hi 13 (by decide), ?_⟩
    refine ⟨_, rfl, a, cs i, fs, .ref (cs 14), .ref (cs 14), _, rfl, ex, J.ec i hi, .own _, J.kit i hi 14 (by decide), ?_⟩
    refine ⟨by show 3 ≤ sizeLine; decide, fun A4 nA4 => ?_⟩
    have sA4 := same_new (o := .lst [.bl (decide (i = 12)), .bl (decide (i = 13)), .bl (decide (i = 14))]) nA4
    have ex := ex.same sA4
    refine ⟨L4, A4, _, _, rfl, rfl, sA4 _ _ hF4, upd_same, by rw [List.length_map, List.length_range, sizeLine_eq]; show _ + 3 ≤ _; omega, fun L5 nL5 => ?_⟩
    have sL5 := same_new (o := .lst ((List.range 12).map (fun j => V.bl (decide (i = j))) ++ [.bl (decide (i = 12)), .bl (decide (i = 13)), .bl (decide (i = 14))])) nL5
    have ex := ex.same sL5
    have hF5 : upd (upd H4 A4 (.lst [.bl (decide (i = 12)), .bl (decide (i = 13)), .bl (decide (i = 14))])) L5 (.lst ((List.range 12).map (fun j => V.bl (decide (i = j))) ++ [.bl (decide (i = 12)), .bl (decide (i = 13)), .bl (decide (i = 14))])) L5 = some (.lst ((List.range 15).map fun j => V.bl (decide (i = j)))) := upd_same
    have s5 := (s4.trans sA4).trans sL5
    generalize upd (upd H4 A4 (.lst [.bl (decide (i = 12)), .bl (decide (i = 13)), .bl (decide (i = 14))])) L5 (.lst ((List.range 12).map (fun j => V.bl (decide (i = j))) ++ [.bl (decide (i = 12)), .bl (decide (i = 13)), .bl (decide (i = 14))])) = H5 at ex hF5 s5
    refine ⟨_, rfl, ?_⟩
    refine ⟨_, rfl, a, cs i, fs, .ref (cs 15), .ref (cs 15), _, rfl, ex, J.ec i hi, .own _, J.kit i hi 15 (by decide), ?_⟩
    refine ⟨_, rfl, a, cs i, fs, .ref (cs 16), .ref (cs 16), _, rfl, ex, J.ec i hi, .own _, J.kit i hi 16 (by decide), ?_⟩
    refine ⟨_, rfl, a, cs i, fs, .ref (cs 17), .ref (cs 17), _, rfl, ex, J.ec i hi, .own _, J.kit i hi 17 (by decide), ?_⟩
    refine ⟨by show 3 ≤ sizeLine; decide, fun A5 nA5 => ?_⟩
    have sA5 := same_new (o := .lst [.bl (decide (i = 15)), .bl (decide (i = 16)), .bl (decide (i = 17))]) nA5
    have ex := ex.same sA5
    refine ⟨L5, A5, _, _, rfl, rfl, sA5 _ _ hF5, upd_same, by rw [List.length_map, List.length_range, sizeLine_eq]; show _ + 3 ≤ _; omega, fun L6 nL6 => ?_⟩
    have sL6 := same_new (o := .lst ((List.range 15).map (fun j => V.bl (decide (i = j))) ++ [.bl (decide (i = 15)), .bl (decide (i = 16)), .bl (decide (i = 17))])) nL6
    have ex := ex.same sL6
    have hF6 : upd (upd H5 A5 (.lst [.bl (decide (i = 15)), .bl (decide (i = 16)), .bl (decide (i = 17))])) L6 (.lst ((List.range 15).map (fun j => V.bl (decide (i = j))) ++ [.bl (decide (i = 15)), .bl (decide (i = 16)), .bl (decide (i = 17))])) L6 = some (.lst ((List.range 18).map fun j => V.bl (decide (i = j)))) := upd_same
    have s6 := (s5.trans sA5).trans sL6
    generalize upd (upd H5 A5 (.lst [.bl (decide (i = 15)), .bl (decide (i = 16)), .bl (decide (i = 17))])) L6 (.lst ((List.range 15).map (fun j => V.bl (decide (i = j))) ++ [.bl (decide (i = 15)), .bl (decide (i = 16)), .bl (decide (i = 17))])) = H6 at ex hF6 s6
    refine ⟨_, rfl, ?_⟩
    refine ⟨_, rfl, a, cs i, fs, .ref (cs 18), .ref (cs 18), _, rfl, ex, J.ec i hi, .own _, J.kit i hi 18 (by decide), ?_⟩
    refine ⟨_, rfl, a, cs i, fs, .ref (cs 19), .ref (cs 19), _, rfl, ex, J.ec i hi, .own _, J.kit i hi 19 (by decide), ?_⟩
    refine ⟨_, rfl, a, cs i, fs, .ref (cs 20), .ref (cs 20), _, rfl, ex, J.ec i hi, .own _, J.kit i hi 20 (by decide), ?_⟩
    refine ⟨by show 3 ≤ sizeLine; decide, fun A6 nA6 => ?_⟩
    have sA6 := same_new (o := .lst [.bl (decide (i = 18)), .bl (decide (i = 19)), .bl (decide (i = 20))]) nA6
    have ex := ex.same sA6
    refine ⟨L6, A6, _, _, rfl, rfl, sA6 _ _ hF6, upd_same, by rw [List.length_map, List.length_range, sizeLine_eq]; show _ + 3 ≤ _; omega, fun L7 nL7 => ?_⟩
    have sL7 := same_new (o := .lst ((List.range 18).map (fun j => V.bl (decide (i = j))) ++ [.bl (decide (i = 18)), .bl (decide (i = 19)), .bl (decide (i = 20))])) nL7
    have ex := ex.same sL7
    have hF7 : upd (upd H6 A6 (.lst [.bl (decide (i = 18)), .bl (decide (i = 19)), .bl (decide (i = 20))])) L7 (.lst ((List.range 18).map (fun j => V.bl (decide (i = j))) ++ [.bl (decide (i = 18)), .bl (decide (i = 19)), .bl (decide (i = 20))])) L7 = some (.lst ((List.range 21).map fun j => V.bl (decide (i = j)))) := upd_same
    have s7 := (s6.trans sA6).trans sL7
    generalize upd (upd H6 A6 (.lst [.bl (decide (i = 18)), .bl (decide (i = 19)), .bl (decide (i = 20))])) L7 (.lst ((List.range 18).map (fun j => V.bl (decide (i = j))) ++ [.bl (decide (i = 18)), .bl (decide (i = 19)), .bl (decide (i = 20))])) = H7 at ex hF7 s7
    refine ⟨_, rfl, a, cs i, fs, .ref (bs 0), .ref (bs 0), _, rfl, ex, J.ec i hi, .own _, J.kit0 i hi, ?_⟩
    refine ⟨_, rfl, a, cs i, fs, .ref (bs 1), .ref (bs 1), _, rfl, ex, J.ec i hi, .own _, J.kit1 i hi, ?_⟩
    refine ⟨_, rfl, a, cs i, fs, .ref (bs 2), .ref (bs 2), _, rfl, ex, J.ec i hi, .own _, J.kit2 i hi, ?_⟩
    refine ⟨by show 3 ≤ sizeLine; decide, fun B nB => ?_⟩
    have sB := same_new (o := .lst [.bl (decide (i < 14)), .bl (decide (14 ≤ i ∧ i < 19)), .bl (decide (19 ≤ i))]) nB
    have ex := ex.same sB
    refine ⟨_, rfl, a, cs i, fs, .ty "ValueError", .type "ValueError", _, rfl, ex, J.ec i hi, .ty _, J.own0 i hi, ?_⟩
    refine ⟨_, rfl, a, cs i, fs, .ty "LookupError", .type "LookupError", _, rfl, ex, J.ec i hi, .ty _, J.own1 i hi, ?_⟩
    refine ⟨_, rfl, a, cs i, fs, .ty "ArithmeticError", .type "ArithmeticError", _, rfl, ex, J.ec i hi, .ty _, J.own2 i hi, ?_⟩
    refine ⟨by show 3 ≤ sizeLine; decide, fun O nO => ?_⟩
    have sO := same_new (o := .lst [.bl (decide (i < 14)), .bl (decide (14 ≤ i ∧ i < 19)), .bl (decide (19 ≤ i))]) nO
    have hF := sO _ _ (sB _ _ hF7)
    have hB : upd (upd H7 B (.lst [.bl (decide (i < 14)), .bl (decide (14 ≤ i ∧ i < 19)), .bl (decide (19 ≤ i))])) O (.lst [.bl (decide (i < 14)), .bl (decide (14 ≤ i ∧ i < 19)), .bl (decide (19 ≤ i))]) B = some (.lst [.bl (decide (i < 14)), .bl (decide (14 ≤ i ∧ i < 19)), .bl (decide (19 ≤ i))]) := sO _ _ upd_same
    have hO : upd (upd H7 B (.lst [.bl (decide (i < 14)), .bl (decide (14 ≤ i ∧ i < 19)), .bl (decide (19 ≤ i))])) O (.lst [.bl (decide (i < 14)), .bl (decide (14 ≤ i ∧ i < 19)), .bl (decide (19 ≤ i))]) O = some (.lst [.bl (decide (i < 14)), .bl (decide (14 ≤ i ∧ i < 19)), .bl (decide (19 ≤ i))]) := upd_same
    have s9 := (s7.trans sB).trans sO
    generalize upd (upd H7 B (.lst [.bl (decide (i < 14)), .bl (decide (14 ≤ i ∧ i < 19)), .bl (decide (19 ≤ i))])) O (.lst [.bl (decide (i < 14)), .bl (decide (14 ≤ i ∧ i < 19)), .bl (decide (19 ≤ i))]) = H9 at hF hB hO s9
    refine ⟨_, rfl, .inl ⟨rfl, _, SqL.of hF⟩, L7, _, (List.range 21).map fun j => PyData.bool (decide (i = j)), .bl true, .bool true, rfl, rfl, SqL.of hF, ?_, .bl true, kd_plain i hi, rfl, by decide, ?_⟩
    · have := dp_bls (K := K) (H := H9) ((List.range 21).map fun j => decide (i = j))
      rw [List.map_map, List.map_map] at this
      exact this
    rw [kd_count i hi]
    refine ⟨rfl, _, rfl, iteF ?_⟩
    refine ⟨_, rfl, _, rfl, .list [.bool (decide (i < 14)), .bool (decide (14 ≤ i ∧ i < 19)), .bool (decide (19 ≤ i))], .list [.bool (decide (i < 14)), .bool (decide (14 ≤ i ∧ i < 19)), .bool (decide (19 ≤ i))], .lst (SqL.of hO) (dp_bls [decide (i < 14), decide (14 ≤ i ∧ i < 19), decide (19 ≤ i)]), .lst (SqL.of hB) (dp_bls [decide (i < 14), decide (14 ≤ i ∧ i < 19), decide (19 ≤ i)]), kd_shape _ _ _, kd_shape _ _ _, _, rfl, ?_⟩
    rw [kd_eqv]
    refine iteF ?_
    refine ⟨_, rfl, .inl ⟨rfl, _, SqL.of hF⟩, L7, _, .bl true, i, .bl true, rfl, rfl, SqL.of hF, rfl, kd_flat i hi, kd_at i hi, rfl, fun m z hm hz => ?_, ?_⟩
    · rw [kd_before i hi m hm] at hz
      cases hz
      rfl
    have e1 : decide ((i : Int) < 14) = decide (i < 14) := by
      by_cases c : i < 14
      · rw [decide_eq_true c, decide_eq_true (by omega)]
      · rw [decide_eq_false c, decide_eq_false (by omega)]
    have e3 : decide ((18 : Int) < (i : Int)) = decide (19 ≤ i) := by
      by_cases c : 19 ≤ i
      · rw [decide_eq_true c, decide_eq_true (by omega)]
      · rw [decide_eq_false c, decide_eq_false (by omega)]
    refine ⟨_, rfl, _, rfl, _, _, rfl, rfl, ?_⟩
    refine ⟨_, rfl, _, _, rfl, rfl, decide ((13 : Int) < (i : Int)), rfl, ?_⟩
    cases c13 : decide ((13 : Int) < (i : Int)) with
    | true =>
      have h13 := of_decide_eq_true c13
      refine iteT ?_
      refine ⟨_, _, rfl, rfl, ?_⟩
      have e2 : decide ((i : Int) < 19) = decide (14 ≤ i ∧ i < 19) := by
        by_cases c : i < 19
        · rw [decide_eq_true (show 14 ≤ i ∧ i < 19 by omega), decide_eq_true (by omega)]
        · rw [decide_eq_false (show ¬(14 ≤ i ∧ i < 19) by omega), decide_eq_false (by omega)]
      refine ⟨_, rfl, _, _, rfl, rfl, ?_⟩
      dsimp only []
      rw [e1, e3, e2]
      refine ⟨by show 3 ≤ sizeLine; decide, fun Z nZ => ?_⟩
      have sZ := same_new (o := .lst [.bl (decide (i < 14)), .bl (decide (14 ≤ i ∧ i < 19)), .bl (decide (19 ≤ i))]) nZ
      refine ⟨.list [.bool (decide (i < 14)), .bool (decide (14 ≤ i ∧ i < 19)), .bool (decide (19 ≤ i))], .list [.bool (decide (i < 14)), .bool (decide (14 ≤ i ∧ i < 19)), .bool (decide (19 ≤ i))], .lst (SqL.of (sZ _ _ hB)) (dp_bls [decide (i < 14), decide (14 ≤ i ∧ i < 19), decide (19 ≤ i)]), .lst (SqL.of upd_same) (dp_bls [decide (i < 14), decide (14 ≤ i ∧ i < 19), decide (19 ≤ i)]), kd_shape _ _ _, kd_shape _ _ _, _, rfl, ?_⟩
      rw [kd_eqv]
      refine iteT ?_
      exact ⟨_, rfl, q _ (s9.trans sZ)⟩
    | false =>
      have h13 := of_decide_eq_false c13
      refine iteF ?_
      have e2 : false = decide (14 ≤ i ∧ i < 19) := (decide_eq_false (by omega)).symm
      refine ⟨_, rfl, _, _, rfl, rfl, ?_⟩
      dsimp only []
      rw [e1, e3, show V.bl false = V.bl (decide (14 ≤ i ∧ i < 19)) from congrArg V.bl e2]
      refine ⟨by show 3 ≤ sizeLine; decide, fun Z nZ => ?_⟩
      have sZ := same_new (o := .lst [.bl (decide (i < 14)), .bl (decide (14 ≤ i ∧ i < 19)), .bl (decide (19 ≤ i))]) nZ
      refine ⟨.list [.bool (decide (i < 14)), .bool (decide (14 ≤ i ∧ i < 19)), .bool (decide (19 ≤ i))], .list [.bool (decide (i < 14)), .bool (decide (14 ≤ i ∧ i < 19)), .bool (decide (19 ≤ i))], .lst (SqL.of (sZ _ _ hB)) (dp_bls [decide (i < 14), decide (14 ≤ i ∧ i < 19), decide (19 ≤ i)]), .lst (SqL.of upd_same) (dp_bls [decide (i < 14), decide (14 ≤ i ∧ i < 19), decide (19 ≤ i)]), kd_shape _ _ _, kd_shape _ _ _, _, rfl, ?_⟩
      rw [kd_eqv]
      refine iteT ?_
      exact ⟨_, rfl, q _ (s9.trans sZ)⟩
end
end KS
/-! try: body, except (A, B, C) as n: suite -/
namespace L2
open PySem PySem.Spec PyProof.Rows
theorem flying_push {B h : Heap} {l : List Env} {a : Addr} {Z : Obj → Prop} (f : HandSPX.FlyingZ B l a Z h) (o : Obj) : HandSPX.FlyingZ B l a Z (h.push o) := by
  obtain ⟨f1, f2, f3, oe, vs, T, oT, ts, he, hz, hd, h1, hnT, hTe, hT, hdT, h3⟩ := f
  exact ⟨fun b u e => Heap.get?_push_of_some _ (f1 b u e), f2, f3.of_keeps fun b u e _ => ⟨u, Heap.get?_push_of_some _ e, rfl⟩, oe, vs, T, oT, ts, Heap.get?_push_of_some _ he, hz, hd, h1, hnT, hTe, Heap.get?_push_of_some _ hT, hdT, h3⟩
/-- what the clause 'except (x1, x2, x3) as n' wishes of an exception of the body -/
def wAs3 (K : PySem.W.Frag) (c1 c2 c3 : Value) (i : Nat) (ts : Addr → Value → Option Addr → TS) (Wout : WX) (D : Ends) : WX := fun cls d σ H =>
  ∃ b, PySem.W.exmAny K cls [c1, c2, c3] = some b ∧ (b = true → ∀ a, H a = none → ts a cls d { nx := fun σ' H' => D.nx (σ'.set i none) H', rt := D.rt, bk := fun σ' H' => D.bk (σ'.set i none) H', ct := fun σ' H' => D.ct (σ'.set i none) H' } (σ.set i (some (.ref a))) H) ∧
    (b = false → Wout cls d σ H)
section
variable {X : Cx} {x1 x2 x3 n : Str} {c1 c2 c3 : Value} {i kk : Nat} {body suite : List Stmt} {b₀ : Stmt} {p1 p2 p3 tpos pos pos' : Pos} {tb : WX → TS} {ts : Addr → Value → Option Addr → TS} {Wout : WX}
theorem ps_try_as3 (hs : X.stack = X.env :: X.outer) (hf : X.env.frame = some X.env.locals) (hN : X.N.Nodup) (hi : X.N[i]? = some n) (hln : X.env.kindOf n = some .local) (hc1 : Names X x1 c1) (hc2 : Names X x2 c2) (hc3 : Names X x3 c3) (tk : Takes X Wout)
    (hb : ∀ (W : WX) (pn : List (Addr × Obj)) (xe : Value → Shared → Prop), Takes (X.tr pn xe) W → PassesOwn (model X.prog X.w) X.A X.env xe → PSs (X.tr pn xe) body (tb W))
    (hsu : ∀ (a : Addr) (oe : Obj) (cls : Value) (d : Option Addr) (pn : List (Addr × Obj)), Zc cls d oe → (∃ vs, oe.data = .fields vs) → PSs (X.suite a ((a, oe) :: pn)) (b₀ :: suite) (ts a cls d)) :
    PS X (.Try body [.ExceptHandler (some (.Tuple [.Name x1 p1, .Name x2 p2, .Name x3 p3] kk tpos)) (some n) (b₀ :: suite) pos'] [] [] pos) (fun D σ H => tb (wAs3 X.K c1 c2 c3 i ts Wout D) D σ H) := by
  refine ⟨fun pins s σ H D I h => ?_⟩
  have ok := I.ok
  have hfr : X.A.frames = some (X.env :: X.outer) := by rw [ok.frames, hs]
  have hloc : Loc X.env.scope n := .inl hln
  refine wpAny_Try_except ?_
  refine wpAny_mono ((hb (wAs3 X.K c1 c2 c3 i ts Wout D) (X.pn ++ pins) (fun e s₁ => wpAny (model X.prog X.w) X.A (noteFrame e X.env) (fun _ s₂ => wpAny (model X.prog X.w) X.A (setFlight e none) (fun _ s₃ =>
    wpAny (model X.prog X.w) X.A (handleBy e X.env [.ExceptHandler (some (.Tuple [.Name x1 p1, .Name x2 p2, .Name x3 p3] kk tpos)) (some n) (b₀ :: suite) pos']) (SP X pins D) X.xe s₃) X.xe s₂) X.xe s₁) (fun u s' xx => ?_) PassesOwn.looking).run [] s σ H D (I.toTry _) h) (fun f s1 hsp => ?_) (fun e s1 he => he)
  · -- the catch
    obtain ⟨a, B, sI, pins', σ', H', cls, d, rfl, J', nb, up, sky, na, os, ag, b, hb1, hyes, hno⟩ := xx
    have J : Inv X pins σ' H' sI := J'.ofTry ok
    have sky' : Sky B (X.env :: X.outer) a (Zc cls d) X.env.locals s'.heap := by rw [← hs]; exact sky
    show wpAny (model X.prog X.w) X.A (noteFrame (.ref a) X.env) _ _ _
    refine Sky.land Zc.steady hfr hf sky' fun h3 fl3 up3 => ?_
    have J3 : Inv X pins σ' H' { s' with heap := h3 } := J.landed nb fl3.1 (up.trans up3) os ag
    obtain ⟨oe3, vs3, he3, hz3, hd3⟩ := fl3.there
    have notFr : ∀ {h : Heap} {o : Obj} {vs : Array Value}, h.FunFrames B (X.env :: X.outer) → h.get? a = some o → o.data = .fields vs → a ∉ frs (X.env :: X.outer) := fun {h o vs} ff e dd hm => by
      obtain ⟨_, o', e', hnf⟩ := ff.mem hm
      rw [e] at e'; cases e'
      exact hnf _ dd
    have nfr := notFr fl3.2.2.1 he3 hd3
    have nL : a ≠ X.env.locals := fun z => nfr (List.mem_filterMap.mpr ⟨X.env, List.mem_cons_self, by rw [hf, z]⟩)
    have nF : a ∉ X.fs := fun hm => by
      obtain ⟨e, he, q⟩ := List.mem_filterMap.mp hm
      exact nfr (List.mem_filterMap.mpr ⟨e, List.mem_cons_of_mem _ he, q⟩)
    have S3 := J3.suite he3 hd3 na nL nF
    refine wpAny_handleBy_cons (codeAny_handlers_test ?_) (by intro q; cases q)
    have test : ∀ {x : Str} {c : Value} {np : Pos}, Names X x c → ∀ {Q : Value → Shared → Prop} {E : Value → Shared → Prop}, Q c { s' with heap := h3 } → wpAny (model X.prog X.w) (X.A.mark (some (.ref a))) (eval (.Name x np) X.env) Q E { s' with heap := h3 } := fun {x c np} hc {Q E} q => by
      obtain ⟨hg, hdbg, hm | ⟨hm, hv, hnn⟩⟩ := hc
      · exact ld_glob (X := X.suite a ((a, oe3) :: (X.pn ++ pins))) S3 hg hm q hdbg
      · exact ld_blt (X := X.suite a ((a, oe3) :: (X.pn ++ pins))) S3 hg hm hv q hnn hdbg
    refine Tuple_ (spliced_more (test hc1 (spliced_more (test hc2 (spliced_more (test hc3 (spliced_none ?_)))))))
    refine wpAny_newObj_type ?_ (by show 3 ≤ sizeLine; decide)
    have he5 : (h3.push { cls := .type "tuple", dict := none, data := .seq [c1, c2, c3].toArray }).get? a = some oe3 := Heap.get?_push_of_some _ he3
    have hp5 : (h3.push { cls := .type "tuple", dict := none, data := .seq [c1, c2, c3].toArray }).get? h3.objs.size = some { cls := .type "tuple", data := .seq [c1, c2, c3].toArray } := Heap.get?_push_size _ rfl
    have fl5 := flying_push fl3 { cls := .type "tuple", dict := none, data := .seq [c1, c2, c3].toArray }
    have up5 : h3.UpToSlots (h3.push { cls := .type "tuple", dict := none, data := .seq [c1, c2, c3].toArray }) := Heap.UpToSlots.of_keeps fun b o e => Heap.get?_push_of_some _ e
    have up03 := (up.trans up3).trans up5
    show wpAny _ _ (excMatches (.ref a) (.ref h3.objs.size)) _ _ { s' with heap := h3.push { cls := .type "tuple", dict := none, data := .seq [c1, c2, c3].toArray } }
    generalize h3.push { cls := .type "tuple", dict := none, data := .seq [c1, c2, c3].toArray } = h5 at he5 hp5 fl5 up03 ⊢
    have J5 : Inv X pins σ' H' { s' with heap := h5 } := J.landed nb fl5.1 up03 os ag
    have LT : PySem.W.Looks (model X.prog X.w) h5 (typeOf (.ref a)) cls := fun A Q E s k q => wpAny_typeOf_ref (k _ _ he5) (by rw [hz3.1]; exact q)
    have LM := PySem.W.exm_tup3 (M := model X.prog X.w) (J5.kIn) LT hp5 hb1
    refine LM.here ?_
    cases b with
    | true =>
      refine codeAny_handlers_suite_as ?_
      refine HandSPX.lands_againZ fl5 fun h4 fl4 up4 => ?_
      have J4 : Inv X pins σ' H' { s' with heap := h4 } := J.landed nb fl4.1 (up03.trans up4) os ag
      obtain ⟨oe4, vs4, he4, hz4, hd4⟩ := fl4.there
      have S4 := J4.suite he4 hd4 na nL nF
      refine store_ok (X := X.suite a ((a, oe4) :: (X.pn ++ pins))) (v := .ref a) S4 hN hi hloc rfl (fun s5 S5 => ?_) (.inr hln)
      refine wpAny_mono ((hsu a oe4 cls d (X.pn ++ pins) hz4 ⟨_, hd4⟩).run [] s5 _ H' _ S5 (hyes rfl a na)) (fun f s6 hsp => ?_) (fun _ _ z => False.elim z)
      have end_ : ∀ {σ6 : St} {H6 : Hp} {Q : Shared → Prop}, Inv (X.suite a ((a, oe4) :: (X.pn ++ pins))) [] σ6 H6 s6 → (∀ s7, Inv X pins (σ6.set i none) H6 s7 → Q s7) →
          wpAny (model X.prog X.w) X.A (do bindName X.env n .none; unbindBehindTheSuite X.env n pos') (fun _ s7 => Q s7) X.xe s6 := fun {σ6 H6 Q} S6 hq => gone_ok (S6.unsuite ok) hN hi hln hq
      cases f with
      | next =>
        obtain ⟨σ6, H6, S6, q6⟩ := hsp
        exact end_ S6 fun s7 J7 => ⟨_, _, J7, q6⟩
      | brk =>
        obtain ⟨σ6, H6, S6, q6⟩ := hsp
        exact end_ S6 fun s7 J7 => ⟨_, _, J7, q6⟩
      | cont =>
        obtain ⟨σ6, H6, S6, q6⟩ := hsp
        exact end_ S6 fun s7 J7 => ⟨_, _, J7, q6⟩
      | ret u =>
        obtain ⟨v6, σ6, H6, S6, r6, q6⟩ := hsp
        exact end_ S6 fun s7 J7 => ⟨_, _, _, J7, r6, q6⟩
    | false =>
      show wpAny _ X.A (handleBy (.ref a) X.env []) _ _ _
      refine wpAny_handleBy_nil ?_
      obtain ⟨k1, k2, k3, oe, vs, T, oT, ts', he, hz, hd, h1, hr⟩ := id fl5
      unfold PySem.passOn
      refine wpAny_bind (wpAny_field he hd h1 ?_)
      rw [if_neg (show ¬ ((Value.ref T == Value.none) = true) from by simp)]
      have fin : wpAny (model X.prog X.w) X.A (setFlight (.ref a) X.env.frame) (fun _ s4 => wpAny (model X.prog X.w) X.A (throw (.ref a) : Sem Flow) (SP X pins D) X.xe s4) X.xe { s' with heap := h5 } := by
        rw [hf]
        refine HandSPX.setFlight_upZ fl5 fun h4 hh4 up4 => wpAny_throw (tk _ _ ?_)
        exact ⟨a, B, sI, pins, σ', H', cls, d, rfl, J, nb, up03.trans up4, .inr (.inr (by rw [hs]; exact hh4)), na, os, ag, hno rfl⟩
      first
        | exact wpAny_bind (wpAny_pure (wpAny_bind fin))
        | exact wpAny_bind fin
  · cases f with
    | next =>
      obtain ⟨σ', H', J', q⟩ := hsp
      exact wpAny_execs_nil ⟨σ', H', J'.ofTry ok, q⟩
    | brk =>
      obtain ⟨σ', H', J', q⟩ := hsp
      exact ⟨σ', H', J'.ofTry ok, q⟩
    | cont =>
      obtain ⟨σ', H', J', q⟩ := hsp
      exact ⟨σ', H', J'.ofTry ok, q⟩
    | ret u =>
      obtain ⟨v, σ', H', J', r, q⟩ := hsp
      exact ⟨v, σ', H', J'.ofTry ok, r, q⟩
end
end L2
/-! a def that is called in an except suite with the exception that is handled -/
namespace KS
open PySem PySem.Spec PyProof.Rows L2
open L2H (RoomH PinOk cxH inv_startH)
abbrev SpX := Addr → Value → Option Addr → Sp
structure FnX (P : Program) (w : World) (K : PySem.W.Frag) (mg : Str → Option Value) (base : Heap) (k : Nat) (f : Addr) (fd : FuncData) (ps : List Str) (sp : SpX) : Prop where
  len : ∀ a c d vs H Q E, sp a c d vs H Q E → vs.length = ps.length
  run : ∀ (A : Around) (outer : List Env) (s : Shared) (H : Hp) (args : Args) (us : List Value) (vs : List V) (Q : VK) (E : XK) (a : Addr) (oe : Obj) (cls : Value) (d : Option Addr), RoomH k A → Zc cls d oe → (∃ vs, oe.data = .fields vs) → PinOk outer H s (a, oe) →
    Env0 P w K mg base A outer s H → BindsTo s fd args (ps.zip us) → Vals vs us → sp a cls d vs H Q E →
    codeAny (model P w) A (.call (.ref f) args) (CR CX0 outer P w H s Q E) s
theorem okX {P : Program} {w : World} {K : PySem.W.Frag} {mg : Str → Option Value} {base : Heap} {k : Nat} {f : Addr} {x qual : Str} {st : Stmt} {fd : FuncData} {N ps : List Str} {sp : SpX} (F : Fun K x qual st f fd) (S : FnScope N ps (defScope st))
    (len : ∀ a c d vs H Q E, sp a c d vs H Q E → vs.length = ps.length)
    (hbody : ∀ (cdv : Value) (A : Around) (outer : List Env) (s : Shared) (H : Hp) (vs : List V) (Q : VK) (E : XK) (a : Addr) (oe : Obj) (cls : Value) (d : Option Addr), RoomH k (A.deeper (envOfC qual (defScope st) s.heap.objs.size f cdv)) → Zc cls d oe → (∃ vs, oe.data = .fields vs) → sp a cls d vs H Q E →
      ∃ t, PSs (cxH CX0 P w K mg base N qual (defScope st) f cdv A outer s H E (a, oe)) (defBody st) t ∧ t { nx := fun _ H' => Q .non H', rt := Q } (L2.start N vs) H) :
    FnX P w K mg base (k + 1) f fd ps sp := by
  obtain ⟨oc, od, kV, doc, pm, an, cdv, ct, osl, rfl, lk, hcd⟩ := F.ex
  refine ⟨len, fun A outer s H args us vs Q E a oe cls d hr hz hfl hpin e0 hb r hsp => ?_⟩
  have hl := len _ _ _ _ _ _ _ hsp
  have KX : K.In s.heap := e0.mod.kin.keeps fun b o e => (e0.bs b o e).1
  have lim : s.heap.NoLimit := e0.mod.nolimit.keeps fun b o e => (e0.bs b o e).1
  have hkind : ∀ y ∈ ps.zip us, (defScope st).names.lookup y.1 = some .local ∨ ((defScope st).names.lookup y.1 = some .cell ∧ ((cellsFrom (s.heap.objs.size + 1) (defScope st).names []).lookup y.1).isSome = true) := fun ⟨n, v⟩ hy => by
    rcases S.par n (List.of_mem_zip hy).1 with q | q
    · exact .inl q
    · exact .inr ⟨q, PySem.W.cellsFrom_some _ _ _ (.inl q)⟩
  refine codeAny_call_function hr.depth (KX _ _ lk) rfl S.co S.gen rfl (PySem.W.codeRec_of KX hcd) (hb _ _ _ _ ?_)
  refine wpAny_newFunctionEnv_cells S.kind hkind fun env he s1 x => ?_
  subst he
  refine ⟨lim.keeps x.toInCall.keep, codeAny_func ?_⟩
  obtain ⟨t, ht, hq⟩ := hbody cdv A outer s H vs Q E a oe cls d (hr.deeper _) hz hfl hsp
  have I : Inv (cxH CX0 P w K mg base N qual (defScope st) f cdv A outer s H E (a, oe)) [] (L2.start N vs) H s1 := inv_startH S hpin e0 hl r x
  refine wpAny_mono (ht.run [] s1 (L2.start N vs) H _ I hq) (fun fl s' hs => ?_) fun e s' hs => hs
  have fin : ∀ {σ' : L2.St} {H' : Hp} {v : V} {u : Value}, Inv (cxH CX0 P w K mg base N qual (defScope st) f cdv A outer s H E (a, oe)) [] σ' H' s' → RelV v u → Q v H' → CE outer P w H s Q u s' :=
    fun {σ' H' v u} J rv q => ⟨v, H', J.os, J.bare, J.base, J.hok, rv, q⟩
  cases fl with
  | ret u =>
    obtain ⟨v, σ', H', J, rv, q⟩ := hs
    exact fin J rv q
  | next =>
    obtain ⟨σ', H', J, q⟩ := hs
    exact fin (v := V.non) (u := Value.none) J rfl q
  | brk =>
    obtain ⟨_, _, _, q⟩ := hs
    exact False.elim q
  | cont =>
    obtain ⟨_, _, _, q⟩ := hs
    exact False.elim q
section
variable {X : Cx} {k : Nat} {f a : Addr} {fd : FuncData} {ps : List Str} {sp : SpX} {x : Str} {q pos : Pos} {e : Expr} {es : List Expr} {t : TA} {cls : Value} {d : Option Addr} {oe : Obj} {pn : List (Addr × Obj)}
def tCallX (a : Addr) (cls : Value) (d : Option Addr) (sp : SpX) (t : TA) : TE := fun σ H Q => t σ H fun vs H2 => sp a cls d vs H2 Q E0
theorem pe_callX (F : FnX X.prog X.w X.K X.mg X.base k f fd ps sp) (hr : RoomH k X.A) (hz : Zc cls d oe) (hfl : ∃ vs, oe.data = .fields vs) (hg : Gl (X.suite a ((a, oe) :: pn)) x) (hm : X.mg x = some (.ref f)) (hk : PySem.W.keepIn X.K (.ref f) = true) (hb : Binds X.K fd ps [])
    (ha : PA (X.suite a ((a, oe) :: pn)) (e :: es) t) (hdb : (x == ("__debug__" : Str)) = false := by decide) (he : starEach (e :: es) X.env = (false, eval e X.env) :: starEach es X.env := by rfl) (hpl : (backTo pos (starEach es X.env)).any (·.1) = false := by rfl) :
    PE (X.suite a ((a, oe) :: pn)) (.Call (.Name x q) (e :: es) [] pos) (tCallX a cls d sp t) := by
  refine ⟨fun pins s σ H Q I h => ?_⟩
  refine wpAny_Call_Name_kw (ld_glob (X := X.suite a ((a, oe) :: pn)) I hg hm ?_ hdb)
  refine PySem.W.callWith_K (h₀ := X.base) I.ok.mod.kin hk (thn (ha.run pos pins s σ H _ I h) fun us s1 ⟨vs, H1, I1, r, q⟩ => ⟨I1.kIn, ?_⟩) he hpl
  have hl : us.length = ps.length := by rw [← r.length]; exact F.len _ _ _ _ _ _ _ q
  have b := hb s1 us I1.kIn (by rw [List.append_nil]; exact hl)
  rw [List.append_nil] at b
  have P1 := I1.pin (a, oe) (List.mem_append_left _ List.mem_cons_self)
  have hpin : PinOk X.stack H1 s1 (a, oe) := ⟨P1.1, P1.2.1, fun hm => (List.mem_cons.mp (I1.stkSub a hm)).elim P1.2.2.1 P1.2.2.2.1, P1.2.2.2.2⟩
  have hr' : RoomH k (X.suite a ((a, oe) :: pn)).A := ⟨hr.dp, hr.un⟩
  refine wpAny_call (codeAny_mono (F.run (X.suite a ((a, oe) :: pn)).A X.stack s1 H1 ⟨us, []⟩ us vs Q E0 a oe cls d hr' hz hfl hpin I1.env0 b r q) fun r s' hq => ?_)
  cases r with
  | error e => cases hq
  | ok fl =>
    cases fl with
    | ret u => exact I1.after hq
    | next => exact False.elim hq
    | brk => exact False.elim hq
    | cont => exact False.elim hq
end
/-! ### isinstance(e, c) there -/
def XdAt (H : Hp) (d : Option Addr) : Prop := ∀ dd, d = some dd → ∃ fs, H dd = some (.xd fs)
theorem XdAt.same {H H' : Hp} (s : Same H H') {d : Option Addr} (h : XdAt H d) : XdAt H' d := fun dd e => by
  obtain ⟨fs, q⟩ := h dd e
  exact ⟨fs, s _ _ q⟩
def rIsP (K : PySem.W.Frag) (D a : Addr) (d : Option Addr) : List V → Hp → VK → Prop := fun xs H Q => ∃ (c : V) (cv : Value) (b : Bool), xs = [.ref a, c] ∧ XdAt H d ∧ ClsV c cv ∧ PySem.W.kitOne K (.ref D) cv = some b ∧ Q (.bl b) H
theorem call_isP {X : Cx} {a D : Addr} {d : Option Addr} {oe : Obj} (hp : (a, oe) ∈ X.pn) (T : ExcC X.K D) (hz : Zc (.ref D) d oe) (hf : ∃ vs, oe.data = .fields vs) : CallR X (.builtin "isinstance") (rIsP X.K D a d) := by
  intro pins s σ H xs us Q I r h
  obtain ⟨c, cv, b, rfl, hx, hc, e, q⟩ := h
  obtain ⟨u1, u2, rfl, r1, r2⟩ := vals2 r
  cases (show u1 = Value.ref a from r1)
  have e2 := hc.eq r2
  subst e2
  obtain ⟨hget, _⟩ := I.pin (a, oe) (List.mem_append.mpr (.inl hp))
  obtain ⟨vs, hv⟩ := hf
  have J : ∃ od, PySem.W.InstAt s.heap a oe D od := by
    obtain ⟨oc, od, oda, osl⟩ := oe
    obtain ⟨h1, h2⟩ := hz
    dsimp only at h1 h2 hv
    subst h1 h2 hv
    cases od with
    | none => exact ⟨none, hget, rfl, rfl, trivial⟩
    | some dd =>
      obtain ⟨fs, hd⟩ := hx dd rfl
      obtain ⟨mA, hns, _⟩ := I.hok dd _ hd
      obtain ⟨od, hod, _⟩ := lookIn_ns hns
      exact ⟨some od, hget, rfl, rfl, hod⟩
  obtain ⟨od, J⟩ := J
  exact PySem.W.kia_one (PySem.W.kitx_excD T.hg T.hk T.hs T.hd T.ha T.hn T.ht T.hm) I.kIn J e (fun z => nomatch z) fun tk => ⟨.bl b, H, I.kept (t' := tk) fun _ _ z => z, rfl, q⟩
end KS
/-! try: body, except (A, B, C) as n: suite; the exception is known from then on, wherever it is kept -/
namespace KS
open PySem PySem.Spec PyProof.Rows L2
/-- an exception of the class C with its dict d, at a; its other fields are any -/
def exq (a C : Addr) (d : Option Addr) : HO := .ext fun h => ∃ (oe : Obj) (vs : Array Value), h.get? a = some oe ∧ Zc (.ref C) d oe ∧ oe.data = .fields vs
theorem exq_ok {P : Program} {w : World} {H : Hp} {h : Heap} {a C : Addr} {d : Option Addr} {oe : Obj} {vs : Array Value} (e : h.get? a = some oe) (z : Zc (.ref C) d oe) (hd : oe.data = .fields vs) : ObjOk P w H h a (exq a C d) :=
  ⟨⟨oe, vs, e, z, hd⟩, ⟨oe, e⟩, fun _ _ ⟨o, v, q, r⟩ k => ⟨o, v, k o q, r⟩⟩
theorem exq_at {P : Program} {w : World} {H : Hp} {h : Heap} {a C : Addr} {d : Option Addr} (hok : HOk P w H h) (e : H a = some (exq a C d)) : ∃ (oe : Obj) (vs : Array Value), h.get? a = some oe ∧ Zc (.ref C) d oe ∧ oe.data = .fields vs := by
  obtain ⟨z, _, _⟩ := hok a _ e
  exact z
section
variable {X : Cx} {pins : List (Addr × Obj)} {σ : L2.St} {H : Hp} {s : Shared}
/-- a pinned object becomes known -/
theorem inv_adopt {a C : Addr} {d : Option Addr} {oe : Obj} {vs : Array Value} (I : Inv X ((a, oe) :: pins) σ H s) (hz : Zc (.ref C) d oe) (hd : oe.data = .fields vs) (h0 : X.s_0.heap.get? a = none) (hpn : ∀ p ∈ X.pn ++ pins, p.1 ≠ a) : Inv X pins σ (upd H a (exq a C d)) s := by
  obtain ⟨ha, na, nL, nF, _⟩ := I.pin (a, oe) (List.mem_append_right _ List.mem_cons_self)
  have new : ObjOk X.prog X.w (upd H a (exq a C d)) s.heap a (exq a C d) := exq_ok ha hz hd
  have ne0 : ∀ {b : Addr} {o : Obj}, X.s_0.heap.get? b = some o → b ≠ a := fun {b o} e z => by rw [z, h0] at e; cases e
  refine ⟨I.ok, I.os, I.bare, ⟨I.base.keep, I.base.slot, fun b o e n hx => ?_, I.base.there, fun b xs e => ?_, fun b o u e => ?_, fun b ps e => ?_⟩, I.loc, I.cell, ?_, fun x c e => ?_, fun p hp => ?_, ?_, I.len⟩
  · rw [upd_ne (ne0 e)]
    exact I.base.free b o e n hx
  · have := I.base.tups b xs e
    rw [upd_ne (ne_of_none this na)]
    exact this
  · have := I.base.frzs b o u e
    rw [upd_ne (ne_of_none this na)]
    exact this
  · obtain ⟨more, this⟩ := I.base.tbls b ps e
    exact ⟨more, by rw [upd_ne (ne_of_none this na)]; exact this⟩
  · rw [upd_ne (Ne.symm nL)]
    exact I.free
  · have hc : c ≠ a := fun z => by
      obtain ⟨v, o, ho, hv⟩ := I.cell x c e
      rw [z, ha] at ho
      cases ho
      rw [hd] at hv
      cases hv
    rw [upd_ne hc]
    exact I.freeC x c e
  · have hp' : p ∈ X.pn ++ (a, oe) :: pins := by
      rcases List.mem_append.mp hp with q | q
      · exact List.mem_append_left _ q
      · exact List.mem_append_right _ (List.mem_cons_of_mem _ q)
    obtain ⟨q1, q2, q3⟩ := I.pin p hp'
    exact ⟨q1, by rw [upd_ne (hpn p hp)]; exact q2, q3⟩
  · exact HOk.laidN I.hok (fun b u e => e) na new
theorem unsuiteP {a : Addr} {q : Addr × Obj} {pn' : List (Addr × Obj)} (I : Inv (X.suite a (q :: (X.pn ++ pins))) pn' σ H s) (ok : X.Ok) : Inv X (q :: pins) σ H s :=
  ⟨ok, I.os, I.bare, I.base, I.loc, I.cell, I.free, I.freeC, fun p hp => I.pin p (List.mem_append_left _ (by
    rcases List.mem_append.mp hp with z | z
    · exact List.mem_cons_of_mem _ (List.mem_append_left _ z)
    · rcases List.mem_cons.mp z with z | z
      · rw [z]; exact List.mem_cons_self
      · exact List.mem_cons_of_mem _ (List.mem_append_right _ z))), I.hok, I.len⟩
end
/-- what the clause 'except (x1, x2, x3) as n' wishes of an exception of the body that is kept behind the suite -/
def wKp3 (K : PySem.W.Frag) (c1 c2 c3 : Value) (i : Nat) (ts : Addr → Value → Option Addr → TS) (Wout : WX) (D : Ends) : WX := fun cls d σ H =>
  ∃ b, PySem.W.exmAny K cls [c1, c2, c3] = some b ∧ (b = true → ∃ C, cls = .ref C ∧ ∀ a, H a = none → ts a cls d { nx := fun σ' H' => D.nx (σ'.set i none) (upd H' a (exq a C d)), rt := fun _ _ => False, bk := fun _ _ => False, ct := fun _ _ => False } (σ.set i (some (.ref a))) H) ∧
    (b = false → Wout cls d σ H)
section
variable {X : Cx} {x1 x2 x3 n : Str} {c1 c2 c3 : Value} {i kk : Nat} {body suite : List Stmt} {b₀ : Stmt} {p1 p2 p3 tpos pos pos' : Pos} {tb : WX → TS} {ts : Addr → Value → Option Addr → TS} {Wout : WX}
theorem ps_try_kp3 (hx0 : X.ex = []) (hs : X.stack = X.env :: X.outer) (hf : X.env.frame = some X.env.locals) (hN : X.N.Nodup) (hi : X.N[i]? = some n) (hln : X.env.kindOf n = some .local) (hc1 : Names X x1 c1) (hc2 : Names X x2 c2) (hc3 : Names X x3 c3) (tk : Takes X Wout)
    (hb : ∀ (W : WX) (pn : List (Addr × Obj)) (xe : Value → Shared → Prop), Takes (X.tr pn xe) W → PassesOwn (model X.prog X.w) X.A X.env xe → PSs (X.tr pn xe) body (tb W))
    (hsu : ∀ (a : Addr) (oe : Obj) (cls : Value) (d : Option Addr) (pn : List (Addr × Obj)), Zc cls d oe → (∃ vs, oe.data = .fields vs) → PSs (X.suite a ((a, oe) :: pn)) (b₀ :: suite) (ts a cls d)) :
    PS X (.Try body [.ExceptHandler (some (.Tuple [.Name x1 p1, .Name x2 p2, .Name x3 p3] kk tpos)) (some n) (b₀ :: suite) pos'] [] [] pos) (fun D σ H => tb (wKp3 X.K c1 c2 c3 i ts Wout D) D σ H) := by
  refine ⟨fun pins s σ H D I h => ?_⟩
  have ok := I.ok
  have hfr : X.A.frames = some (X.env :: X.outer) := by rw [ok.frames, hs]
  have hloc : Loc X.env.scope n := .inl hln
  refine wpAny_Try_except ?_
  refine wpAny_mono ((hb (wKp3 X.K c1 c2 c3 i ts Wout D) (X.pn ++ pins) (fun e s₁ => wpAny (model X.prog X.w) X.A (noteFrame e X.env) (fun _ s₂ => wpAny (model X.prog X.w) X.A (setFlight e none) (fun _ s₃ =>
    wpAny (model X.prog X.w) X.A (handleBy e X.env [.ExceptHandler (some (.Tuple [.Name x1 p1, .Name x2 p2, .Name x3 p3] kk tpos)) (some n) (b₀ :: suite) pos']) (SP X pins D) X.xe s₃) X.xe s₂) X.xe s₁) (fun u s' xx => ?_) PassesOwn.looking).run [] s σ H D (I.toTry _) h) (fun f s1 hsp => ?_) (fun e s1 he => he)
  · -- the catch
    obtain ⟨a, B, sI, pins', σ', H', cls, d, rfl, J', nb, up, sky, na, os, ag, b, hb1, hyes, hno⟩ := xx
    have hB0 : B.get? a = none := by
      rcases sky with ⟨_, hn, _⟩ | fl | hh
      · exact hn
      · exact fl.2.1
      · exact hh.2.1
    have J : Inv X pins σ' H' sI := J'.ofTry ok
    have sky' : Sky B (X.env :: X.outer) a (Zc cls d) X.env.locals s'.heap := by rw [← hs]; exact sky
    show wpAny (model X.prog X.w) X.A (noteFrame (.ref a) X.env) _ _ _
    refine Sky.land Zc.steady hfr hf sky' fun h3 fl3 up3 => ?_
    have J3 : Inv X pins σ' H' { s' with heap := h3 } := J.landed nb fl3.1 (up.trans up3) os ag
    obtain ⟨oe3, vs3, he3, hz3, hd3⟩ := fl3.there
    have notFr : ∀ {h : Heap} {o : Obj} {vs : Array Value}, h.FunFrames B (X.env :: X.outer) → h.get? a = some o → o.data = .fields vs → a ∉ frs (X.env :: X.outer) := fun {h o vs} ff e dd hm => by
      obtain ⟨_, o', e', hnf⟩ := ff.mem hm
      rw [e] at e'; cases e'
      exact hnf _ dd
    have nfr := notFr fl3.2.2.1 he3 hd3
    have nL : a ≠ X.env.locals := fun z => nfr (List.mem_filterMap.mpr ⟨X.env, List.mem_cons_self, by rw [hf, z]⟩)
    have nF : a ∉ X.fs := fun hm => by
      obtain ⟨e, he, q⟩ := List.mem_filterMap.mp hm
      exact nfr (List.mem_filterMap.mpr ⟨e, List.mem_cons_of_mem _ he, q⟩)
    have S3 := J3.suite he3 hd3 na nL nF
    refine wpAny_handleBy_cons (codeAny_handlers_test ?_) (by intro q; cases q)
    have test : ∀ {x : Str} {c : Value} {np : Pos}, Names X x c → ∀ {Q : Value → Shared → Prop} {E : Value → Shared → Prop}, Q c { s' with heap := h3 } → wpAny (model X.prog X.w) (X.A.mark (some (.ref a))) (eval (.Name x np) X.env) Q E { s' with heap := h3 } := fun {x c np} hc {Q E} q => by
      obtain ⟨hg, hdbg, hm | ⟨hm, hv, hnn⟩⟩ := hc
      · exact ld_glob (X := X.suite a ((a, oe3) :: (X.pn ++ pins))) S3 hg hm q hdbg
      · exact ld_blt (X := X.suite a ((a, oe3) :: (X.pn ++ pins))) S3 hg hm hv q hnn hdbg
    refine Tuple_ (spliced_more (test hc1 (spliced_more (test hc2 (spliced_more (test hc3 (spliced_none ?_)))))))
    refine wpAny_newObj_type ?_ (by show 3 ≤ sizeLine; decide)
    have he5 : (h3.push { cls := .type "tuple", dict := none, data := .seq [c1, c2, c3].toArray }).get? a = some oe3 := Heap.get?_push_of_some _ he3
    have hp5 : (h3.push { cls := .type "tuple", dict := none, data := .seq [c1, c2, c3].toArray }).get? h3.objs.size = some { cls := .type "tuple", data := .seq [c1, c2, c3].toArray } := Heap.get?_push_size _ rfl
    have fl5 := flying_push fl3 { cls := .type "tuple", dict := none, data := .seq [c1, c2, c3].toArray }
    have up5 : h3.UpToSlots (h3.push { cls := .type "tuple", dict := none, data := .seq [c1, c2, c3].toArray }) := Heap.UpToSlots.of_keeps fun b o e => Heap.get?_push_of_some _ e
    have up03 := (up.trans up3).trans up5
    show wpAny _ _ (excMatches (.ref a) (.ref h3.objs.size)) _ _ { s' with heap := h3.push { cls := .type "tuple", dict := none, data := .seq [c1, c2, c3].toArray } }
    generalize h3.push { cls := .type "tuple", dict := none, data := .seq [c1, c2, c3].toArray } = h5 at he5 hp5 fl5 up03 ⊢
    have J5 : Inv X pins σ' H' { s' with heap := h5 } := J.landed nb fl5.1 up03 os ag
    have LT : PySem.W.Looks (model X.prog X.w) h5 (typeOf (.ref a)) cls := fun A Q E s k q => wpAny_typeOf_ref (k _ _ he5) (by rw [hz3.1]; exact q)
    have LM := PySem.W.exm_tup3 (M := model X.prog X.w) (J5.kIn) LT hp5 hb1
    refine LM.here ?_
    cases b with
    | true =>
      refine codeAny_handlers_suite_as ?_
      refine HandSPX.lands_againZ fl5 fun h4 fl4 up4 => ?_
      have J4 : Inv X pins σ' H' { s' with heap := h4 } := J.landed nb fl4.1 (up03.trans up4) os ag
      obtain ⟨oe4, vs4, he4, hz4, hd4⟩ := fl4.there
      have S4 := J4.suite he4 hd4 na nL nF
      refine store_ok (X := X.suite a ((a, oe4) :: (X.pn ++ pins))) (v := .ref a) S4 hN hi hloc rfl (fun s5 S5 => ?_) (.inr hln)
      obtain ⟨C, rfl, hyes⟩ := hyes rfl
      have nfrs : ∀ {b : Addr}, b ≠ X.env.locals → b ∉ X.fs → b ∉ frs X.stack := fun {b} n1 n2 hm => by
        rcases ok.stk with e | ⟨e, ef⟩
        · rw [e] at hm
          exact n2 hm
        · rw [e] at hm
          obtain ⟨v, hv, q⟩ := List.mem_filterMap.mp hm
          rcases List.mem_cons.mp hv with z | z
          · rw [z, ef] at q
            exact n1 (Option.some.inj q).symm
          · exact n2 (List.mem_filterMap.mpr ⟨v, z, q⟩)
      have h0 : X.s_0.heap.get? a = none := by
        cases e : X.s_0.heap.get? a with
        | none => rfl
        | some o =>
          exfalso
          by_cases hx : a ∈ X.ex
          · rw [hx0] at hx
            cases hx
          · obtain ⟨o', e'⟩ := J.base.there a o e hx
            have := nb a o' e' (nfrs nL nF)
            rw [hB0] at this
            cases this
      have hpn : ∀ p ∈ X.pn ++ pins, p.1 ≠ a := fun p hp z => by
        obtain ⟨q1, _, q3, q4, _⟩ := J.pin p hp
        have := nb p.1 p.2 q1 (nfrs q3 q4)
        rw [z, hB0] at this
        cases this
      refine wpAny_mono ((hsu a oe4 (.ref C) d (X.pn ++ pins) hz4 ⟨_, hd4⟩).run [] s5 _ H' _ S5 (hyes a na)) (fun f s6 hsp => ?_) (fun _ _ z => False.elim z)
      have end_ : ∀ {σ6 : L2.St} {H6 : Hp} {Q : Shared → Prop}, Inv (X.suite a ((a, oe4) :: (X.pn ++ pins))) [] σ6 H6 s6 → (∀ s7, Inv X pins (σ6.set i none) (upd H6 a (exq a C d)) s7 → Q s7) →
          wpAny (model X.prog X.w) X.A (do bindName X.env n .none; unbindBehindTheSuite X.env n pos') (fun _ s7 => Q s7) X.xe s6 := fun {σ6 H6 Q} S6 hq => gone_ok (unsuiteP S6 ok) hN hi hln fun s7 J7 => hq s7 (inv_adopt J7 hz4 hd4 h0 hpn)
      cases f with
      | next =>
        obtain ⟨σ6, H6, S6, q6⟩ := hsp
        exact end_ S6 fun s7 J7 => ⟨_, _, J7, q6⟩
      | brk =>
        obtain ⟨σ6, H6, S6, q6⟩ := hsp
        exact False.elim q6
      | cont =>
        obtain ⟨σ6, H6, S6, q6⟩ := hsp
        exact False.elim q6
      | ret u =>
        obtain ⟨v6, σ6, H6, S6, r6, q6⟩ := hsp
        exact False.elim q6
    | false =>
      show wpAny _ X.A (handleBy (.ref a) X.env []) _ _ _
      refine wpAny_handleBy_nil ?_
      obtain ⟨k1, k2, k3, oe, vs, T, oT, ts', he, hz, hd, h1, hr⟩ := id fl5
      unfold PySem.passOn
      refine wpAny_bind (wpAny_field he hd h1 ?_)
      rw [if_neg (show ¬ ((Value.ref T == Value.none) = true) from by simp)]
      have fin : wpAny (model X.prog X.w) X.A (setFlight (.ref a) X.env.frame) (fun _ s4 => wpAny (model X.prog X.w) X.A (throw (.ref a) : Sem Flow) (SP X pins D) X.xe s4) X.xe { s' with heap := h5 } := by
        rw [hf]
        refine HandSPX.setFlight_upZ fl5 fun h4 hh4 up4 => wpAny_throw (tk _ _ ?_)
        exact ⟨a, B, sI, pins, σ', H', cls, d, rfl, J, nb, up03.trans up4, .inr (.inr (by rw [hs]; exact hh4)), na, os, ag, hno rfl⟩
      first
        | exact wpAny_bind (wpAny_pure (wpAny_bind fin))
        | exact wpAny_bind fin
  · cases f with
    | next =>
      obtain ⟨σ', H', J', q⟩ := hsp
      exact wpAny_execs_nil ⟨σ', H', J'.ofTry ok, q⟩
    | brk =>
      obtain ⟨σ', H', J', q⟩ := hsp
      exact ⟨σ', H', J'.ofTry ok, q⟩
    | cont =>
      obtain ⟨σ', H', J', q⟩ := hsp
      exact ⟨σ', H', J'.ofTry ok, q⟩
    | ret u =>
      obtain ⟨v, σ', H', J', r, q⟩ := hsp
      exact ⟨v, σ', H', J'.ofTry ok, r, q⟩
end
end KS
/-! a caught exception that is kept: its class, its fields -/
namespace KS
open PySem PySem.Spec PyProof.Rows L2
structure ExQ (H : Hp) (a C : Addr) (d : Option Addr) : Prop where
  at_ : H a = some (exq a C d)
  xd : XdAt H d
theorem ExQ.same {H H' : Hp} (s : Same H H') {a C : Addr} {d : Option Addr} (h : ExQ H a C d) : ExQ H' a C d := ⟨s _ _ h.at_, h.xd.same s⟩
section
variable {X : Cx} {pins : List (Addr × Obj)} {σ : L2.St} {H : Hp} {s : Shared}
theorem ExQ.inst {a C : Addr} {d : Option Addr} (I : Inv X pins σ H s) (h : ExQ H a C d) : ∃ ox od, PySem.W.InstAt s.heap a ox C od := by
  obtain ⟨oe, vs, hget, hz, hv⟩ := exq_at I.hok h.at_
  obtain ⟨oc, od, oda, osl⟩ := oe
  obtain ⟨h1, h2⟩ := hz
  dsimp only at h1 h2 hv
  subst h1 h2 hv
  cases od with
  | none => exact ⟨_, none, hget, rfl, rfl, trivial⟩
  | some dd =>
    obtain ⟨fs, hd⟩ := h.xd dd rfl
    obtain ⟨mA, hns, _⟩ := I.hok dd _ hd
    obtain ⟨od, hod, _⟩ := lookIn_ns hns
    exact ⟨_, some od, hget, rfl, rfl, hod⟩
def rIsQ (K : PySem.W.Frag) : List V → Hp → VK → Prop := fun xs H Q => ∃ (a C : Addr) (d : Option Addr) (c : V) (cv : Value) (b : Bool), xs = [.ref a, c] ∧ ExQ H a C d ∧ ExcC K C ∧ ClsV c cv ∧ PySem.W.kitOne K (.ref C) cv = some b ∧ Q (.bl b) H
theorem call_isQ : CallR X (.builtin "isinstance") (rIsQ X.K) := by
  intro pins s σ H xs us Q I r h
  obtain ⟨a, C, d, c, cv, b, rfl, ex, T, hc, e, q⟩ := h
  obtain ⟨u1, u2, rfl, r1, r2⟩ := vals2 r
  cases (show u1 = Value.ref a from r1)
  have e2 := hc.eq r2
  subst e2
  obtain ⟨ox, od, J⟩ := ex.inst I
  exact PySem.W.kia_one (PySem.W.kitx_excD T.hg T.hk T.hs T.hd T.ha T.hn T.ht T.hm) I.kIn J e (fun z => nomatch z) fun tk => ⟨.bl b, H, I.kept (t' := tk) fun _ _ z => z, rfl, q⟩
/-- e.f -/
def tQf (K : PySem.W.Frag) (f : Str) (te : TE) : TE := fun σ H Q => te σ H fun x H1 => ∃ (a C dd : Addr) (fs : List (Str × V)) (v : V), x = .ref a ∧ H1 a = some (exq a C (some dd)) ∧ H1 dd = some (.xd fs) ∧ XfC K C ∧ PySem.W.findIn K (.ref C) f = some none ∧ fs.lookup f = some v ∧ Q v H1
theorem pe_qf {e : Expr} {te : TE} {pos : Pos} {n : Str} (he : PE X e te) (hb : attributeBase e n X.env (eval e X.env) = eval e X.env := by rfl) : PE X (.Attribute e n pos) (tQf X.K n te) := by
  refine ⟨fun pins s σ H Q I h => ?_⟩
  refine attr_of hb (thn (he.run pins s σ H _ I h) fun u s1 hh => ?_)
  obtain ⟨x, H1, I1, rx, a, C, dd, fs, v, ex, ea, ed, T, hno, l, q⟩ := hh
  subst ex
  obtain rfl : u = Value.ref a := rx
  obtain ⟨oe, vs, ho, hz, hv⟩ := exq_at I1.hok ea
  obtain ⟨mA, hns, hr⟩ := I1.hok dd _ ed
  obtain ⟨od, hod, hl⟩ := lookIn_ns hns
  obtain ⟨u, hu, ru⟩ := RelO.some_of (v := v) (o := mA n) (by rw [← l]; exact hr n)
  have J : PySem.W.InstAt s1.heap a oe C (some od) := ⟨ho, hz.1, by unfold PySem.W.notCls; rw [hv] <;> rfl, by rw [hz.2]; exact hod⟩
  exact HandSPX.exc_get I1.kIn J T.ga T.gg T.exC (PySem.W.findObj_own T.hdC hno rfl (by rw [hl, hu])) (handed_of ru) ⟨v, H1, I1.tok _, ru, q⟩
end
end KS
/-! the law's own kind of an error that was kept -/
namespace KS
open PySem PySem.Spec PyProof.Rows L2
def spLKindQ (cs : Nat → Addr) : Sp := fun vs H Q _ => ∃ (a : Addr) (i : Nat) (d : Option Addr), vs = [.ref a] ∧ i < 21 ∧ ExQ H a (cs i) d ∧ ∀ H', Same H H' → Q (.int (i : Nat)) H'
section
variable {P : Program} {w : World} {K : PySem.W.Frag} {mg : Str → Option Value} {base : Heap}
theorem ok_lkindQ {f : Addr} {fd : FuncData} {cs bs : Nat → Addr} {nm : Str} (F : Fun K nm nm sLKind f fd) (J : Kinds K mg cs bs) (mi : mg "isinstance" = none) (mV : mg "ValueError" = none) (mL : mg "LookupError" = none) (mA : mg "ArithmeticError" = none) :
    FnOk P w K mg base CX0 1 f fd ["_law_e"] (spLKindQ cs) := by
  refine F.ok scLKind (fun vs H Q E h => ?_) (fun cdv A outer s H vs Q E hr h => ?_)
  · obtain ⟨a, i, d, rfl, _⟩ := h
    rfl
  · obtain ⟨a, i, d, rfl, hi, ex, q⟩ := h
    have nd := scLKind.nd
    have hu66 : (A.deeper (envOfC nm (defScope sLKind) s.heap.objs.size f cdv)).units + 65 < cLine := by
      have := hr.un
      omega
    refine ⟨_, pss_cons (ps_set (i := 1) nd rfl (.inl rfl) (pe_lst (pa_cons (pe_callB call_isQ (by rfl) mi (by decide +kernel) (pa_cons (pv 0) (pa_cons (pe_glob (v := .ref (cs 0)) (by rfl) J.m0 rfl) pa_nil))) (pa_cons (pe_callB call_isQ (by rfl) mi (by decide +kernel) (pa_cons (pv 0) (pa_cons (pe_glob (v := .ref (cs 1)) (by rfl) J.m1 rfl) pa_nil))) (pa_cons (pe_callB call_isQ (by rfl) mi (by decide +kernel) (pa_cons (pv 0) (pa_cons (pe_glob (v := .ref (cs 2)) (by rfl) J.m2 rfl) pa_nil))) pa_nil)))))
      (pss_cons (ps_set (i := 1) nd rfl (.inl rfl) (pe_op op_cat (pv 1) (pe_lst (pa_cons (pe_callB call_isQ (by rfl) mi (by decide +kernel) (pa_cons (pv 0) (pa_cons (pe_glob (v := .ref (cs 3)) (by rfl) J.m3 rfl) pa_nil))) (pa_cons (pe_callB call_isQ (by rfl) mi (by decide +kernel) (pa_cons (pv 0) (pa_cons (pe_glob (v := .ref (cs 4)) (by rfl) J.m4 rfl) pa_nil))) (pa_cons (pe_callB call_isQ (by rfl) mi (by decide +kernel) (pa_cons (pv 0) (pa_cons (pe_glob (v := .ref (cs 5)) (by rfl) J.m5 rfl) pa_nil))) pa_nil))))))
      (pss_cons (ps_set (i := 1) nd rfl (.inl rfl) (pe_op op_cat (pv 1) (pe_lst (pa_cons (pe_callB call_isQ (by rfl) mi (by decide +kernel) (pa_cons (pv 0) (pa_cons (pe_glob (v := .ref (cs 6)) (by rfl) J.m6 rfl) pa_nil))) (pa_cons (pe_callB call_isQ (by rfl) mi (by decide +kernel) (pa_cons (pv 0) (pa_cons (pe_glob (v := .ref (cs 7)) (by rfl) J.m7 rfl) pa_nil))) (pa_cons (pe_callB call_isQ (by rfl) mi (by decide +kernel) (pa_cons (pv 0) (pa_cons (pe_glob (v := .ref (cs 8)) (by rfl) J.m8 rfl) pa_nil))) pa_nil))))))
      (pss_cons (ps_set (i := 1) nd rfl (.inl rfl) (pe_op op_cat (pv 1) (pe_lst (pa_cons (pe_callB call_isQ (by rfl) mi (by decide +kernel) (pa_cons (pv 0) (pa_cons (pe_glob (v := .ref (cs 9)) (by rfl) J.m9 rfl) pa_nil))) (pa_cons (pe_callB call_isQ (by rfl) mi (by decide +kernel) (pa_cons (pv 0) (pa_cons (pe_glob (v := .ref (cs 10)) (by rfl) J.m10 rfl) pa_nil))) (pa_cons (pe_callB call_isQ (by rfl) mi (by decide +kernel) (pa_cons (pv 0) (pa_cons (pe_glob (v := .ref (cs 11)) (by rfl) J.m11 rfl) pa_nil))) pa_nil))))))
      (pss_cons (ps_set (i := 1) nd rfl (.inl rfl) (pe_op op_cat (pv 1) (pe_lst (pa_cons (pe_callB call_isQ (by rfl) mi (by decide +kernel) (pa_cons (pv 0) (pa_cons (pe_glob (v := .ref (cs 12)) (by rfl) J.m12 rfl) pa_nil))) (pa_cons (pe_callB call_isQ (by rfl) mi (by decide +kernel) (pa_cons (pv 0) (pa_cons (pe_glob (v := .ref (cs 13)) (by rfl) J.m13 rfl) pa_nil))) (pa_cons (pe_callB call_isQ (by rfl) mi (by decide +kernel) (pa_cons (pv 0) (pa_cons (pe_glob (v := .ref (cs 14)) (by rfl) J.m14 rfl) pa_nil))) pa_nil))))))
      (pss_cons (ps_set (i := 1) nd rfl (.inl rfl) (pe_op op_cat (pv 1) (pe_lst (pa_cons (pe_callB call_isQ (by rfl) mi (by decide +kernel) (pa_cons (pv 0) (pa_cons (pe_glob (v := .ref (cs 15)) (by rfl) J.m15 rfl) pa_nil))) (pa_cons (pe_callB call_isQ (by rfl) mi (by decide +kernel) (pa_cons (pv 0) (pa_cons (pe_glob (v := .ref (cs 16)) (by rfl) J.m16 rfl) pa_nil))) (pa_cons (pe_callB call_isQ (by rfl) mi (by decide +kernel) (pa_cons (pv 0) (pa_cons (pe_glob (v := .ref (cs 17)) (by rfl) J.m17 rfl) pa_nil))) pa_nil))))))
      (pss_cons (ps_set (i := 1) nd rfl (.inl rfl) (pe_op op_cat (pv 1) (pe_lst (pa_cons (pe_callB call_isQ (by rfl) mi (by decide +kernel) (pa_cons (pv 0) (pa_cons (pe_glob (v := .ref (cs 18)) (by rfl) J.m18 rfl) pa_nil))) (pa_cons (pe_callB call_isQ (by rfl) mi (by decide +kernel) (pa_cons (pv 0) (pa_cons (pe_glob (v := .ref (cs 19)) (by rfl) J.m19 rfl) pa_nil))) (pa_cons (pe_callB call_isQ (by rfl) mi (by decide +kernel) (pa_cons (pv 0) (pa_cons (pe_glob (v := .ref (cs 20)) (by rfl) J.m20 rfl) pa_nil))) pa_nil))))))
      (pss_cons (ps_set (i := 2) nd rfl (.inl rfl) (pe_lst (pa_cons (pe_callB call_isQ (by rfl) mi (by decide +kernel) (pa_cons (pv 0) (pa_cons (pe_glob (v := .ref (bs 0)) (by rfl) J.b0 rfl) pa_nil))) (pa_cons (pe_callB call_isQ (by rfl) mi (by decide +kernel) (pa_cons (pv 0) (pa_cons (pe_glob (v := .ref (bs 1)) (by rfl) J.b1 rfl) pa_nil))) (pa_cons (pe_callB call_isQ (by rfl) mi (by decide +kernel) (pa_cons (pv 0) (pa_cons (pe_glob (v := .ref (bs 2)) (by rfl) J.b2 rfl) pa_nil))) pa_nil)))))
      (pss_cons (ps_set (i := 3) nd rfl (.inl rfl) (pe_lst (pa_cons (pe_callB call_isQ (by rfl) mi (by decide +kernel) (pa_cons (pv 0) (pa_cons (pe_bltn (v := .ty "ValueError") (by rfl) mV (by decide +kernel) rfl) pa_nil))) (pa_cons (pe_callB call_isQ (by rfl) mi (by decide +kernel) (pa_cons (pv 0) (pa_cons (pe_bltn (v := .ty "LookupError") (by rfl) mL (by decide +kernel) rfl) pa_nil))) (pa_cons (pe_callB call_isQ (by rfl) mi (by decide +kernel) (pa_cons (pv 0) (pa_cons (pe_bltn (v := .ty "ArithmeticError") (by rfl) mA (by decide +kernel) rfl) pa_nil))) pa_nil)))))
      (pss_cons (ps_if (PW.pt (pw_or (pt_cmpR op_ne (pe_bm PySem.F.plainAttrs_list PySem.F.slot_list_count PySem.F.type_list_count (mt_lcountD hu66) (pv 1) (pa_cons pe_bl pa_nil)) pe_int (nomark _)) (pw_or1 (pt_cmpR (op_neD hr.units) (pv 3) (pv 2) (nomark _))))) (pss_one (ps_ret (pe_op op_sub pe_int pe_int))) pss_nil)
      (pss_cons (ps_set (i := 4) nd rfl (.inl rfl) (pe_bm PySem.F.plainAttrs_list PySem.F.slot_list_index PySem.F.type_list_index mt_index (pv 1) (pa_cons pe_bl pa_nil)))
      (pss_one (ps_ret (pe_ifExp (pt_cmpR (op_eqD hr.units) (pv 2) (pe_lst (pa_cons (pe_cmpR op_lt (pv 4) pe_int (nomark _)) (pa_cons (pe_chain op_lt op_lt pe_int (pv 4) pe_int) (pa_cons (pe_cmpR op_gt (pv 4) pe_int (nomark _)) pa_nil)))) (nomark _)) (pv 4) (pe_op op_sub pe_int pe_int)))))))))))))), ?_⟩
    refine ⟨_, rfl, a, cs i, d, .ref (cs 0), .ref (cs 0), _, rfl, ex, J.ec i hi, .own _, J.kit i hi 0 (by decide), ?_⟩
    refine ⟨_, rfl, a, cs i, d, .ref (cs 1), .ref (cs 1), _, rfl, ex, J.ec i hi, .own _, J.kit i hi 1 (by decide), ?_⟩
    refine ⟨_, rfl, a, cs i, d, .ref (cs 2), .ref (cs 2), _, rfl, ex, J.ec i hi, .own _, J.kit i hi 2 (by decide), ?_⟩
    refine ⟨by show 3 ≤ sizeLine; decide, fun A0 nA0 => ?_⟩
    have sA0 := same_new (o := .lst [.bl (decide (i = 0)), .bl (decide (i = 1)), .bl (decide (i = 2))]) nA0
    have ex := ex.same sA0
    have hF1 : upd H A0 (.lst [.bl (decide (i = 0)), .bl (decide (i = 1)), .bl (decide (i = 2))]) A0 = some (.lst ((List.range 3).map fun j => V.bl (decide (i = j)))) := upd_same
    have s1 := sA0
    generalize upd H A0 (.lst [.bl (decide (i = 0)), .bl (decide (i = 1)), .bl (decide (i = 2))]) = H1 at ex hF1 s1
    refine ⟨_, rfl, ?_⟩
    refine ⟨_, rfl, a, cs i, d, .ref (cs 3), .ref (cs 3), _, rfl, ex, J.ec i hi, .own _, J.kit i hi 3 (by decide), ?_⟩
    refine ⟨_, rfl, a, cs i, d, .ref (cs 4), .ref (cs 4), _, rfl, ex, J.ec i hi, .own _, J.kit i hi 4 (by decide), ?_⟩
    refine ⟨_, rfl, a, cs i, d, .ref (cs 5), .ref (cs 5), _, rfl, ex, J.ec i hi, .own _, J.kit i hi 5 (by decide), ?_⟩
    refine ⟨by show 3 ≤ sizeLine; decide, fun A1 nA1 => ?_⟩
    have sA1 := same_new (o := .lst [.bl (decide (i = 3)), .bl (decide (i = 4)), .bl (decide (i = 5))]) nA1
    have ex := ex.same sA1
    refine ⟨A0, A1, _, _, rfl, rfl, sA1 _ _ hF1, upd_same, by rw [List.length_map, List.length_range, sizeLine_eq]; show _ + 3 ≤ _; omega, fun L2 nL2 => ?_⟩
    have sL2 := same_new (o := .lst ((List.range 3).map (fun j => V.bl (decide (i = j))) ++ [.bl (decide (i = 3)), .bl (decide (i = 4)), .bl (decide (i = 5))])) nL2
    have ex := ex.same sL2
    have hF2 : upd (upd H1 A1 (.lst [.bl (decide (i = 3)), .bl (decide (i = 4)), .bl (decide (i = 5))])) L2 (.lst ((List.range 3).map (fun j => V.bl (decide (i = j))) ++ [.bl (decide (i = 3)), .bl (decide (i = 4)), .bl (decide (i = 5))])) L2 = some (.lst ((List.range 6).map fun j => V.bl (decide (i = j)))) := upd_same
    have s2 := (s1.trans sA1).trans sL2
    generalize upd (upd H1 A1 (.lst [.bl (decide (i = 3)), .bl (decide (i = 4)), .bl (decide (i = 5))])) L2 (.lst ((List.range 3).map (fun j => V.bl (decide (i = j))) ++ [.bl (decide (i = 3)), .bl (decide (i = 4)), .bl (decide (i = 5))])) = H2 at ex hF2 s2
    refine ⟨_, rfl, ?_⟩
    refine ⟨_, rfl, a, cs i, d, .ref (cs 6), .ref (cs 6), _, rfl, ex, J.ec i hi, .own _, J.kit i hi 6 (by decide), ?_⟩
    refine ⟨_, rfl, a, cs i, d, .ref (cs 7), .ref (cs 7), _, rfl, ex, J.ec i hi, .own _, J.kit i hi 7 (by decide), ?_⟩
    refine ⟨_, rfl, a, cs i, d, .ref (cs 8), .ref (cs 8), _, rfl, ex, J.ec i hi, .own _, J.kit i hi 8 (by decide), ?_⟩
    refine ⟨by show 3 ≤ sizeLine; decide, fun A2 nA2 => ?_⟩
    have sA2 := same_new (o := .lst [.bl (decide (i = 6)), .bl (decide (i = 7)), .bl (decide (i = 8))]) nA2
    have ex := ex.same sA2
    refine ⟨L2, A2, _, _, rfl, rfl, sA2 _ _ hF2, upd_same, by rw [List.length_map, List.length_range, sizeLine_eq]; show _ + 3 ≤ _; omega, fun L3 nL3 => ?_⟩
    have sL3 := same_new (o := .lst ((List.range 6).map (fun j => V.bl (decide (i = j))) ++ [.bl (decide (i = 6)), .bl (decide (i = 7)), .bl (decide (i = 8))])) nL3
    have ex := ex.same sL3
    have hF3 : upd (upd H2 A2 (.lst [.bl (decide (i = 6)), .bl (decide (i = 7)), .bl (decide (i = 8))])) L3 (.lst ((List.range 6).map (fun j => V.bl (decide (i = j))) ++ [.bl (decide (i = 6)), .bl (decide (i = 7)), .bl (decide (i = 8))])) L3 = some (.lst ((List.range 9).map fun j => V.bl (decide (i = j)))) := upd_same
    have s3 := (s2.trans sA2).trans sL3
    generalize upd (upd H2 A2 (.lst [.bl (decide (i = 6)), .bl (decide (i = 7)), .bl (decide (i = 8))])) L3 (.lst ((List.range 6).map (fun j => V.bl (decide (i = j))) ++ [.bl (decide (i = 6)), .bl (decide (i = 7)), .bl (decide (i = 8))])) = H3 at ex hF3 s3
    refine ⟨_, rfl, ?_⟩
    refine ⟨_, rfl, a, cs i, d, .ref (cs 9), .ref (cs 9), _, rfl, ex, J.ec i hi, .own _, J.kit i hi 9 (by decide), ?_⟩
    refine ⟨_, rfl, a, cs i, d, .ref (cs 10), .ref (cs 10), _, rfl, ex, J.ec i hi, .own _, J.kit i hi 10 (by decide), ?_⟩
    refine ⟨_, rfl, a, cs i, d, .ref (cs 11), .ref (cs 11), _, rfl, ex, J.ec i hi, .own _, J.kit i hi 11 (by decide), ?_⟩
    refine ⟨by show 3 ≤ sizeLine; decide, fun A3 nA3 => ?_⟩
    have sA3 := same_new (o := .lst [.bl (decide (i = 9)), .bl (decide (i = 10)), .bl (decide (i = 11))]) nA3
    have ex := ex.same sA3
    refine ⟨L3, A3, _, _, rfl, rfl, sA3 _ _ hF3, upd_same, by rw [List.length_map, List.length_range, sizeLine_eq]; show _ + 3 ≤ _; omega, fun L4 nL4 => ?_⟩
    have sL4 := same_new (o := .lst ((List.range 9).map (fun j => V.bl (decide (i = j))) ++ [.bl (decide (i = 9)), .bl (decide (i = 10)), .bl (decide (i = 11))])) nL4
    have ex := ex.same sL4
    have hF4 : upd (upd H3 A3 (.lst [.bl (decide (i = 9)), .bl (decide (i = 10)), .bl (decide (i = 11))])) L4 (.lst ((List.range 9).map (fun j => V.bl (decide (i = j))) ++ [.bl (decide (i = 9)), .bl (decide (i = 10)), .bl (decide (i = 11))])) L4 = some (.lst ((List.range 12).map fun j => V.bl (decide (i = j)))) := upd_same
    have s4 := (s3.trans sA3).trans sL4
    generalize upd (upd H3 A3 (.lst [.bl (decide (i = 9)), .bl (decide (i = 10)), .bl (decide (i = 11))])) L4 (.lst ((List.range 9).map (fun j => V.bl (decide (i = j))) ++ [.bl (decide (i = 9)), .bl (decide (i = 10)), .bl (decide (i = 11))])) = H4 at ex hF4 s4
    refine ⟨_, rfl, ?_⟩
    refine ⟨_, rfl, a, cs i, d, .ref (cs 12), .ref (cs 12), _, rfl, ex, J.ec i hi, .own _, J.kit i hi 12 (by decide), ?_⟩
    refine ⟨_, rfl, a, cs i, d, .ref (cs 13), .ref (cs 13), _, rfl, ex, J.ec i hi, .own _, J.kit i hi 13 (by decide), ?_⟩
    refine ⟨_, rfl, a, cs i, d, .ref (cs 14), .ref (cs 14), _, rfl, ex, J.ec i hi, .own _, J.kit i hi 14 (by decide), ?_⟩
    refine ⟨by show 3 ≤ sizeLine; decide, fun A4 nA4 => ?_⟩
    have sA4 := same_new (o := .lst [.bl (decide (i = 12)), .bl (decide (i = 13)), .bl (decide (i = 14))]) nA4
    have ex := ex.same sA4
    refine ⟨L4, A4, _, _, rfl, rfl, sA4 _ _ hF4, upd_same, by rw [List.length_map, List.length_range, sizeLine_eq]; show _ + 3 ≤ _; omega, fun L5 nL5 => ?_⟩
    have sL5 := same_new (o := .lst ((List.range 12).map (fun j => V.bl (decide (i = j))) ++ [.bl (decide (i = 12)), .bl (decide (i = 13)), .bl (decide (i = 14))])) nL5
    have ex := ex.same sL5
    have hF5 : upd (upd H4 A4 (.lst [.bl (decide (i = 12)), .bl (decide (i = 13)), .bl (decide (i = 14))])) L5 (.lst ((List.range 12).map (fun j => V.bl (decide (i = j))) ++ [.bl (decide (i = 12)), .bl (decide (i = 13)), .bl (decide (i = 14))])) L5 = some (.lst ((List.range 15).map fun j => V.bl (decide (i = j)))) := upd_same
    have s5 := (s4.trans sA4).trans sL5
    generalize upd (upd H4 A4 (.lst [.bl (decide (i = 12)), .bl (decide (i = 13)), .bl (decide (i = 14))])) L5 (.lst ((List.range 12).map (fun j => V.bl (decide (i = j))) ++ [.bl (decide (i = 12)), .bl (decide (i = 13)), .bl (decide (i = 14))])) = H5 at ex hF5 s5
    refine ⟨_, rfl, ?_⟩
    refine ⟨_, rfl, a, cs i, d, .ref (cs 15), .ref (cs 15), _, rfl, ex, J.ec i hi, .own _, J.kit i hi 15 (by decide), ?_⟩
    refine ⟨_, rfl, a, cs i, d, .ref (cs 16), .ref (cs 16), _, rfl, ex, J.ec i hi, .own _, J.kit i hi 16 (by decide), ?_⟩
    refine ⟨_, rfl, a, cs i, d, .ref (cs 17), .ref (cs 17), _, rfl, ex, J.ec i hi, .own _, J.kit i hi 17 (by decide), ?_⟩
    refine ⟨by show 3 ≤ sizeLine; decide, fun A5 nA5 => ?_⟩
    have sA5 := same_new (o := .lst [.bl (decide (i = 15)), .bl (decide (i = 16)), .bl (decide (i = 17))]) nA5
    have ex := ex.same sA5
    refine ⟨L5, A5, _, _, rfl, rfl, sA5 _ _ hF5, upd_same, by rw [List.length_map, List.length_range, sizeLine_eq]; show _ + 3 ≤ _; omega, fun L6 nL6 => ?_⟩
    have sL6 := same_new (o := .lst ((List.range 15).map (fun j => V.bl (decide (i = j))) ++ [.bl (decide (i = 15)), .bl (decide (i = 16)), .bl (decide (i = 17))])) nL6
    have ex := ex.same sL6
    have hF6 : upd (upd H5 A5 (.lst [.bl (decide (i = 15)), .bl (decide (i = 16)), .bl (decide (i = 17))])) L6 (.lst ((List.range 15).map (fun j => V.bl (decide (i = j))) ++ [.bl (decide (i = 15)), .bl (decide (i = 16)), .bl (decide (i = 17))])) L6 = some (.lst ((List.range 18).map fun j => V.bl (decide (i = j)))) := upd_same
    have s6 := (s5.trans sA5).trans sL6
    generalize upd (upd H5 A5 (.lst [.bl (decide (i = 15)), .bl (decide (i = 16)), .bl (decide (i = 17))])) L6 (.lst ((List.range 15).map (fun j => V.bl (decide (i = j))) ++ [.bl (decide (i = 15)), .bl (decide (i = 16)), .bl (decide (i = 17))])) = H6 at ex hF6 s6
    refine ⟨_, rfl, ?_⟩
    refine ⟨_, rfl, a, cs i, d, .ref (cs 18), .ref (cs 18), _, rfl, ex, J.ec i hi, .own _, J.kit i hi 18 (by decide), ?_⟩
    refine ⟨_, rfl, a, cs i, d, .ref (cs 19), .ref (cs 19), _, rfl, ex, J.ec i hi, .own _, J.kit i hi 19 (by decide), ?_⟩
    refine ⟨_, rfl, a, cs i, d, .ref (cs 20), .ref (cs 20), _, rfl, ex, J.ec i hi, .own _, J.kit i hi 20 (by decide), ?_⟩
    refine ⟨by show 3 ≤ sizeLine; decide, fun A6 nA6 => ?_⟩
    have sA6 := same_new (o := .lst [.bl (decide (i = 18)), .bl (decide (i = 19)), .bl (decide (i = 20))]) nA6
    have ex := ex.same sA6
    refine ⟨L6, A6, _, _, rfl, rfl, sA6 _ _ hF6, upd_same, by rw [List.length_map, List.length_range, sizeLine_eq]; show _ + 3 ≤ _; omega, fun L7 nL7 => ?_⟩
    have sL7 := same_new (o := .lst ((List.range 18).map (fun j => V.bl (decide (i = j))) ++ [.bl (decide (i = 18)), .bl (decide (i = 19)), .bl (decide (i = 20))])) nL7
    have ex := ex.same sL7
    have hF7 : upd (upd H6 A6 (.lst [.bl (decide (i = 18)), .bl (decide (i = 19)), .bl (decide (i = 20))])) L7 (.lst ((List.range 18).map (fun j => V.bl (decide (i = j))) ++ [.bl (decide (i = 18)), .bl (decide (i = 19)), .bl (decide (i = 20))])) L7 = some (.lst ((List.range 21).map fun j => V.bl (decide (i = j)))) := upd_same
    have s7 := (s6.trans sA6).trans sL7
    generalize upd (upd H6 A6 (.lst [.bl (decide (i = 18)), .bl (decide (i = 19)), .bl (decide (i = 20))])) L7 (.lst ((List.range 18).map (fun j => V.bl (decide (i = j))) ++ [.bl (decide (i = 18)), .bl (decide (i = 19)), .bl (decide (i = 20))])) = H7 at ex hF7 s7
    refine ⟨_, rfl, a, cs i, d, .ref (bs 0), .ref (bs 0), _, rfl, ex, J.ec i hi, .own _, J.kit0 i hi, ?_⟩
    refine ⟨_, rfl, a, cs i, d, .ref (bs 1), .ref (bs 1), _, rfl, ex, J.ec i hi, .own _, J.kit1 i hi, ?_⟩
    refine ⟨_, rfl, a, cs i, d, .ref (bs 2), .ref (bs 2), _, rfl, ex, J.ec i hi, .own _, J.kit2 i hi, ?_⟩
    refine ⟨by show 3 ≤ sizeLine; decide, fun B nB => ?_⟩
    have sB := same_new (o := .lst [.bl (decide (i < 14)), .bl (decide (14 ≤ i ∧ i < 19)), .bl (decide (19 ≤ i))]) nB
    have ex := ex.same sB
    refine ⟨_, rfl, a, cs i, d, .ty "ValueError", .type "ValueError", _, rfl, ex, J.ec i hi, .ty _, J.own0 i hi, ?_⟩
    refine ⟨_, rfl, a, cs i, d, .ty "LookupError", .type "LookupError", _, rfl, ex, J.ec i hi, .ty _, J.own1 i hi, ?_⟩
    refine ⟨_, rfl, a, cs i, d, .ty "ArithmeticError", .type "ArithmeticError", _, rfl, ex, J.ec i hi, .ty _, J.own2 i hi, ?_⟩
    refine ⟨by show 3 ≤ sizeLine; decide, fun O nO => ?_⟩
    have sO := same_new (o := .lst [.bl (decide (i < 14)), .bl (decide (14 ≤ i ∧ i < 19)), .bl (decide (19 ≤ i))]) nO
    have hF := sO _ _ (sB _ _ hF7)
    have hB : upd (upd H7 B (.lst [.bl (decide (i < 14)), .bl (decide (14 ≤ i ∧ i < 19)), .bl (decide (19 ≤ i))])) O (.lst [.bl (decide (i < 14)), .bl (decide (14 ≤ i ∧ i < 19)), .bl (decide (19 ≤ i))]) B = some (.lst [.bl (decide (i < 14)), .bl (decide (14 ≤ i ∧ i < 19)), .bl (decide (19 ≤ i))]) := sO _ _ upd_same
    have hO : upd (upd H7 B (.lst [.bl (decide (i < 14)), .bl (decide (14 ≤ i ∧ i < 19)), .bl (decide (19 ≤ i))])) O (.lst [.bl (decide (i < 14)), .bl (decide (14 ≤ i ∧ i < 19)), .bl (decide (19 ≤ i))]) O = some (.lst [.bl (decide (i < 14)), .bl (decide (14 ≤ i ∧ i < 19)), .bl (decide (19 ≤ i))]) := upd_same
    have s9 := (s7.trans sB).trans sO
    generalize upd (upd H7 B (.lst [.bl (decide (i < 14)), .bl (decide (14 ≤ i ∧ i < 19)), .bl (decide (19 ≤ i))])) O (.lst [.bl (decide (i < 14)), .bl (decide (14 ≤ i ∧ i < 19)), .bl (decide (19 ≤ i))]) = H9 at hF hB hO s9
    refine ⟨_, rfl, .inl ⟨rfl, _, SqL.of hF⟩, L7, _, (List.range 21).map fun j => PyData.bool (decide (i = j)), .bl true, .bool true, rfl, rfl, SqL.of hF, ?_, .bl true, kd_plain i hi, rfl, by decide, ?_⟩
    · have := dp_bls (K := K) (H := H9) ((List.range 21).map fun j => decide (i = j))
      rw [List.map_map, List.map_map] at this
      exact this
    rw [kd_count i hi]
    refine ⟨rfl, _, rfl, iteF ?_⟩
    refine ⟨_, rfl, _, rfl, .list [.bool (decide (i < 14)), .bool (decide (14 ≤ i ∧ i < 19)), .bool (decide (19 ≤ i))], .list [.bool (decide (i < 14)), .bool (decide (14 ≤ i ∧ i < 19)), .bool (decide (19 ≤ i))], .lst (SqL.of hO) (dp_bls [decide (i < 14), decide (14 ≤ i ∧ i < 19), decide (19 ≤ i)]), .lst (SqL.of hB) (dp_bls [decide (i < 14), decide (14 ≤ i ∧ i < 19), decide (19 ≤ i)]), kd_shape _ _ _, kd_shape _ _ _, _, rfl, ?_⟩
    rw [kd_eqv]
    refine iteF ?_
    refine ⟨_, rfl, .inl ⟨rfl, _, SqL.of hF⟩, L7, _, .bl true, i, .bl true, rfl, rfl, SqL.of hF, rfl, kd_flat i hi, kd_at i hi, rfl, fun m z hm hz => ?_, ?_⟩
    · rw [kd_before i hi m hm] at hz
      cases hz
      rfl
    have e1 : decide ((i : Int) < 14) = decide (i < 14) := by
      by_cases c : i < 14
      · rw [decide_eq_true c, decide_eq_true (by omega)]
      · rw [decide_eq_false c, decide_eq_false (by omega)]
    have e3 : decide ((18 : Int) < (i : Int)) = decide (19 ≤ i) := by
      by_cases c : 19 ≤ i
      · rw [decide_eq_true c, decide_eq_true (by omega)]
      · rw [decide_eq_false c, decide_eq_false (by omega)]
    refine ⟨_, rfl, _, rfl, _, _, rfl, rfl, ?_⟩
    refine ⟨_, rfl, _, _, rfl, rfl, decide ((13 : Int) < (i : Int)), rfl, ?_⟩
    cases c13 : decide ((13 : Int) < (i : Int)) with
    | true =>
      have h13 := of_decide_eq_true c13
      refine iteT ?_
      refine ⟨_, _, rfl, rfl, ?_⟩
      have e2 : decide ((i : Int) < 19) = decide (14 ≤ i ∧ i < 19) := by
        by_cases c : i < 19
        · rw [decide_eq_true (show 14 ≤ i ∧ i < 19 by omega), decide_eq_true (by omega)]
        · rw [decide_eq_false (show ¬(14 ≤ i ∧ i < 19) by omega), decide_eq_false (by omega)]
      refine ⟨_, rfl, _, _, rfl, rfl, ?_⟩
      dsimp only []
      rw [e1, e3, e2]
      refine ⟨by show 3 ≤ sizeLine; decide, fun Z nZ => ?_⟩
      have sZ := same_new (o := .lst [.bl (decide (i < 14)), .bl (decide (14 ≤ i ∧ i < 19)), .bl (decide (19 ≤ i))]) nZ
      refine ⟨.list [.bool (decide (i < 14)), .bool (decide (14 ≤ i ∧ i < 19)), .bool (decide (19 ≤ i))], .list [.bool (decide (i < 14)), .bool (decide (14 ≤ i ∧ i < 19)), .bool (decide (19 ≤ i))], .lst (SqL.of (sZ _ _ hB)) (dp_bls [decide (i < 14), decide (14 ≤ i ∧ i < 19), decide (19 ≤ i)]), .lst (SqL.of upd_same) (dp_bls [decide (i < 14), decide (14 ≤ i ∧ i < 19), decide (19 ≤ i)]), kd_shape _ _ _, kd_shape _ _ _, _, rfl, ?_⟩
      rw [kd_eqv]
      refine iteT ?_
      exact ⟨_, rfl, q _ (s9.trans sZ)⟩
    | false =>
      have h13 := of_decide_eq_false c13
      refine iteF ?_
      have e2 : false = decide (14 ≤ i ∧ i < 19) := (decide_eq_false (by omega)).symm
      refine ⟨_, rfl, _, _, rfl, rfl, ?_⟩
      dsimp only []
      rw [e1, e3, show V.bl false = V.bl (decide (14 ≤ i ∧ i < 19)) from congrArg V.bl e2]
      refine ⟨by show 3 ≤ sizeLine; decide, fun Z nZ => ?_⟩
      have sZ := same_new (o := .lst [.bl (decide (i < 14)), .bl (decide (14 ≤ i ∧ i < 19)), .bl (decide (19 ≤ i))]) nZ
      refine ⟨.list [.bool (decide (i < 14)), .bool (decide (14 ≤ i ∧ i < 19)), .bool (decide (19 ≤ i))], .list [.bool (decide (i < 14)), .bool (decide (14 ≤ i ∧ i < 19)), .bool (decide (19 ≤ i))], .lst (SqL.of (sZ _ _ hB)) (dp_bls [decide (i < 14), decide (14 ≤ i ∧ i < 19), decide (19 ≤ i)]), .lst (SqL.of upd_same) (dp_bls [decide (i < 14), decide (14 ≤ i ∧ i < 19), decide (19 ≤ i)]), kd_shape _ _ _, kd_shape _ _ _, _, rfl, ?_⟩
      rw [kd_eqv]
      refine iteT ?_
      exact ⟨_, rfl, q _ (s9.trans sZ)⟩
end
end KS
namespace KS
open PySem PySem.Spec PyProof.Rows L2
/-! ### anything held against a text by != -/
theorem dct_ne_txt {prog : Program} {w : World} {A : Around} {E : Value → Shared → Prop} {s : Shared} {d : Addr} {z : Str} {u : Tok} {od : Option Addr} {es : Array DictEntry} {ep : Nat} {sl : Array (Option Value)} (ho : s.heap.get? d = some { cls := .type "dict", dict := od, data := .dict es ep, slots := sl }) (hu : A.units < cLine) {Q : Value → Shared → Prop} (h : Q (.bool true) s) :
    wpAny (model prog w) A (compareOp .NotEq (.ref d) (.str z u)) Q E s := by
  have hd : s.TypeIs (.ref d) "dict" := ⟨_, ho, rfl⟩
  refine SeqAt.rc_ne_decline_or (k := false) hd (typeIs_str s z u) (by decide) PySem.F.sub_str_dict PySem.F.slot_dict_ne PySem.F.slot_str_ne_refl (fun Q' hq => ?_) (fun Q' hq => ?_)
    (fun Q' hq => wpAny_of_eq (rfl : isSame (.ref d) (.str z u) = pure false) hq) (.inr hu) h
  · refine wpAny_call_entry PySem.F.slot_dict_ne hd PySem.F.entry_dict_ne ?_ (PySem.F.args_dict_ne_2 _ _)
    show wpAny _ _ (Builtin.Dict.dictSlotArgs "__ne__" ⟨[.ref d, .str z u], []⟩ >>= _) _ _ s
    refine wpAny_bind ?_
    unfold Builtin.Dict.dictSlotArgs
    refine wpAny_bind (wpAny_notOrdered_dict hd ?_)
    show wpAny _ _ (pure (Value.ref d, Value.str z u)) _ _ s
    refine wpAny_pure ?_
    refine wpAny_bind (wpAny_isInstance (T := "str") (typeIs_str s z u) PySem.F.sub_str_dict ?_)
    simp only [Bool.not_false, if_true]
    exact wpAny_bind (wpAny_rule (wpAny_pure ⟨_, rfl, hq⟩))
  · have hs : Meets (Builtin.«str.__ne__» ⟨[.str z u, .ref d], []⟩) (fun _ R s => s.heap.get? d = some { cls := .type "dict", dict := od, data := .dict es ep, slots := sl } ∧ R (.ok (.ret .notImplemented)) s) :=
      .of_wp fun prog w A R s h => by
        obtain ⟨hp, g, dd, tk, os⟩ := s
        obtain ⟨hl, h⟩ := h
        wp_walk using wpAny_load hl
        exact ⟨_, rfl, h⟩
    exact call_meets PySem.F.slot_str_ne_refl (typeIs_str s z u) PySem.F.entry_str_ne (PySem.F.args_str_ne_2 _ _) hs ⟨ho, hq⟩
def rNeA (K : PySem.W.Frag) : R2 := fun x y H Q => ∃ (t : String) (z : Str), y = .str z ∧ Oth K H x t ∧ Q (.bl (!decide (x = .str z))) H
theorem op_neA {X : Cx} (hu : X.A.units < cLine) : OpR X (compareOp .NotEq) (rNeA X.K) := by
  intro pins s σ H x y v u Q I rx ry h
  obtain ⟨t, z, rfl, ho, q⟩ := h
  have sc : ∀ {x : V}, scal x (.str z) = true → RelV x v → Q (.bl (!decide (x = .str z))) H → wpAny (model X.prog X.w) X.A (compareOp .NotEq v u) (EP X pins σ Q) X.xe s := fun {x} hs r q => op_ne pins s σ H x (.str z) v u Q I r ry ⟨hs, q⟩
  have rf : ∀ a : Addr, decide (V.ref a = V.str z) = false := fun a => decide_eq_false (fun e => by cases e)
  cases ho with
  | non => exact sc rfl rx q
  | bl b => exact sc rfl rx q
  | int i => exact sc rfl rx q
  | str w => exact sc rfl rx q
  | lst e =>
    rw [rf] at q
    obtain ⟨tk, rfl⟩ := ry
    cases rx
    obtain ⟨its, r, ⟨o, n, ho, hc, _, hd⟩, _⟩ := I.list (SqL.of e)
    exact SeqAt.RcNeAt.list_str z tk ⟨o, ho, hc, n, hd⟩ hu _ _ _ _ ⟨.bl true, H, I, rfl, q⟩
  | tup e =>
    rw [rf] at q
    obtain ⟨tk, rfl⟩ := ry
    cases rx
    obtain ⟨its, r, ⟨o, ho, hc, n, hd⟩, _⟩ := I.tuple e
    exact SeqAt.RcNeAt.tuple_str z tk ⟨o, ho, hc, n, hd⟩ hu _ _ _ _ ⟨.bl true, H, I, rfl, q⟩
  | dct e =>
    rw [rf] at q
    obtain ⟨tk, rfl⟩ := ry
    cases rx
    obtain ⟨_, _, _, _, ⟨cls, dd, data, sl⟩, _, _, e1, ex, dat, _⟩ := I.hok _ _ e
    have hc := ex.1
    simp only at hc dat
    subst hc dat
    exact dct_ne_txt e1 hu ⟨.bl true, H, I, rfl, q⟩
/-! ### the tuple without elements, times a number -/
theorem tup0_mul (l : Addr) (n : Nat) (dd : Option Addr) (sl : Array (Option Value)) (x : Int) (u : Tok) (c0 : (decide (x < -(2 ^ 63)) || decide (x ≥ 2 ^ 63)) = false) :
    Meets (Builtin.«tuple.__mul__» ⟨[.ref l, .int x u], []⟩) (fun _ R s => s.heap.get? l = some { cls := .type "tuple", dict := dd, data := .seq #[] n, slots := sl } ∧ R (.ok (.ret (Value.ref l))) s) :=
  .of_wp fun prog w A R s h => by
    obtain ⟨hp, g, d, tk, os⟩ := s
    obtain ⟨hl, h⟩ := h
    have f1 := AutoSeq1.idx_int
    wp_walk using wpAny_loadPart' hl
    repeat (first
      | (refine wpAny_ite_false (decide_eq_false (by rw [c0]; exact Bool.false_ne_true)) ?_; wp_walk using wpAny_loadPart' hl)
      | (refine wpAny_ite_true (by first | rfl | decide) ?_; wp_walk using wpAny_loadPart' hl))
    exact ⟨_, rfl, h⟩
def rRepA (K : PySem.W.Frag) : R2 := fun x y H Q => ∃ l k xs, x = .ref l ∧ y = .int k ∧ SqT K H l xs ∧ 2 ≤ k ∧ k ≤ 1000 ∧ xs.length ≤ 1000 ∧ (xs = [] → Q (.ref l) H) ∧ (xs ≠ [] → ∀ p, H p = none → Q (.ref p) (upd H p (.tup (List.replicate k.toNat xs).flatten)))
theorem op_repA {X : Cx} : OpR X (binaryOp .Mult) (rRepA X.K) := by
  intro pins s σ H x y v u Q I rx ry h
  obtain ⟨l, k, xs, rfl, rfl, hT, h1, h2, hz, q0, q1⟩ := h
  by_cases he : xs = []
  · subst he
    have q := q0 rfl
    cases rx
    obtain ⟨t, rfl⟩ := ry
    obtain ⟨its, r, ⟨⟨cls, dd, data, sl⟩, ho, hc, n, hd⟩, hs⟩ := I.tuple hT
    simp only at hc hd
    subst hc hd
    have e0 : its = [] := by
      have := r.length
      exact List.eq_nil_of_length_eq_zero this.symm
    subst e0
    have c0 : (decide (k < -(2 ^ 63)) || decide (k ≥ 2 ^ 63)) = false := by
      rw [decide_eq_false (by omega), decide_eq_false (by omega)] <;> rfl
    exact wpAny_binaryOp_repeat_ref (T := "tuple") (U := "int") (by decide) ⟨_, ho, rfl⟩ (fun s' => typeIs_int s' k t) noFill_tuple_mul F.fills_int_mul F.slot_int_rmul repeat_tuple F.slot_int_index.lookup
      (call_meets F.slot_int_rmul (typeIs_int s k t) F.entry_int_rmul (F.args_int_rmul_2 _ _) (int_rmul_tuple k t l #[] n dd sl)
        ⟨ho, rfl, ⟨_, ho, rfl⟩, call_meets F.slot_tuple_mul ⟨_, ho, rfl⟩ F.entry_tuple_mul (F.args_tuple_mul_2 _ _) (tup0_mul l n dd sl k t c0) ⟨ho, .ref l, H, I, rfl, q⟩⟩)
  · exact op_repT pins s σ H _ _ v u Q I rx ry ⟨l, k, xs, rfl, rfl, hT, he, h1, h2, hz, q1 he⟩
end KS
namespace KS
open PySem PySem.Spec PyProof.Rows L2
/-! ### repr of things -/
mutual
theorem dp_same {K : PySem.W.Frag} {H H' : Hp} (s : Same H H') : ∀ (d : PyData) (v : V), Dp K H v d → Dp K H' v d
  | .none, _, h => by cases h; exact .non
  | .bool b, _, h => by cases h; exact .bl b
  | .int i, _, h => by cases h; exact .int i
  | .str x, _, h => by cases h; exact .str x
  | .list ds, _, h => by
    cases h with
    | lst h1 h2 => exact .lst (s.seq h1) (dpAll_same s ds _ h2)
  | .tuple ds, _, h => by
    cases h with
    | tup h1 h2 => exact .tup (same_seqT s h1) (dpAll_same s ds _ h2)
  | .dict kvs, _, h => by cases h
theorem dpAll_same {K : PySem.W.Frag} {H H' : Hp} (s : Same H H') : ∀ (ds : List PyData) (vs : List V), DpAll K H vs ds → DpAll K H' vs ds
  | [], _, h => by cases h; exact .nil
  | d :: ds, _, h => by
    cases h with
    | cons h1 h2 => exact .cons (dp_same s d _ h1) (dpAll_same s ds _ h2)
end
inductive Rep (K : PySem.W.Frag) (H : Hp) : V → Str → Prop
  | non : Rep K H .non "None"
  | bl (b : Bool) : Rep K H (.bl b) (if b then "True" else "False")
  | int (i : Int) (h : i.natAbs.log2 < 1920) : Rep K H (.int i) (toString i)
  | str (y : Str) (h : (reprText y).length ≤ sizeLine) : Rep K H (.str y) (reprText y)
  | ref {a : Addr} {d : PyData} (h : Dp K H (.ref a) d) (h1 : d.showable = true) (h2 : d.hasDict = false) (h3 : d.shown.length ≤ sizeLine) (h4 : d.depth ≤ 64) : Rep K H (.ref a) d.shown
  | dict {a : Addr} (h : H a = some (.dT [])) : Rep K H (.ref a) (PyData.shown (.dict []))
theorem Rep.same {K : PySem.W.Frag} {H H' : Hp} (s : Same H H') {v : V} {x : Str} (h : Rep K H v x) : Rep K H' v x := by
  cases h with
  | non => exact .non
  | bl b => exact .bl b
  | int i h => exact .int i h
  | str y h => exact .str y h
  | ref h h1 h2 h3 h4 => exact .ref (dp_same s _ _ h) h1 h2 h3 h4
  | dict h => exact .dict (s _ _ h)
def rReprA (K : PySem.W.Frag) : List V → Hp → VK → Prop := fun xs H Q => ∃ v x, xs = [v] ∧ Rep K H v x ∧ Q (.str x) H
theorem call_reprA {X : Cx} (hgd : X.A.guards = some []) (hu : X.A.units + 100 < cLine) : CallR X (.builtin "repr") (rReprA X.K) := by
  intro pins s σ H xs us Q I r h
  obtain ⟨v, x, rfl, h, q⟩ := h
  cases h with
  | non =>
    cases r with
    | cons r rr =>
      cases rr
      cases r
      exact P.repr_of_none ⟨.str "None", H, I.tok _, ⟨_, rfl⟩, q⟩
  | bl b =>
    cases r with
    | cons r rr =>
      cases rr
      cases r
      exact P.repr_of_bool ⟨.str _, H, I.tok _, ⟨_, rfl⟩, q⟩
  | int i hz =>
    obtain ⟨u, rfl, t, rfl⟩ := vals1 r
    exact PySem.P.repr_of_int hz ⟨.str _, H, I.tok _, ⟨_, rfl⟩, q⟩
  | str y hz =>
    obtain ⟨u, rfl, t, rfl⟩ := vals1 r
    exact PySem.P.repr_of_str ⟨.str _, H, I.tok _, ⟨_, rfl⟩, q⟩ hz
  | ref h h1 h2 h3 h4 => exact call_reprD hgd hu pins s σ H _ us Q I r ⟨_, _, rfl, h, h1, h2, h3, h4, q⟩
  | @dict a h =>
    rw [Vals.ref1 r]
    obtain ⟨z0, hd, ys, rel, dd⟩ := dt_of I.hok h
    obtain ⟨o, es, ep, hq, c2, c3, c4, _⟩ := dd
    have l0 : es.size = 0 := by
      rw [size_of_entries c4, ← Paired.length rel]
      rfl
    have e0 : es = #[] := Array.size_eq_zero_iff.mp l0
    subst e0
    have rd : Reads s.heap (.ref a) (.dict []) [a] := by
      have z : Reads s.heap (.ref a) (.dict []) (a :: [] ++ []) := .dict hq c2.1 c3 .nil .nil
      exact z
    exact repr_of_reads' rd (by decide) (fun _ hm => by
      rw [List.mem_singleton] at hm
      rw [hm] at hd
      simp at hd) hgd (by show X.A.units + (1 + 1) < cLine; omega) (fun _ _ e => e) (fun h' u tk hk => ⟨.str _, H, I.kept hk, ⟨u, rfl⟩, q⟩) (by decide +kernel)
end KS
/-! the law's own: what was caught -/
namespace KS
open PySem PySem.Spec PyProof.Rows L2 LamX NdefX
abbrev sCaught : Stmt := topS 75
theorem scCaught : FnScope ["_law_act", "_law_caught_here", "_law_e", "_law_at"] ["_law_act"] (defScope sCaught) := ⟨rfl, rfl, rfl, by decide +kernel, rfl, by decide +kernel, by decide +kernel⟩
def fldQ (i : Nat) : Str := if i = 1 then "kind" else if i = 3 then "number" else "index"
/-- what the errors' classes tell -/
structure ClsQ (K : PySem.W.Frag) (cs bs : Nat → Addr) (i : Nat) : Prop where
  exm : PySem.W.exmAny K (.ref (cs i)) [.ref (bs 0), .ref (bs 1), .ref (bs 2)] = some true
  xf : XfC K (cs i)
  fi : PySem.W.findIn K (.ref (cs i)) (fldQ i) = some none
/-- an act: told, or an error of this kind with this in its field -/
def spCaught (P : Program) (w : World) (K : PySem.W.Frag) (mg : Str → Option Value) (base : Heap) (kk : Nat) (cs bs : Nat → Addr) : List (Str × Addr) → List Str → List (Option V) → Sp := fun cl fr ws vs H Q _ =>
  ∃ (g : Addr) (F : NF) (eb : Expr) (spl : List (Option V) → Sp), vs = [.ref g] ∧ F.cl = cl ∧ H g = some (LamO g F eb) ∧ H F.c = some (CodeO F.c F.qual) ∧ LOk P w K mg base (L2.CX P w) kk g F eb [] fr spl ∧
    (((∀ Q' E', (∀ u H1, Same H H1 → Q' u H1) → spl ws [] H Q' E') ∧ ∀ H' p, Same H H' → H' p = some (.tup [.str "told", .str ""]) → Q (.ref p) H') ∨
    ∃ (i : Nat) (ix : V) (x : Str), i < 5 ∧ ClsQ K cs bs i ∧ Rep K H ix x ∧ (∀ Q' E', (∀ H1 d, Same H H1 → H1 d = some (.xd [(fldQ i, ix)]) → E' (.ref (cs i)) (some d) H1) → spl ws [] H Q' E') ∧
      ∀ H' p, Same H H' → H' p = some (.tup [.int (i : Nat), .str x]) → Q (.ref p) H')
section
variable {P : Program} {w : World} {K : PySem.W.Frag} {mg : Str → Option Value} {base : Heap}
theorem ok_caught {f fK : Addr} {fd fdK : FuncData} {cs bs : Nat → Addr} {kk : Nat} (F : Fun K "_law_caught" "_law_caught" sCaught f fd) (J : Kinds K mg cs bs)
    (GK : FnOk P w K mg base CX0 1 fK fdK ["_law_e"] (spLKindQ cs)) (bK : Binds K fdK ["_law_e"] []) (gK : mg "_law_kind" = some (.ref fK)) (kK : PySem.W.keepIn K (.ref fK) = true)
    (mR : mg "repr" = none) : FnGC P w K mg base (kk + 2) f fd ["_law_act"] (spCaught P w K mg base kk cs bs) := by
  refine okGC F scCaught (fun cl fr ws vs H Q E h => ?_) (fun cl fr ws cdv A outer s H vs Q E hr hgd0 C h => ?_)
  · obtain ⟨g, F, eb, spl, rfl, _⟩ := h
    rfl
  · obtain ⟨g, Fl, eb, spl, rfl, rfl, hg, hc, Lk, hq⟩ := h
    have nd := scCaught.nd
    have hr1 : Room 1 _ := hr.mono (by omega)
    have hrk : Room kk _ := hr.mono (by omega)
    have hu : (A.deeper (envOfC "_law_caught" (defScope sCaught) s.heap.objs.size f cdv)).units + 100 < cLine := by
      have := hr.un
      omega
    refine ⟨_, pss_cons (ps_set (i := 1) nd rfl (.inl rfl) pe_non)
      (pss_cons (ps_try_kp3 (i := 2) (tb := fun W => tDrop (fun σ H Q => σ[0]? = some (some (.ref g)) ∧ H g = some (LamO g Fl eb) ∧ H Fl.c = some (CodeO Fl.c Fl.qual) ∧ spl ws [] H Q (WE W σ))) (ts := fun _ _ _ => tAsg (tVar 2) (gName 1)) (Wout := fun _ _ _ _ => False) rfl rfl rfl nd rfl rfl ⟨by rfl, by decide, .inl J.b0⟩ ⟨by rfl, by decide, .inl J.b1⟩ ⟨by rfl, by decide, .inl J.b2⟩ L2.takes0
        (fun W pn xe tk _ => pss_one (ps_expr (by exact (pe_callL0S (i := 0) Lk C rfl hrk (fun σ => passAt tk σ) rfl (.inl rfl)))))
        (fun a oe cls d pn _ _ => pss_one (by exact (ps_set (i := 1) nd rfl (.inl rfl) (pv 2)))))
      (pss_cons (ps_if (pt_cmpR op_isN (pv 1) pe_non (nomark _)) (pss_one (ps_ret (pe_tup (pa_cons pe_str (pa_cons pe_str pa_nil))))) pss_nil)
      (pss_cons (ps_set (i := 3) nd rfl (.inl rfl) (pe_call GK hr1 (by rfl) gK kK bK .nil pass0 (pa_cons (pv 1) pa_nil)))
      (pss_cons (ps_if (pt_cmpR op_in_seq (pv 3) (pe_tup (pa_cons pe_int (pa_cons pe_int (pa_cons pe_int pa_nil)))) (by with_unfolding_all rfl))
        (pss_one (ps_ret (pe_tup (pa_cons (pv 3) (pa_cons (pe_callB (call_reprA hgd0 hu) (by rfl) mR (by decide +kernel) (pa_cons (pe_qf (pv 1)) pa_nil)) pa_nil))))) pss_nil)
      (pss_cons (ps_if (pt_cmpR op_eq (pv 3) pe_int (nomark _))
        (pss_one (ps_ret (pe_tup (pa_cons (pv 3) (pa_cons (pe_callB (call_reprA hgd0 hu) (by rfl) mR (by decide +kernel) (pa_cons (pe_qf (pv 1)) pa_nil)) pa_nil))))) pss_nil)
      (pss_one (ps_ret (pe_tup (pa_cons (pv 3) (pa_cons (pe_ifExp (pt_cmpR op_eq (pv 3) pe_int (nomark _)) (pe_callB (call_reprA hgd0 hu) (by rfl) mR (by decide +kernel) (pa_cons (pe_qf (pv 1)) pa_nil)) pe_str) pa_nil)))))))))), ?_⟩
    rcases hq with ⟨hsp, q⟩ | ⟨i, ix, x, hi, hcls, hrep, hsp, q⟩
    · refine ⟨rfl, hg, hc, hsp _ _ fun u H1 s1 => ?_⟩
      refine ⟨_, rfl, rfl, true, rfl, ?_⟩
      exact ⟨(by show 2 ≤ sizeLine; decide), fun p np => q _ p (s1.trans (same_new np)) upd_same⟩
    · refine ⟨rfl, hg, hc, hsp _ _ fun H1 d s1 hd => ?_⟩
      refine ⟨true, hcls.exm, fun _ => ⟨cs i, rfl, fun a ha => ?_⟩, fun z => nomatch z⟩
      have sa := s1.trans (same_new (o := exq a (cs i) (some d)) ha)
      have ea : upd H1 a (exq a (cs i) (some d)) a = some (exq a (cs i) (some d)) := upd_same
      have ed : upd H1 a (exq a (cs i) (some d)) d = some (.xd [(fldQ i, ix)]) := by
        rw [upd_ne (ne_of_none hd ha)]
        exact hd
      refine ⟨_, rfl, ?_⟩
      have ex : ExQ (upd H1 a (exq a (cs i) (some d))) a (cs i) (some d) := ⟨ea, fun dd e => by cases e; exact ⟨_, ed⟩⟩
      refine ⟨_, rfl, rfl, false, rfl, ?_⟩
      refine ⟨_, rfl, a, i, some d, rfl, by omega, ex, fun H3 s3 => ?_⟩
      have s03 := sa.trans s3
      have rep3 := hrep.same s03
      have ea3 := s3 _ _ ea
      have ed3 := s3 _ _ ed
      refine ⟨_, rfl, (by show 3 ≤ sizeLine; decide), fun t nt => ?_⟩
      have st := same_new (o := .tup [.int 0, .int 2, .int 4]) nt
      have et : upd H3 t (.tup [.int 0, .int 2, .int 4]) t = some (.tup [.int 0, .int 2, .int 4]) := upd_same
      generalize upd H3 t (.tup [.int 0, .int 2, .int 4]) = H4 at st et ⊢
      have s04 := s03.trans st
      have cf := hcls.fi
      match i, hi with
      | 0, _ =>
        refine ⟨t, _, rfl, .inr (SqT.of et), rfl, rfl, true, rfl, ?_⟩
        refine ⟨_, rfl, _, rfl, a, _, d, _, ix, rfl, st _ _ ea3, st _ _ ed3, hcls.xf, cf, by rfl, ix, x, rfl, rep3.same st, (by show 2 ≤ sizeLine; decide), fun p np => q _ p (s04.trans (same_new np)) upd_same⟩
      | 1, _ =>
        refine ⟨t, _, rfl, .inr (SqT.of et), rfl, rfl, false, rfl, ?_⟩
        refine ⟨_, rfl, rfl, true, rfl, ?_⟩
        refine ⟨_, rfl, _, rfl, a, _, d, _, ix, rfl, st _ _ ea3, st _ _ ed3, hcls.xf, cf, by rfl, ix, x, rfl, rep3.same st, (by show 2 ≤ sizeLine; decide), fun p np => q _ p (s04.trans (same_new np)) upd_same⟩
      | 2, _ =>
        refine ⟨t, _, rfl, .inr (SqT.of et), rfl, rfl, true, rfl, ?_⟩
        refine ⟨_, rfl, _, rfl, a, _, d, _, ix, rfl, st _ _ ea3, st _ _ ed3, hcls.xf, cf, by rfl, ix, x, rfl, rep3.same st, (by show 2 ≤ sizeLine; decide), fun p np => q _ p (s04.trans (same_new np)) upd_same⟩
      | 3, _ =>
        refine ⟨t, _, rfl, .inr (SqT.of et), rfl, rfl, false, rfl, ?_⟩
        refine ⟨_, rfl, rfl, false, rfl, ?_⟩
        refine ⟨_, rfl, _, rfl, rfl, true, rfl, ?_⟩
        refine ⟨_, rfl, a, _, d, _, ix, rfl, st _ _ ea3, st _ _ ed3, hcls.xf, cf, by rfl, ix, x, rfl, rep3.same st, (by show 2 ≤ sizeLine; decide), fun p np => q _ p (s04.trans (same_new np)) upd_same⟩
      | 4, _ =>
        refine ⟨t, _, rfl, .inr (SqT.of et), rfl, rfl, true, rfl, ?_⟩
        refine ⟨_, rfl, _, rfl, a, _, d, _, ix, rfl, st _ _ ea3, st _ _ ed3, hcls.xf, cf, by rfl, ix, x, rfl, rep3.same st, (by show 2 ≤ sizeLine; decide), fun p np => q _ p (s04.trans (same_new np)) upd_same⟩
end
end KS
namespace KS
open PySem PySem.Spec PyProof.Rows L2
abbrev sLisCell : Stmt := topS 69
abbrev sPFault : Stmt := topS 70
theorem scLisCell : FnScope ["_law_thing", "_law_one"] ["_law_thing"] (defScope sLisCell) := ⟨rfl, rfl, rfl, by decide +kernel, rfl, by decide +kernel, by decide +kernel⟩
theorem scFault : FnScope ["_law_thing", "_law_at", "_law_spot"] ["_law_thing"] (defScope sPFault) := ⟨rfl, rfl, rfl, by decide +kernel, rfl, by decide +kernel, by decide +kernel⟩
theorem pl_read {K : PySem.W.Frag} {σ : L2.St} {H : Hp} {Q : VK} {y : V} {b : Bool} (hσ : σ[1]? = some (some y)) (hp : PlR K H y b) (q : Q (.bl b) H) :
    tAndV (tCB (rIsi K) (tCons (tVar 1) (tCons (tC (.ty "int")) tNil))) (tAndV (tNotV (tCB (rIsi K) (tCons (tVar 1) (tCons (tC (.ty "bool")) tNil)))) (tChain rLe rLe (tC (.int 0)) (tVar 1) (tC (.int 7)))) σ H Q := by
  have go : ∀ i : Int, y = .int i → b = decide (0 ≤ i ∧ i ≤ 7) → tAndV (tCB (rIsi K) (tCons (tVar 1) (tCons (tC (.ty "int")) tNil))) (tAndV (tNotV (tCB (rIsi K) (tCons (tVar 1) (tCons (tC (.ty "bool")) tNil)))) (tChain rLe rLe (tC (.int 0)) (tVar 1) (tC (.int 7)))) σ H Q := fun i ei eb => by
    subst ei
    refine ⟨_, hσ, _, _, _, _, true, rfl, .ty "int", .base (.int i), kit_ty (by decide +kernel), true, rfl, ?_⟩
    refine ⟨_, hσ, _, _, _, _, false, rfl, .ty "bool", .base (.int i), kit_ty (by decide +kernel), false, rfl, true, rfl, ?_⟩
    refine ⟨_, hσ, _, _, rfl, rfl, _, rfl, ite2 (fun e => ?_) (fun e => ?_)⟩
    · have e' := of_decide_eq_true e
      refine ⟨_, _, rfl, rfl, ?_⟩
      have z : decide (i ≤ 7) = b := by
        rw [eb]
        by_cases y : i ≤ 7
        · rw [decide_eq_true y, decide_eq_true ⟨e', y⟩]
        · rw [decide_eq_false y, decide_eq_false fun x => y x.2]
      show Q (V.bl (decide (i ≤ 7))) H
      rw [z]
      exact q
    · have z : b = false := by
        rw [eb]
        exact decide_eq_false fun x => e (decide_eq_true x.1)
      rw [z] at q
      exact q
  cases b with
  | true =>
    obtain ⟨i, rfl, h0, h1⟩ := hp
    exact go i rfl (decide_eq_true ⟨h0, h1⟩).symm
  | false =>
    rcases hp with ⟨i, rfl, hn⟩ | ⟨ty, ho, hn⟩
    · exact go i rfl (decide_eq_false hn).symm
    · refine ⟨_, hσ, y, _, _, _, _, rfl, .ty "int", ho.ty, kit_int ho, _, rfl, ite2 (fun e => ?_) (fun e => ?_)⟩
      · have e' : ty = "bool" := (of_decide_eq_true e).resolve_left hn
        refine ⟨_, hσ, y, _, _, _, _, rfl, .ty "bool", ho.ty, kit_bool ho, _, rfl, false, ?_, q⟩
        rw [decide_eq_true e']
        rfl
      · exact q
def spFault (K : PySem.W.Frag) : Sp := fun vs H Q _ => ∃ (v : V) (b : Verd), vs = [v] ∧ PlanV K H v b ∧ ∀ H' p, Same H H' → H' p = some (.lst (if b.good = true then [] else [vIdx b])) → Q (.ref p) H'
section
variable {P : Program} {w : World} {K : PySem.W.Frag} {mg : Str → Option Value} {base : Heap}
theorem ok_lisCell {f : Addr} {fd : FuncData} (F : Fun K "_law_is_cell" "_law_is_cell" sLisCell f fd) (mi : mg "isinstance" = none) (mT : mg "tuple" = none) (ml : mg "len" = none) (ma : mg "all" = none) (mI : mg "int" = none) (mB : mg "bool" = none) :
    FnOk P w K mg base CX0 1 f fd ["_law_thing"] (spIsCellG K) := by
  refine F.ok scLisCell (fun vs H Q E h => ?_) (fun cdv A outer s H vs Q E hr h => ?_)
  · obtain ⟨a, c, rfl, _⟩ := h
    rfl
  · obtain ⟨v, o, rfl, he, q⟩ := h
    have nd := scLisCell.nd
    refine ⟨_, pss_cons (ps_if (PW.pt (pw_or (pt_not (pt_val (pe_callB call_isi (by rfl) mi (by decide +kernel) (pa_cons (pv 0) (pa_cons (pe_bltn (v := .ty "tuple") (by rfl) mT (by decide +kernel) rfl) pa_nil)))))
          (pw_or1 (pt_cmpR op_ne (pe_callB call_len_seq (by rfl) ml PySem.boot_len (pa_cons (pv 0) pa_nil)) pe_int (nomark _)))))
        (pss_one (ps_ret pe_bl)) pss_nil)
      (pss_one (ps_ret (pe_callB (cr_all rfl) (by rfl) ma (by decide +kernel) (pa_cons
        (pe_lc (own := [("_law_one", 1)]) (g := gName 1) (tt := tYes) rfl nd (pi_tup (pv 0)) (blkOk_by (N := ["_law_thing", "_law_one"]) (sc := defScope sLisCell) (by decide +kernel))
          (fun _ _ _ _ _ => pg_name (i := 1) nd rfl (Or.inl rfl)) (fun _ _ _ _ _ => pts_nil)
          (fun _ _ _ _ _ => pe_and (pe_callB (id := "isinstance") (r := rIsi K) call_isi (by rfl) mi (by decide +kernel) (pa_cons (pv 1) (pa_cons (pe_bltn (v := .ty "int") (by rfl) mI (by decide +kernel) rfl) pa_nil)))
            (pe_and (pe_not (pe_callB (id := "isinstance") (r := rIsi K) call_isi (by rfl) mi (by decide +kernel) (pa_cons (pv 1) (pa_cons (pe_bltn (v := .ty "bool") (by rfl) mB (by decide +kernel) rfl) pa_nil))))
            (pe_one (pe_chain op_le op_le pe_int (pv 1) pe_int))))) pa_nil)))), ?_⟩
    have two : ∀ (t : Addr) (y0 y1 : V) (b0 b1 : Bool), v = .ref t → SqT K H t [y0, y1] → PlR K H y0 b0 → PlR K H y1 b1 → o.isSome = (b0 && b1) →
        tCB (rAll K) (tCons (tLc (iTup K (tVar 0)) (gName 1) tYes (tAndV (tCB (rIsi K) (tCons (tVar 1) (tCons (tC (.ty "int")) tNil))) (tAndV (tNotV (tCB (rIsi K) (tCons (tVar 1) (tCons (tC (.ty "bool")) tNil)))) (tChain rLe rLe (tC (.int 0)) (tVar 1) (tC (.int 7))))) [1]) tNil) [some v, none] H Q := by
      intro t y0 y1 b0 b1 ev ht p0 p1 eo
      subst ev
      refine ⟨_, rfl, t, rfl, ⟨_, ht⟩, fun D nD => ?_⟩
      refine lc_tup (K := K) (a := t) (xs := [y0, y1]) (fun j G => G D = some (.lst ((([b0, b1] : List Bool).take j).map V.bl)) ∧ (∀ b o, b ≠ D → H b = some o → G b = some o)) ?_ ?_ ?_ ?_
      · exact ⟨upd_same, fun b o n e => by rw [upd_ne n]; exact e⟩
      · rintro j G _ ⟨a1, a3⟩
        exact same_seqT (fun b o e => a3 b o (ne_of_none e nD) e) ht
      · rintro j x G hj ⟨a1, a3⟩
        have sD : Same H G := fun b o e => a3 b o (ne_of_none e nD) e
        have step : ∀ b : Bool, PlR K H x b → ([b0, b1] : List Bool)[j]? = some b → tAndV (tCB (rIsi K) (tCons (tVar 1) (tCons (tC (.ty "int")) tNil))) (tAndV (tNotV (tCB (rIsi K) (tCons (tVar 1) (tCons (tC (.ty "bool")) tNil)))) (tChain rLe rLe (tC (.int 0)) (tVar 1) (tC (.int 7)))) [some (.ref t), some x] G
            (fun y H4 => ∃ acc, H4 D = some (.lst acc) ∧ acc.length < sizeLine ∧ (upd H4 D (.lst (acc ++ [y])) D = some (.lst ((([b0, b1] : List Bool).take (j + 1)).map V.bl)) ∧ ∀ b o, b ≠ D → H b = some o → upd H4 D (.lst (acc ++ [y])) b = some o)) := fun b hb hbj => by
          refine pl_read rfl (hb.same sD) ⟨_, a1, ?_, ?_, fun q o n e => ?_⟩
          · rw [List.length_map, List.length_take]
            exact small64 (by simp; omega)
          · rw [upd_same, List.take_add_one, hbj, List.map_append]
            rfl
          · rw [upd_ne n]
            exact a3 q o n e
        refine ⟨rfl, ?_⟩
        match j, hj with
        | 0, hj =>
          cases hj
          exact step b0 p0 rfl
        | 1, hj =>
          cases hj
          exact step b1 p1 rfl
      · rintro G ⟨a1, a3⟩
        refine ⟨D, [b0, b1], rfl, SqL.of a1, ?_⟩
        have := q G (fun b o e => a3 b o (ne_of_none e nD) e)
        rw [eo] at this
        have z : ([b0, b1] : List Bool).all id = (b0 && b1) := by simp
        rw [z]
        exact this
    have q0 := q H (Same.refl _)
    cases o with
    | some c =>
      obtain ⟨⟨a, rfl, ht⟩, hg⟩ := he
      refine ⟨_, rfl, _, _, _, _, true, rfl, .ty "tuple", tyx_tup ht, kit_ty (by decide +kernel), true, rfl, ?_⟩
      refine ⟨_, rfl, a, _, rfl, .inr ht, rfl, false, rfl, ?_⟩
      exact two a _ _ true true rfl ht ⟨c.1, rfl, hg.1, hg.2.1⟩ ⟨c.2, rfl, hg.2.2.1, hg.2.2.2⟩ rfl
    | none =>
      rcases he with ⟨t, ho, n⟩ | ⟨t, ys, rfl, ht, n⟩ | ⟨t, y0, y1, b0, b1, rfl, ht, p0, p1, n⟩
      · refine ⟨_, rfl, v, _, _, _, _, rfl, .ty "tuple", ho.ty, kit_tuple ho, _, rfl, ?_⟩
        rw [decide_eq_false n]
        exact q0
      · refine ⟨_, rfl, _, _, _, _, true, rfl, .ty "tuple", tyx_tup ht, kit_ty (by decide +kernel), true, rfl, ?_⟩
        refine ⟨_, rfl, t, _, rfl, .inr ht, rfl, true, ?_, q0⟩
        have z : ¬ V.int (ys.length : Int) = V.int 2 := fun y => n (by
          have := V.int.inj y
          omega)
        show V.bl (!decide (V.int (ys.length : Int) = V.int 2)) = V.bl true
        rw [decide_eq_false z]
        rfl
      · refine ⟨_, rfl, _, _, _, _, true, rfl, .ty "tuple", tyx_tup ht, kit_ty (by decide +kernel), true, rfl, ?_⟩
        refine ⟨_, rfl, t, _, rfl, .inr ht, rfl, false, rfl, ?_⟩
        exact two t y0 y1 b0 b1 rfl ht p0 p1 n.symm
theorem ok_fault {f fL : Addr} {fd fdL : FuncData} (F : Fun K "_law_plan_fault" "_law_plan_fault" sPFault f fd) (GL : FnOk P w K mg base CX0 1 fL fdL ["_law_thing"] (spIsCellG K)) (bL : Binds K fdL ["_law_thing"] []) (gL : mg "_law_is_cell" = some (.ref fL)) (kL : PySem.W.keepIn K (.ref fL) = true)
    (mi : mg "isinstance" = none) (mT : mg "tuple" = none) (ml : mg "len" = none) (me : mg "enumerate" = none) : FnOk P w K mg base CX0 2 f fd ["_law_thing"] (spFault K) := by
  refine F.ok scFault (fun vs H Q E h => ?_) (fun cdv A outer s H vs Q E hr h => ?_)
  · obtain ⟨v, b, rfl, _⟩ := h
    rfl
  · obtain ⟨v, b, rfl, hv, q⟩ := h
    have nd := scFault.nd
    refine ⟨_, pss_cons (ps_if (PW.pt (pw_or (pt_not (pt_val (pe_callB call_isi (by rfl) mi (by decide +kernel) (pa_cons (pv 0) (pa_cons (pe_bltn (v := .ty "tuple") (by rfl) mT (by decide +kernel) rfl) pa_nil)))))
          (pw_or1 (pt_not (pt_chain op_lt op_lt pe_int (pe_callB call_len_seq (by rfl) ml PySem.boot_len (pa_cons (pv 0) pa_nil)) pe_int)))))
        (pss_one (ps_ret (pe_lst (pa_cons pe_non pa_nil)))) pss_nil)
      (pss_cons (ps_for PassesOwn.never rfl (pi_enumT (by rfl) me (pa_cons (pv 0) pa_nil)) (pg_tup (by rfl) (pgs_cons (pg_name (i := 1) nd rfl (.inl rfl)) (pgs_cons (pg_name (i := 2) nd rfl (.inl rfl)) pgs_nil)))
        (pss_one (ps_if (PW.pt (pw_or (pt_not (pt_val (pe_call GL hr (by rfl) gL kL bL .nil pass0 (pa_cons (pv 2) pa_nil))))
            (pw_or1 (PW.pt (pw_and (pt_cmpR op_gt (pv 1) pe_int (nomark _)) (pw_and1 (pt_cmpR (op_leT hr.units0) (pv 2) (pe_ix ix_tup (pv 0) (pe_op op_sub (pv 1) pe_int) (fun _ _ => rfl)) (nomark _))))))))
          (pss_one (ps_ret (pe_lst (pa_cons (pv 1) pa_nil)))) pss_nil)))
      (pss_one (ps_ret (pe_lst pa_nil)))), ?_⟩
    rcases hv.split with ⟨rfl, hn⟩ | ⟨a, xs, rs, rfl, hx, l1, l2, he, tw⟩
    · have go : tRet (tLst (tCons (tC .non) tNil)) { nx := fun _ H' => Q .non H', rt := Q } [some v, none, none] H := ⟨(by show 1 ≤ sizeLine; decide), fun p np => q _ p (same_new np) upd_same⟩
      rcases hn with ⟨t, ho, n⟩ | ⟨a, xs, rfl, hx, n⟩
      · refine ⟨_, rfl, v, _, _, _, _, rfl, .ty "tuple", ho.ty, kit_tuple ho, _, rfl, ?_⟩
        rw [decide_eq_false n]
        exact go
      · refine ⟨_, rfl, _, _, _, _, true, rfl, .ty "tuple", tyx_tup hx, kit_ty (by decide +kernel), true, rfl, ?_⟩
        refine ⟨_, rfl, a, _, rfl, .inr hx, _, _, rfl, rfl, _, rfl, ?_⟩
        by_cases c1 : (0 : Int) < (xs.length : Int)
        · rw [if_pos (decide_eq_true c1)]
          refine ⟨_, _, rfl, rfl, false, bl_false (show ¬ (xs.length : Int) < 25 by omega), ?_⟩
          exact go
        · rw [if_neg (fun z => c1 (of_decide_eq_true z))]
          exact ⟨false, rfl, go⟩
    · have hlen := Paired.length he
      refine ⟨_, rfl, _, _, _, _, true, rfl, .ty "tuple", tyx_tup hx, kit_ty (by decide +kernel), true, rfl, ?_⟩
      refine ⟨_, rfl, a, _, rfl, .inr hx, _, _, rfl, rfl, true, bl_true (show (0 : Int) < (xs.length : Int) by omega), ?_⟩
      refine ⟨_, _, rfl, rfl, true, bl_true (show (xs.length : Int) < 25 by omega), ?_⟩
      refine ⟨_, rfl, a, xs, rfl, hx, for_enumT (K := K) (a := a) (xs := xs) (fun i σ H' => Same H H' ∧ OkTo rs i ∧ ∃ y1 y2, σ = [some (.ref a), y1, y2]) ?_ ?_ ?_ ?_⟩
      · exact ⟨Same.refl _, fun j hj => absurd hj (Nat.not_lt_zero _), none, none, rfl⟩
      · rintro i σ H' _ ⟨sm, _⟩
        exact same_seqT sm hx
      · rintro i x σ H' Tp hi ⟨sm, ok, y1, y2, rfl⟩ nT
        obtain ⟨o, hoi, hox⟩ := paired_get he hi
        have sT := same_new (o := .tup [.int (i : Nat), x]) nT
        have s2 := sm.trans sT
        have fail : BadAt rs i → ∀ H2 : Hp, Same H H2 → tRet (tLst (tCons (tVar 1) tNil)) { nx := fun _ H' => Q .non H', rt := Q } [some (.ref a), some (.int ((i : Nat) : Int)), some x] H2 := fun bad H2 s3 => by
          have eb := tw.bad ok bad
          subst eb
          exact ⟨_, rfl, (by show 1 ≤ sizeLine; decide), fun p np => q _ p (s3.trans (same_new np)) upd_same⟩
        refine ⟨Tp, _, rfl, SqT.of upd_same, rfl, _, _, rfl, _, _, rfl, rfl, ?_⟩
        cases o with
        | none =>
          refine ⟨_, rfl, x, none, rfl, hox.same s2, fun H3 s3 => ⟨false, rfl, ?_⟩⟩
          exact fail (.inl hoi) _ (s2.trans s3)
        | some c =>
          refine ⟨_, rfl, x, some c, rfl, hox.same s2, fun H3 s3 => ⟨true, rfl, ?_⟩⟩
          have s4 := s2.trans s3
          refine ⟨_, rfl, _, _, rfl, rfl, _, rfl, ite2 (fun e => ?_) (fun e => ?_)⟩
          · have e' : (0 : Int) < (i : Int) := of_decide_eq_true e
            obtain ⟨j, rfl⟩ : ∃ j, i = j + 1 := ⟨i - 1, by omega⟩
            have hj : j < xs.length := by
              have := (List.getElem?_eq_some_iff.mp hi).1
              omega
            obtain ⟨o0, ho0, hx0⟩ := paired_get he (List.getElem?_eq_getElem hj)
            obtain ⟨c0, ec0, _⟩ := ok j (by omega)
            rw [ec0] at ho0
            cases ho0
            obtain ⟨⟨t0, e0, ht0⟩, _⟩ := hx0
            obtain ⟨⟨tt, e1, ht⟩, _⟩ := id hox
            subst e1
            have gx : xs[j]? = some (.ref t0) := by rw [List.getElem?_eq_getElem hj, e0]
            have ej : ((j + 1 : Nat) : Int) - 1 = ((j : Nat) : Int) := by omega
            refine ⟨_, rfl, _, rfl, _, rfl, _, _, rfl, rfl, a, xs, _, .ref t0, rfl, rfl, same_seqT s4 hx, ?_, tt, t0, [c.1, c.2], [c0.1, c0.2], rfl, rfl, same_seqT s4 ht, same_seqT s4 ht0, _, rfl, ite2 (fun e2 => ?_) (fun e2 => ?_)⟩
            · show atI xs (((j + 1 : Nat) : Int) - 1) = _
              rw [ej]
              exact atI_nat gx
            · exact fail (.inr ⟨c, c0, j, hoi, rfl, ec0, le2_iff.mp e2⟩) _ s4
            · refine ⟨s4, okTo_succ ok hoi (fun k hk => ?_), _, _, rfl⟩
              have : k = j := by omega
              subst this
              refine ⟨c0, ec0, ?_⟩
              rcases lt2_dec c0 c with z | z
              · exact z
              · exact absurd (le2_iff.mpr z) e2
          · have e' : ¬ (0 : Int) < (i : Int) := fun z => e (decide_eq_true z)
            exact ⟨s4, okTo_succ ok hoi (fun k hk => by omega), _, _, rfl⟩
      · rintro σ H' ⟨sm, ok, _⟩
        rw [hlen] at ok
        have g := tw.ok ok
        refine ⟨Nat.zero_le _, fun p np => q _ p (sm.trans (same_new np)) ?_⟩
        rw [g]
        exact upd_same
end
end KS
/-! texts of signs that there are; the promise of a law whose program makes lambdas -/
namespace KS
open PySem PySem.Spec PyProof.Rows L2
def OkS (s : Str) : Prop := ∀ c ∈ s.cps.toList, c < 0x110000
theorem OkS.strOk {s : Str} (h : OkS s) : PyData.strOk s = true := by
  unfold PyData.strOk
  rw [← Array.all_toList, List.all_eq_true]
  exact fun c hc => decide_eq_true (h c hc)
theorem OkS.app {a b : Str} (ha : OkS a) (hb : OkS b) : OkS (a ++ b) := fun c hc => by
  have hc : c ∈ (a.cps ++ b.cps).toList := hc
  rw [Array.toList_append] at hc
  rcases List.mem_append.mp hc with h | h
  · exact ha c h
  · exact hb c h
theorem okS_of (s : String) : OkS (Str.ofString s) := fun c hc => by
  rw [Str.ofString_eq_toList] at hc
  have hc : c ∈ s.toList.map Char.toNat := by simpa using hc
  obtain ⟨x, _, rfl⟩ := List.mem_map.mp hc
  exact Nat.lt_of_lt_of_le (by
    rcases x.valid with h | ⟨_, h⟩
    · have : x.toNat < 0xd800 := h
      omega
    · exact h : x.toNat < 0x110000) (Nat.le_refl _)
open LamX
def spLawT (T : List (Addr × Str)) (K : PySem.W.Frag) : Sp := fun vs H Q _ => ∃ (a : Addr) (ns : List Int), vs = [.ref a] ∧ SqL K H a (ns.map V.int) ∧ ns.length ≤ 63 ∧ Tabs T H ∧ ∀ H', Q (.bl true) H'
theorem SqL.ext {K : PySem.W.Frag} {H H' : Hp} {a : Addr} {xs : List V} (h : SqL K H a xs) (e : ExtN H H') : SqL K H' a xs := by
  rcases h with (h | ⟨ob, h⟩) | h
  · exact .inl (.inl (e _ _ h fun ps z => nomatch z))
  · exact .inl (.inr ⟨ob, e _ _ h fun ps z => nomatch z⟩)
  · exact .inr h
/-- what stood, but at p and in the tables, stands -/
def KeepN (p : Addr) (H H' : Hp) : Prop := ∀ b o, b ≠ p → H b = some o → (∀ ps, o ≠ .tbl ps) → H' b = some o
theorem KeepN.trans {p : Addr} {H H1 H2 : Hp} (a : KeepN p H H1) (b : KeepN p H1 H2) : KeepN p H H2 := fun c o n e z => b c o n (a c o n e z) z
theorem KeepN.of {p : Addr} {H H1 : Hp} (a : KeepX p H H1) : KeepN p H H1 := fun b o n e _ => a b o n e
theorem KeepN.ext {p : Addr} {H H1 : Hp} (a : ExtN H H1) : KeepN p H H1 := fun b o _ e z => a b o e z
theorem Tabs.keepX {T : List (Addr × Str)} {p : Addr} {H H' : Hp} (t : Tabs T H) (po : PoolO (H p)) (k : KeepX p H H') : Tabs T H' := fun q hq => by
  obtain ⟨ps, a1, a2, a3⟩ := t q hq
  obtain ⟨x, y, z, e, _⟩ := po
  refine ⟨ps, k _ _ (fun z => by rw [z, e] at a1; cases a1) a1, a2, fun pos cv hcv => ?_⟩
  obtain ⟨c0, w1, w2⟩ := a3 pos cv hcv
  exact ⟨c0, w1, k _ _ (fun z => by rw [z, e] at w2; cases w2) w2⟩
theorem PoolO.ext {p : Addr} {H H' : Hp} (po : PoolO (H p)) (k : ExtN H H') : PoolO (H' p) := by
  obtain ⟨x, y, z, e, h⟩ := po
  exact ⟨x, y, z, k _ _ e (fun ps q => nomatch q), h⟩
def spRightT (T : List (Addr × Str)) : Sp := fun vs H Q _ => ∃ p : Addr, vs = [.ref p] ∧ PoolO (H p) ∧ Tabs T H ∧ ∀ H', KeepN p H H' → Tabs T H' → Q (.bl true) H'
theorem PlanAt.ext {K : PySem.W.Frag} {H H' : Hp} {a : Addr} {cs : List Cell} (h : PlanAt K H a cs) (e : ExtN H H') : PlanAt K H' a cs := by
  refine h.kt fun b xs q => ?_
  rcases q with (q | ⟨ob, q⟩) | q
  · exact .inl (.inl (e _ _ q (fun ps z => nomatch z)))
  · exact .inl (.inr ⟨ob, e _ _ q (fun ps z => nomatch z)⟩)
  · exact .inr q
end KS
/-! the law's own: plans at all doors -/
namespace KS
open PySem PySem.Spec PyProof.Rows L2 LamX NdefX
/-! ### what is due -/
/-- the text of a fault -/
def vTxt : Verd → Str
  | .at i => (toString ((i : Nat) : Int))
  | _ => "None"
theorem vTxt_ok (b : Verd) : OkS (vTxt b) := by
  cases b <;> exact okS_of _
theorem rep_verd {K : PySem.W.Frag} {H : Hp} {b : Verd} (h : ∀ i, b = .at i → i < 100) : Rep K H (vIdx b) (vTxt b) := by
  cases b with
  | ok => exact .non
  | non => exact .non
  | «at» i =>
    have hi := h i rfl
    refine .int _ ?_
    have e : ((i : Nat) : Int).natAbs = i := Int.natAbs_natCast i
    rw [e]
    have : i.log2 ≤ 7 := by
      by_cases z : i = 0
      · rw [z]; decide
      · have := (Nat.log2_lt z (k := 7)).mpr (by omega)
        omega
    omega
/-- told, or an error's kind and its field's text -/
def dueV : Option (Nat × Str) → List V
  | none => [.str "told", .str ""]
  | some (k, x) => [.int (k : Nat), .str x]
def dueD : Option (Nat × Str) → PyData
  | none => .tuple [.str "told", .str ""]
  | some (k, x) => .tuple [.int (k : Nat), .str x]
theorem due_dp {K : PySem.W.Frag} {H : Hp} {p : Addr} {r : Option (Nat × Str)} (h : H p = some (.tup (dueV r))) : Dp K H (.ref p) (dueD r) := by
  cases r with
  | none => exact .tup (SqT.of h) (.cons (.str _) (.cons (.str _) .nil))
  | some r => exact .tup (SqT.of h) (.cons (.int _) (.cons (.str _) .nil))
theorem due_shaped {r : Option (Nat × Str)} (h : ∀ k x, r = some (k, x) → k < 100 ∧ OkS x) : SeqAt.shaped (dueD r) = true := by
  cases r with
  | none => decide +kernel
  | some r =>
    obtain ⟨k, x⟩ := r
    obtain ⟨h1, h2⟩ := h k x rfl
    have h3 := h2.strOk
    have h4 := ints_shaped [((k : Nat) : Int)]
    unfold SeqAt.shaped at h4 ⊢
    simp only [dueD, PyData.canLay0, PyData.canLayAll0, PyData.depth, PyData.depthAll, List.map_cons, List.map_nil, h3, Bool.and_true, Bool.true_and, Nat.max_self, Nat.max_zero, Nat.zero_max] at h4 ⊢
    exact h4
theorem due_eqv {r : Option (Nat × Str)} (h : ∀ k x, r = some (k, x) → k < 100 ∧ OkS x) : PyData.eqv (dueD r) (dueD r) = true := SeqAt.eqv_refl _ (SeqAt.canLay_of_shaped (due_shaped h))
theorem planV_small {K : PySem.W.Frag} {H : Hp} {v : V} {b : Verd} (h : PlanV K H v b) : ∀ i, b = .at i → i < 100 := fun i e => by
  subst e
  obtain ⟨a, xs, rs, _, _, _, h3, h4, _, bad⟩ := h
  have := bad_lt bad
  have := Paired.length h4
  omega
theorem filV_small {K : PySem.W.Frag} {H : Hp} {n : Nat} {v : V} {b : Verd} (h : FilV K H n v b) (hn : n ≤ 24) : ∀ i, b = .at i → i < 100 := fun i e => by
  subst e
  obtain ⟨a, xs, rs, _, _, h3, h4, _, bad⟩ := h
  have := badV_lt bad
  have := Paired.length h4
  omega
/-- what is due of a verdict -/
def dueB (k : Nat) (b : Verd) : Option (Nat × Str) := if b.good = true then none else some (k, vTxt b)
theorem dueB_ok {k : Nat} {b : Verd} (hk : k < 100) : ∀ j x, dueB k b = some (j, x) → j < 100 ∧ OkS x := fun j x e => by
  unfold dueB at e
  split at e
  · cases e
  · cases e
    exact ⟨hk, vTxt_ok b⟩
theorem fault_dataL {K : PySem.W.Frag} {H : Hp} {p : Addr} {b : Verd} (h : H p = some (.lst (if b.good = true then [] else [vIdx b]))) : ∃ d, Dp K H (.ref p) d ∧ SeqAt.shaped d = true ∧ PyData.eqv d (.list []) = b.good := by
  cases b with
  | ok => exact ⟨.list [], .lst (SqL.of h) .nil, by decide, by decide⟩
  | non => exact ⟨.list [.none], .lst (SqL.of h) (.cons .non .nil), by decide, by decide⟩
  | «at» i => exact ⟨.list [.int (i : Nat)], .lst (SqL.of h) (.cons (.int _) .nil), ints_shaped [((i : Nat) : Int)], rfl⟩
theorem cells_nil {h : Heap} {H : Hp} : NdefX.CellsAt [] [] [] h H := ⟨rfl, fun y c e => (by cases e), fun x y c e => (by cases e), fun i y e => (by cases e)⟩
/-! ### the act -/
section
variable {P : Program} {w : World} {K : PySem.W.Frag} {mg : Str → Option Value} {base : Heap} {cs bs : Nat → Addr}
def spAct1 (P : Program) (w : World) (K : PySem.W.Frag) (mg : Str → Option Value) (base : Heap) (C : Addr) : List (Option V) → Sp := fun ws vs H Q E => ∃ (g : Addr) (v : V), ws = [some (.ref g), some v] ∧ vs = [] ∧ DoorL P w K mg base 11 ["_law_thing"] (spPD K C NoR) H g ∧ spPD K C NoR [v] H Q E
theorem caught_plan {H : Hp} {fl g : Addr} {F : NF} {eb : Expr} {v : V} {b : Verd} {Q : VK} {E : XK} (h0 : ClsQ K cs bs 0) (e5 : H fl = some (LamO fl F eb)) (e6 : H F.c = some (CodeO F.c F.qual)) (Lk : LOk P w K mg base (L2.CX P w) 12 fl F eb [] ["_law_door", "_law_thing"] (spAct1 P w K mg base (cs 0)))
    (hd : DoorL P w K mg base 11 ["_law_thing"] (spPD K (cs 0) NoR) H g) (hp : PlanV K H v b) (q : ∀ H' p, Same H H' → H' p = some (.tup (dueV (dueB 0 b))) → Q (.ref p) H') :
    spCaught P w K mg base 12 cs bs F.cl ["_law_door", "_law_thing"] [some (.ref g), some v] [.ref fl] H Q E := by
  refine ⟨fl, F, eb, _, rfl, rfl, e5, e6, Lk, ?_⟩
  cases e : b.good with
  | true =>
    refine .inl ⟨fun Q' E' k => ⟨g, v, rfl, rfl, hd, v, [], b, rfl, rfl, hp, fun _ => k, fun z => (by rw [e] at z; cases z)⟩, fun H' p s1 hp' => q H' p s1 ?_⟩
    unfold dueB
    rw [if_pos e]
    exact hp'
  | false =>
    refine .inr ⟨0, vIdx b, vTxt b, by decide, h0, rep_verd (planV_small hp), fun Q' E' k => ⟨g, v, rfl, rfl, hd, v, [], b, rfl, rfl, hp, fun z => (by rw [e] at z; cases z), fun _ => k⟩, fun H' p s1 hp' => q H' p s1 ?_⟩
    unfold dueB
    rw [if_neg (fun z => by rw [e] at z; cases z)]
    exact hp'
end
end KS
/-! the law's own: plans at all doors -/
namespace KS
open PySem PySem.Spec PyProof.Rows L2 LamX NdefX
abbrev sPlansR : Stmt := topS 78
abbrev nPlansR : List Str := ["_law_things", "_law_fault", "_law_due", "_law_door", "_law_thing"]
theorem scPlansR : FnScope nPlansR ["_law_things"] (defScope sPlansR) := ⟨rfl, rfl, rfl, by decide +kernel, rfl, by decide +kernel, by decide +kernel⟩
def lamPR : Str := (envOfC "_law_plans_right" (defScope sPlansR) 0 0 .none).qual ++ "<lambda>"
abbrev lamAN : List (Str × NameKind) := [(Str.ofString "_law_door", .free), (Str.ofString "_law_thing", .free)]
abbrev lamAS : Scope := { kind := .function, names := lamAN, isGenerator := false, isCoroutine := false }
def spPlansR (T : List (Addr × Str)) (K : PySem.W.Frag) : Sp := fun vs H Q _ => ∃ (a : Addr) (xs : List V), vs = [.ref a] ∧ H a = some (.lst xs) ∧ xs.length ≤ 24 ∧ Tabs T H ∧ (∀ x ∈ xs, ∃ b, PlanV K H x b) ∧ ∀ H', ExtN H H' → Tabs T H' → Q (.bl true) H'
theorem mem_cut {xs : List V} {lo hi : Option Int} {x : V} (h : x ∈ cutV xs lo hi) : x ∈ xs := by
  unfold cutV at h
  exact List.mem_of_mem_drop (List.mem_of_mem_take h)
theorem len_cut {xs : List V} {lo hi : Option Int} : (cutV xs lo hi).length ≤ xs.length := by
  unfold cutV
  rw [List.length_take, List.length_drop]
  omega
section
variable {P : Program} {w : World} {K : PySem.W.Frag} {mg : Str → Option Value} {base : Heap} {cs bs : Nat → Addr}
theorem ok_plansR {T : List (Addr × Str)} {f c Pt fD fF fC : Addr} {fd fdD fdF fdC : FuncData} (F : FunC K "_law_plans_right" "_law_plans_right" sPlansR f c fd) (TB : TabB base mg c Pt) (hm : (Pt, lamPR) ∈ T) (hu : ∀ p ∈ T, p.1 = Pt → p.2 = lamPR) (h0 : ClsQ K cs bs 0)
    (GD : FnOk P w K mg base CX0 1 fD fdD [] (spDoors T P w K mg base 11 ["_law_thing"] (spPD K (cs 0) NoR))) (bD : Binds K fdD [] []) (gD : mg "_law_plan_doors" = some (.ref fD)) (kD : PySem.W.keepIn K (.ref fD) = true)
    (GF : FnOk P w K mg base CX0 2 fF fdF ["_law_thing"] (spFault K)) (bF : Binds K fdF ["_law_thing"] []) (gF : mg "_law_plan_fault" = some (.ref fF)) (kF : PySem.W.keepIn K (.ref fF) = true)
    (GC : FnGC P w K mg base 14 fC fdC ["_law_act"] (spCaught P w K mg base 12 cs bs)) (bC : Binds K fdC ["_law_act"] []) (gC : mg "_law_caught" = some (.ref fC)) (kC : PySem.W.keepIn K (.ref fC) = true)
    (mR : mg "repr" = none) : FnG P w K mg base 15 f fd ["_law_things"] (spPlansR T K) := by
  refine okGF F scPlansR (fun vs H Q E h => ?_) (fun A outer s H vs Q E hr hgd h => ?_)
  · obtain ⟨a, xs, rfl, _⟩ := h
    rfl
  · obtain ⟨a, xs, rfl, hx, hl, hT, hp, q⟩ := h
    have nd := scPlansR.nd
    have hr1 : Room 1 _ := hr.mono (by decide)
    have hr2 : Room 2 _ := hr.mono (by decide)
    have hun := hr.un
    have hu100 : (A.deeper (envOfC "_law_plans_right" (defScope sPlansR) s.heap.objs.size f (.ref c))).units + 100 < cLine := by omega
    have cell : ∀ y ∈ lamAN, y.2 = .free → (defScope sPlansR).names.lookup y.1 = some .cell := by decide +kernel
    refine ⟨_, pss_cons (ps_for PassesOwn.never rfl (pi_list (pe_call0 GD hr1 (by rfl) gD kD bD .nil pass0)) (pg_name (i := 3) nd rfl (.inr rfl))
        (pss_one (ps_for PassesOwn.never rfl (pi_list (pe_op op_cat (pv 0) (pe_slice sl_list (pv 0) po_none (po_some pe_int)))) (pg_name (i := 4) nd rfl (.inr rfl))
          (pss_cons (ps_set (i := 1) nd rfl (.inl rfl) (pe_call GF hr2 (by rfl) gF kF bF .nil pass0 (pa_cons (pv 4) pa_nil)))
          (pss_cons (ps_set (i := 2) nd rfl (.inl rfl) (pe_ifExp (pt_cmpR (op_neD hr.units) (pv 1) (pe_lst pa_nil) (nomark _))
            (pe_tup (pa_cons pe_int (pa_cons (pe_callB (call_reprA hgd hu100) (by rfl) mR (by decide +kernel) (pa_cons (pe_ix ix_list (pv 1) pe_int (fun _ _ => rfl)) pa_nil)) pa_nil)))
            (pe_tup (pa_cons pe_str (pa_cons pe_str pa_nil)))))
          (pss_one (ps_if (pt_cmpR (op_neD hr.units) (pe_callGM (js := [3, 4]) (fr := ["_law_door", "_law_thing"]) GC
              (fun ok => Caps.made (scope := lamAS) ok (fun y hy e => .inl (cell y hy e)) (by decide +kernel) rfl)
              hr hgd (by rfl) gC kC bC (pa_cons (pe_lamV TB rfl hm hu rfl (fun y hy e => .inl (cell y hy e))) pa_nil)) (pv 2) (nomark _))
            (pss_one (ps_ret pe_bl)) pss_nil)))))))
      (pss_one (ps_ret pe_bl)), ?_⟩
    refine ⟨rfl, hT, fun H1 L ds e1 t1 hL hdl hds => ⟨L, rfl, ⟨_, SqL.of hL⟩, ?_⟩⟩
    refine for_list (K := K) (a := L) (xs := ds) (fun i σ G => ∃ y1 y2 y3 y4 : Option V, σ = [some (.ref a), y1, y2, y3, y4] ∧ ExtN H1 G ∧ Tabs T G) ?_ ?_ ?_ ?_
    · exact ⟨_, _, _, _, rfl, ExtN.refl _, t1⟩
    · rintro i σ G _ ⟨y1, y2, y3, y4, rfl, eG, tG⟩
      exact SqL.of (eG _ _ hL (fun _ z => nomatch z))
    · rintro i x σ G hi ⟨y1, y2, y3, y4, rfl, eG, tG⟩
      obtain ⟨g, rfl, dg⟩ := hds x (List.mem_of_getElem? hi)
      have aG : G a = some (.lst xs) := (e1.trans eG) _ _ hx (fun _ z => nomatch z)
      refine ⟨_, rfl, _, rfl, 1, rfl, a, xs, rfl, SqL.of aG, fun p1 np1 => ?_⟩
      have s1 := same_new (o := .lst (cutV xs none (some 1))) np1
      have h1 : upd G p1 (.lst (cutV xs none (some 1))) p1 = some (.lst (cutV xs none (some 1))) := upd_same
      generalize upd G p1 (.lst (cutV xs none (some 1))) = G1 at s1 h1 ⊢
      have sG1 : ExtN H1 G1 := eG.trans (ExtN.of s1)
      have hlen : xs.length + (cutV xs none (some 1)).length ≤ sizeLine := by
        have := len_cut (xs := xs) (lo := none) (hi := some 1)
        rw [sizeLine_eq]
        omega
      refine ⟨a, p1, xs, _, rfl, rfl, s1 _ _ aG, h1, hlen, fun p2 np2 => ?_⟩
      have s2 := same_new (o := .lst (xs ++ cutV xs none (some 1))) np2
      have h2 : upd G1 p2 (.lst (xs ++ cutV xs none (some 1))) p2 = some (.lst (xs ++ cutV xs none (some 1))) := upd_same
      generalize upd G1 p2 (.lst (xs ++ cutV xs none (some 1))) = G2 at s2 h2 ⊢
      have hz : ∀ z ∈ xs ++ cutV xs none (some 1), ∃ b, PlanV K G2 z b := fun z hm => by
        obtain ⟨b, hb⟩ := hp z ((List.mem_append.mp hm).elim id mem_cut)
        exact ⟨b, hb.ext ((e1.trans sG1).trans (ExtN.of s2))⟩
      have dg2 := dg.ext (sG1.trans (ExtN.of s2))
      have tG2 : Tabs T G2 := (tG.ext s1).ext s2
      have eG2 : ExtN H1 G2 := sG1.trans (ExtN.of s2)
      refine ⟨p2, rfl, ⟨_, SqL.of h2⟩, ?_⟩
      refine for_list (K := K) (a := p2) (xs := xs ++ cutV xs none (some 1)) (fun i σ J => ∃ y1 y2 y4 : Option V, σ = [some (.ref a), y1, y2, some (.ref g), y4] ∧ ExtN G2 J ∧ Tabs T J) ?_ ?_ ?_ ?_
      · exact ⟨_, _, _, rfl, ExtN.refl _, tG2⟩
      · rintro i σ J _ ⟨y1, y2, y4, rfl, eJ, tJ⟩
        exact SqL.of (eJ _ _ h2 (fun _ z => nomatch z))
      · rintro i z σ J hi ⟨y1, y2, y4, rfl, eJ, tJ⟩
        obtain ⟨b, hb2⟩ := hz z (List.mem_of_getElem? hi)
        have hb := hb2.ext eJ
        refine ⟨_, rfl, z, b, rfl, hb, fun J1 pf sJ1 hpf => ?_⟩
        obtain ⟨d, hd, hsd, heq⟩ := fault_dataL (K := K) hpf
        refine ⟨_, rfl, (by show 0 ≤ sizeLine; decide), fun pe ne => ?_⟩
        have se := same_new (o := .lst []) ne
        have he : upd J1 pe (.lst []) pe = some (.lst []) := upd_same
        generalize upd J1 pe (.lst []) = J2 at se he ⊢
        refine ⟨d, .list [], dp_same se _ _ hd, .lst (SqL.of he) .nil, hsd, by decide, ?_⟩
        rw [heq]
        have hpf2 := se _ _ hpf
        have s02 := sJ1.trans se
        refine ⟨!b.good, rfl, ?_⟩
        cases eb : b.good
        rw [eb] at hpf2
        refine ite2 (fun _ => ?_) (fun z => absurd rfl z)
        refine ⟨_, rfl, pf, _, 0, vIdx b, rfl, rfl, SqL.of hpf2, rfl, vIdx b, vTxt b, rfl, rep_verd (planV_small hb), (by show 2 ≤ sizeLine; decide), fun u nu => ?_⟩
        have su := s02.trans (same_new (o := .tup [.int 0, .str (vTxt b)]) nu)
        have hu3 : upd J2 u (.tup [.int 0, .str (vTxt b)]) u = some (.tup (dueV (dueB 0 b))) := by
          rw [upd_same]
          unfold dueB
          rw [if_neg (fun z => by rw [eb] at z; cases z)]
          rfl
        generalize upd J2 u (.tup [.int 0, .str (vTxt b)]) = J3 at su hu3 ⊢
        rotate_left
        refine ite2 (fun z => nomatch z) (fun _ => ?_)
        refine ⟨(by show 2 ≤ sizeLine; decide), fun u nu => ?_⟩
        have su := s02.trans (same_new (o := .tup [.str "told", .str ""]) nu)
        have hu3 : upd J2 u (.tup [.str "told", .str ""]) u = some (.tup (dueV (dueB 0 b))) := by
          rw [upd_same]
          unfold dueB
          rw [if_pos eb]
          rfl
        generalize upd J2 u (.tup [.str "told", .str ""]) = J3 at su hu3 ⊢
        all_goals
          refine ⟨tJ.ext su, fun fl c' J4 x4 _ t4 _ o4 d4 => ?_⟩
          dsimp only [tNil]
          have e4 : ExtN J J4 := (ExtN.of su).trans x4
          have hu4 : J4 u = some (.tup (dueV (dueB 0 b))) := x4 _ _ hu3 (fun _ z => nomatch z)
          refine caught_plan (v := z) (b := b) h0 o4 d4 (lok_of (N := ["_law_door", "_law_thing"]) (show NScope ["_law_door", "_law_thing"] [] ["_law_door", "_law_thing"] lamAS from nscope_by (by decide +kernel)) (fun pm ctv us hus => ?_) (fun ws vs H Q E h => ?_) (fun A outer s H vs ws Q E hr _ _ _ h => ?_)) (dg2.ext (eJ.trans e4)) (hb.ext e4) (fun J5 u5 s5 h5 => ?_)
          · match us, hus with
            | [], _ => rfl
          · obtain ⟨g, v, rfl, rfl, _⟩ := h
            rfl
          · obtain ⟨g', v', rfl, rfl, ⟨F', eb', hcl, hg', hc', Lk'⟩, hsp⟩ := h
            refine ⟨_, pe_callLS (i := 0) (ws := []) Lk' (by rw [hcl]; exact cells_nil) rfl hr (fun σ => passAt (takes_of rfl rfl rfl rfl) σ) rfl (by first | exact .inl rfl | exact .inr (.inl rfl) | exact .inr (.inr rfl)) (pa_cons (pv 1) pa_nil), ?_⟩
            exact ⟨rfl, hg', _, rfl, hg', hc', hsp⟩
          · have ok := dueB_ok (k := 0) (b := b) (by decide)
            refine ⟨_, rfl, dueD (dueB 0 b), dueD (dueB 0 b), due_dp h5, due_dp (s5 _ _ hu4), due_shaped ok, due_shaped ok, false, by rw [due_eqv ok]; rfl, ?_⟩
            exact ⟨_, _, _, rfl, eJ.trans (e4.trans (ExtN.of s5)), t4.ext s5⟩
      · rintro σ J ⟨y1, y2, y4, rfl, eJ, tJ⟩
        exact ⟨_, _, _, _, rfl, eG2.trans eJ, tJ⟩
    · rintro σ G ⟨y1, y2, y3, y4, rfl, eG, tG⟩
      exact q G (e1.trans eG) tG
end
end KS
namespace KS
open PySem PySem.Spec PyProof.Rows L2 RZ
abbrev sFault : Stmt := topS 72
abbrev nFault : List Str := ["_law_thing", "_law_size", "_law_at", "_law_one"]
theorem scFaultV : FnScope nFault ["_law_thing", "_law_size"] (defScope sFault) := ⟨rfl, rfl, rfl, by decide +kernel, rfl, by decide +kernel, by decide +kernel⟩
section
variable {P : Program} {w : World} {K : PySem.W.Frag} {mg : Str → Option Value} {base : Heap}
theorem ok_vfG {f : Addr} {fd : FuncData} (F : Fun K "_law_values_fault" "_law_values_fault" sFault f fd)
    (mi : mg "isinstance" = none) (mT : mg "tuple" = none) (ml : mg "len" = none) (me : mg "enumerate" = none) (mI : mg "int" = none) (mB : mg "bool" = none) : FnOk P w K mg base CX0 1 f fd ["_law_thing", "_law_size"] (spVFault K) := by
  refine F.ok scFaultV (fun vs H Q E h => ?_) (fun cdv A outer s H vs Q E hr h => ?_)
  · obtain ⟨n, v, b, rfl, _⟩ := h
    rfl
  · obtain ⟨n, v, b, rfl, hv, q⟩ := h
    have nd := scFaultV.nd
    refine ⟨_, pss_cons (ps_if (PW.pt (pw_or (pt_not (pt_val (pe_callB call_isi (by rfl) mi (by decide +kernel) (pa_cons (pv 0) (pa_cons (pe_bltn (v := .ty "tuple") (by rfl) mT (by decide +kernel) rfl) pa_nil)))))
          (pw_or1 (pt_cmpR op_ne (pe_callB call_len_seq (by rfl) ml PySem.boot_len (pa_cons (pv 0) pa_nil)) (pv 1) (nomark _)))))
        (pss_one (ps_ret (pe_lst (pa_cons pe_non pa_nil)))) pss_nil)
      (pss_cons (ps_for PassesOwn.never rfl (pi_enumT (by rfl) me (pa_cons (pv 0) pa_nil)) (pg_tup (by rfl) (pgs_cons (pg_name (i := 2) nd rfl (.inl rfl)) (pgs_cons (pg_name (i := 3) nd rfl (.inl rfl)) pgs_nil)))
        (pss_one (ps_if (PW.pt (pw_or (pt_not (pt_val (pe_callB call_isi (by rfl) mi (by decide +kernel) (pa_cons (pv 3) (pa_cons (pe_bltn (v := .ty "int") (by rfl) mI (by decide +kernel) rfl) pa_nil)))))
          (pw_or (pt_val (pe_callB call_isi (by rfl) mi (by decide +kernel) (pa_cons (pv 3) (pa_cons (pe_bltn (v := .ty "bool") (by rfl) mB (by decide +kernel) rfl) pa_nil))))
          (pw_or (pt_not (pt_chain op_lt op_lt pe_int (pv 3) pe_int))
          (pw_or1 (pt_cmpR op_in_seq (pv 3) (pe_slice sl_tup (pv 0) po_none (po_some (pv 2))) (by rfl))))))) (pss_one (ps_ret (pe_lst (pa_cons (pv 2) pa_nil)))) pss_nil)))
      (pss_one (ps_ret (pe_lst pa_nil)))), ?_⟩
    rcases hv.split with ⟨rfl, hn⟩ | ⟨a, xs, rs, rfl, hx, hl, he, tw⟩
    · have go : 1 ≤ sizeLine ∧ ∀ u, H u = none → Q (.ref u) (upd H u (.lst [.non])) := ⟨by decide, fun u nu => q _ u (same_new nu) upd_same⟩
      rcases hn with ⟨t, ho, ne⟩ | ⟨a, xs, rfl, hx, ne⟩
      · refine ⟨_, rfl, v, _, _, _, _, rfl, .ty "tuple", ho.ty, kit_tuple ho, _, rfl, ?_⟩
        rw [decide_eq_false ne]
        exact go
      · refine ⟨_, rfl, _, _, _, _, true, rfl, .ty "tuple", tyx_tup hx, kit_ty (by decide +kernel), true, rfl, ?_⟩
        refine ⟨_, rfl, a, _, rfl, .inr hx, _, rfl, rfl, true, ?_, ?_⟩
        · have : decide (V.int ((xs.length : Nat) : Int) = V.int ((n : Nat) : Int)) = false := decide_eq_false fun z => ne (by have := V.int.inj z; omega)
          rw [this]
          rfl
        · exact go
    · have hlen := Paired.length he
      refine ⟨_, rfl, _, _, _, _, true, rfl, .ty "tuple", tyx_tup hx, kit_ty (by decide +kernel), true, rfl, ?_⟩
      refine ⟨_, rfl, a, _, rfl, .inr hx, _, rfl, rfl, false, ?_, ?_⟩
      · rw [hl]
        simp
      refine ⟨_, rfl, a, _, rfl, hx, for_enumT (K := K) (a := a) (xs := xs) (fun i σ H' => Same H H' ∧ OkV rs i ∧ ∃ y1 y2, σ = [some (.ref a), some (.int n), y1, y2]) ?_ ?_ ?_ ?_⟩
      · exact ⟨Same.refl _, fun j hj => absurd hj (Nat.not_lt_zero _), none, none, rfl⟩
      · rintro i σ H' _ ⟨sm, _⟩
        exact same_seqT sm hx
      · rintro i x σ H' T hi ⟨sm, ok, y1, y2, rfl⟩ nT
        have hil := (List.getElem?_eq_some_iff.mp hi).1
        obtain ⟨o, hoi, hox⟩ := paired_get he hi
        have sT := same_new (o := .tup [.int (i : Nat), x]) nT
        have s2 := sm.trans sT
        have fail : BadV rs i → ∀ H2 : Hp, Same H H2 → 1 ≤ sizeLine ∧ ∀ u, H2 u = none → Q (.ref u) (upd H2 u (.lst [.int ((i : Nat) : Int)])) := fun bad H2 s3 => by
          have eb := tw.bad ok bad
          subst eb
          exact ⟨by decide, fun u nu => q _ u (s3.trans (same_new nu)) upd_same⟩
        refine ⟨T, _, rfl, SqT.of upd_same, rfl, _, _, rfl, _, _, rfl, rfl, ?_⟩
        cases o with
        | none =>
          have bad : BadV rs i := .inl hoi
          have hox : BwR K H x 1 9999 false := hox
          rcases hox with ⟨j, rfl, hj⟩ | ⟨t, ho, ne⟩
          · refine ⟨_, rfl, _, _, _, _, true, rfl, .ty "int", .base (.int j), kit_ty (by decide +kernel), true, rfl, ?_⟩
            refine ⟨_, rfl, _, _, _, _, false, rfl, .ty "bool", .base (.int j), kit_ty (by decide +kernel), false, rfl, ?_⟩
            refine ⟨_, rfl, _, _, rfl, rfl, _, rfl, ite2 (fun e => ?_) (fun e => ?_)⟩
            · have e' : (0 : Int) < j := of_decide_eq_true e
              refine ⟨_, _, rfl, rfl, false, bl_false (show ¬ j < 10000 by omega), ?_⟩
              exact ⟨_, rfl, fail bad _ s2⟩
            · refine ⟨false, rfl, ?_⟩
              exact ⟨_, rfl, fail bad _ s2⟩
          · have ho := ho.same s2
            refine ⟨_, rfl, x, _, _, _, _, rfl, .ty "int", ho.ty, kit_int ho, _, rfl, ?_⟩
            by_cases c : t = "bool"
            · rw [decide_eq_true (show t = "int" ∨ t = "bool" from .inr c)]
              refine ⟨_, rfl, x, _, _, _, _, rfl, .ty "bool", ho.ty, kit_bool ho, true, by rw [decide_eq_true c], ?_⟩
              exact ⟨_, rfl, fail bad _ s2⟩
            · rw [decide_eq_false (show ¬ (t = "int" ∨ t = "bool") from fun z => z.elim ne c)]
              exact ⟨_, rfl, fail bad _ s2⟩
        | some v =>
          obtain ⟨rfl, v1, v2⟩ := hox
          refine ⟨_, rfl, _, _, _, _, true, rfl, .ty "int", .base (.int v), kit_ty (by decide +kernel), true, rfl, ?_⟩
          refine ⟨_, rfl, _, _, _, _, false, rfl, .ty "bool", .base (.int v), kit_ty (by decide +kernel), false, rfl, ?_⟩
          refine ⟨_, rfl, _, _, rfl, rfl, true, bl_true (show (0 : Int) < v by omega), _, _, rfl, rfl, true, bl_true (show v < 10000 by omega), ?_⟩
          refine ⟨_, rfl, _, rfl, _, rfl, _, rfl, a, _, rfl, same_seqT s2 hx, cut_not hil, fun S nS => ?_⟩
          have sS := same_new (o := .tup (cutV xs none (some (i : Int)))) nS
          obtain ⟨is, e1, e2⟩ := okV_take he ok
          rw [cut_take (by omega), e1] at sS
          refine ⟨S, _, rfl, .inr (SqT.of upd_same), rfl, ?_, ?_⟩
          · rw [cut_take (by omega), e1]
            exact flat_ints _
          rw [cut_take (by omega), e1]
          by_cases c : v ∈ is
          · refine ⟨true, ?_, ?_⟩
            · show V.bl (inV (.int v) (is.map V.int)) = V.bl true
              rw [in_ints, decide_eq_true c]
            obtain ⟨k, k1, k2⟩ := (seen_iff e2).mp c
            exact ⟨_, rfl, fail (.inr ⟨v, k, hoi, k1, k2⟩) _ (s2.trans sS)⟩
          · refine ⟨false, ?_, ?_⟩
            · show V.bl (inV (.int v) (is.map V.int)) = V.bl false
              rw [in_ints, decide_eq_false c]
            exact ⟨s2.trans sS, okV_succ ok hoi (fun k hk z => c ((seen_iff e2).mpr ⟨k, hk, z⟩)), _, _, rfl⟩
      · rintro σ H' ⟨sm, ok, _⟩
        rw [hlen] at ok
        have g := tw.ok ok
        refine ⟨(by show 0 ≤ sizeLine; decide), fun u nu => ?_⟩
        refine q _ u (sm.trans (same_new nu)) ?_
        rw [upd_same, if_pos g]
end
end KS
/-! the law's own: plans and fillings at all doors -/
namespace KS
open PySem PySem.Spec PyProof.Rows L2 LamX NdefX
abbrev sPrsR05 : Stmt := topS 79
abbrev nPrsR : List Str := ["_law_pairs", "_law_fault", "_law_due", "_law_door", "_law_some", "_law_thing"]
theorem scPrsR : FnScope nPrsR ["_law_pairs"] (defScope sPrsR05) := ⟨rfl, rfl, rfl, by decide +kernel, rfl, by decide +kernel, by decide +kernel⟩
def lamQR : Str := (envOfC "_law_pairs_right" (defScope sPrsR05) 0 0 .none).qual ++ "<lambda>"
abbrev lamBN : List (Str × NameKind) := [(Str.ofString "_law_door", .free), (Str.ofString "_law_some", .free), (Str.ofString "_law_thing", .free)]
abbrev lamBS : Scope := { kind := .function, names := lamBN, isGenerator := false, isCoroutine := false }
abbrev frB : List Str := ["_law_door", "_law_some", "_law_thing"]
/-- a filling that is worth c for a plan -/
def FilP (K : PySem.W.Frag) (H : Hp) (v u : V) (c : Verd) : Prop := ∃ a cs, v = .ref a ∧ PlanAt K H a cs ∧ Good cs ∧ cs.length ≤ 24 ∧ FilV K H cs.length u c
theorem FilP.ext {K : PySem.W.Frag} {H H' : Hp} {v u : V} {c : Verd} (e : ExtN H H') (h : FilP K H v u c) : FilP K H' v u c := by
  obtain ⟨a, cs, e1, h1, h2, h3, h4⟩ := h
  exact ⟨a, cs, e1, h1.kt (ktN e), h2, h3, h4.ext e⟩
/-- a pair of what may be a plan and what may be a filling -/
def PairW (K : PySem.W.Frag) (H : Hp) (x : V) : Prop := ∃ (p : Addr) (v u : V) (b c : Verd), x = .ref p ∧ SqT K H p [v, u] ∧ PlanV K H v b ∧ (b.good = true → FilP K H v u c)
theorem PairW.ext {K : PySem.W.Frag} {H H' : Hp} {x : V} (e : ExtN H H') (h : PairW K H x) : PairW K H' x := by
  obtain ⟨p, v, u, b, c, e1, h1, h2, h3⟩ := h
  exact ⟨p, v, u, b, c, e1, ktN e _ _ h1, h2.ext e, fun z => (h3 z).ext e⟩
def dueP (b c : Verd) : Option (Nat × Str) := if b.good = true then dueB 2 c else dueB 0 b
theorem dueP_ok {b c : Verd} : ∀ j x, dueP b c = some (j, x) → j < 100 ∧ OkS x := fun j x e => by
  unfold dueP at e
  split at e
  · exact dueB_ok (by decide) j x e
  · exact dueB_ok (by decide) j x e
def spPairsR (T : List (Addr × Str)) (K : PySem.W.Frag) : Sp := fun vs H Q _ => ∃ (a : Addr) (xs : List V), vs = [.ref a] ∧ H a = some (.lst xs) ∧ xs.length ≤ 24 ∧ Tabs T H ∧ (∀ x ∈ xs, PairW K H x) ∧ ∀ H', ExtN H H' → Tabs T H' → Q (.bl true) H'
section
variable {P : Program} {w : World} {K : PySem.W.Frag} {mg : Str → Option Value} {base : Heap} {cs bs : Nat → Addr}
def spAct2 (P : Program) (w : World) (K : PySem.W.Frag) (mg : Str → Option Value) (base : Heap) (C CF : Addr) : List (Option V) → Sp := fun ws vs H Q E => ∃ (g : Addr) (v u : V), ws = [some (.ref g), some u, some v] ∧ vs = [] ∧ DoorL P w K mg base 11 ["_law_thing", "_law_some"] (spFD K C CF NoR) H g ∧ spFD K C CF NoR [v, u] H Q E
theorem caught_pair {H : Hp} {fl g : Addr} {F : NF} {eb : Expr} {v u : V} {b c : Verd} {Q : VK} {E : XK} (h0 : ClsQ K cs bs 0) (h2 : ClsQ K cs bs 2) (e5 : H fl = some (LamO fl F eb)) (e6 : H F.c = some (CodeO F.c F.qual)) (Lk : LOk P w K mg base (L2.CX P w) 12 fl F eb [] frB (spAct2 P w K mg base (cs 0) (cs 2)))
    (hd : DoorL P w K mg base 11 ["_law_thing", "_law_some"] (spFD K (cs 0) (cs 2) NoR) H g) (hp : PlanV K H v b) (hf : b.good = true → FilP K H v u c) (q : ∀ H' p, Same H H' → H' p = some (.tup (dueV (dueP b c))) → Q (.ref p) H') :
    spCaught P w K mg base 12 cs bs F.cl frB [some (.ref g), some u, some v] [.ref fl] H Q E := by
  refine ⟨fl, F, eb, _, rfl, rfl, e5, e6, Lk, ?_⟩
  cases e : b.good with
  | true =>
    have ff := hf e
    obtain ⟨a, ds, ev, f1, f2, f3, f4⟩ := id ff
    cases e2 : c.good with
    | true =>
      refine .inl ⟨fun Q' E' k => ⟨g, v, u, rfl, rfl, hd, v, u, [], b, c, rfl, rfl, hp, fun _ => ff, fun _ _ => k, fun z => (by rw [e] at z; cases z), fun _ z => (by rw [e2] at z; cases z)⟩, fun H' p s1 hp' => q H' p s1 ?_⟩
      unfold dueP dueB
      rw [if_pos e, if_pos e2]
      exact hp'
    | false =>
      refine .inr ⟨2, vIdx c, vTxt c, by decide, h2, rep_verd (filV_small f4 f3), fun Q' E' k => ⟨g, v, u, rfl, rfl, hd, v, u, [], b, c, rfl, rfl, hp, fun _ => ff, fun _ z => (by rw [e2] at z; cases z), fun z => (by rw [e] at z; cases z), fun _ _ => k⟩, fun H' p s1 hp' => q H' p s1 ?_⟩
      unfold dueP dueB
      rw [if_pos e, if_neg (fun z => by rw [e2] at z; cases z)]
      exact hp'
  | false =>
    refine .inr ⟨0, vIdx b, vTxt b, by decide, h0, rep_verd (planV_small hp), fun Q' E' k => ⟨g, v, u, rfl, rfl, hd, v, u, [], b, c, rfl, rfl, hp, fun z => (by rw [e] at z; cases z), fun z => (by rw [e] at z; cases z), fun _ => k, fun z => (by rw [e] at z; cases z)⟩, fun H' p s1 hp' => q H' p s1 ?_⟩
    unfold dueP dueB
    rw [if_neg (fun z => by rw [e] at z; cases z), if_neg (fun z => by rw [e] at z; cases z)]
    exact hp'
theorem ok_pairsR {T : List (Addr × Str)} {f c Pt fD fF fV fC : Addr} {fd fdD fdF fdV fdC : FuncData} (F : FunC K "_law_pairs_right" "_law_pairs_right" sPrsR05 f c fd) (TB : TabB base mg c Pt) (hm : (Pt, lamQR) ∈ T) (hu : ∀ p ∈ T, p.1 = Pt → p.2 = lamQR) (h0 : ClsQ K cs bs 0) (h2 : ClsQ K cs bs 2)
    (GD : FnOk P w K mg base CX0 1 fD fdD [] (spDoors T P w K mg base 11 ["_law_thing", "_law_some"] (spFD K (cs 0) (cs 2) NoR))) (bD : Binds K fdD [] []) (gD : mg "_law_both_doors" = some (.ref fD)) (kD : PySem.W.keepIn K (.ref fD) = true)
    (GF : FnOk P w K mg base CX0 2 fF fdF ["_law_thing"] (spFault K)) (bF : Binds K fdF ["_law_thing"] []) (gF : mg "_law_plan_fault" = some (.ref fF)) (kF : PySem.W.keepIn K (.ref fF) = true)
    (GV : FnOk P w K mg base CX0 1 fV fdV ["_law_thing", "_law_size"] (spVFault K)) (bV : Binds K fdV ["_law_thing", "_law_size"] []) (gV : mg "_law_values_fault" = some (.ref fV)) (kV : PySem.W.keepIn K (.ref fV) = true)
    (GC : FnGC P w K mg base 14 fC fdC ["_law_act"] (spCaught P w K mg base 12 cs bs)) (bC : Binds K fdC ["_law_act"] []) (gC : mg "_law_caught" = some (.ref fC)) (kC : PySem.W.keepIn K (.ref fC) = true)
    (mR : mg "repr" = none) (ml : mg "len" = none) : FnG P w K mg base 15 f fd ["_law_pairs"] (spPairsR T K) := by
  refine okGF F scPrsR (fun vs H Q E h => ?_) (fun A outer s H vs Q E hr hgd h => ?_)
  · obtain ⟨a, xs, rfl, _⟩ := h
    rfl
  · obtain ⟨a, xs, rfl, hx, hl, hT, hp, q⟩ := h
    have nd := scPrsR.nd
    have hr1 : Room 1 _ := hr.mono (by decide)
    have hr2 : Room 2 _ := hr.mono (by decide)
    have hun := hr.un
    have hu100 : (A.deeper (envOfC "_law_pairs_right" (defScope sPrsR05) s.heap.objs.size f (.ref c))).units + 100 < cLine := by omega
    have cell : ∀ y ∈ lamBN, y.2 = .free → (defScope sPrsR05).names.lookup y.1 = some .cell := by decide +kernel
    refine ⟨_, pss_cons (ps_for PassesOwn.never rfl (pi_list (pe_call0 GD hr1 (by rfl) gD kD bD .nil pass0)) (pg_name (i := 3) nd rfl (.inr rfl))
        (pss_one (ps_for PassesOwn.never rfl (pi_list (pe_op op_cat (pv 0) (pe_slice sl_list (pv 0) po_none (po_some pe_int)))) (pg_tup (by rfl) (pgs_cons (pg_name (i := 5) nd rfl (.inr rfl)) (pgs_cons (pg_name (i := 4) nd rfl (.inr rfl)) pgs_nil)))
          (pss_cons (ps_set (i := 1) nd rfl (.inl rfl) (pe_call GF hr2 (by rfl) gF kF bF .nil pass0 (pa_cons (pv 5) pa_nil)))
          (pss_cons (ps_set (i := 2) nd rfl (.inl rfl) (pe_ifExp (pt_cmpR (op_neD hr.units) (pv 1) (pe_lst pa_nil) (nomark _))
            (pe_tup (pa_cons pe_int (pa_cons (pe_callB (call_reprA hgd hu100) (by rfl) mR (by decide +kernel) (pa_cons (pe_ix ix_list (pv 1) pe_int (fun _ _ => rfl)) pa_nil)) pa_nil)))
            (pe_tup (pa_cons pe_str (pa_cons pe_str pa_nil)))))
          (pss_cons (ps_if (pt_cmpR (op_eqD hr.units) (pv 1) (pe_lst pa_nil) (nomark _))
            (pss_cons (ps_set (i := 1) nd rfl (.inl rfl) (pe_call GV hr1 (by rfl) gV kV bV .nil pass0 (pa_cons (pv 4) (pa_cons (pe_callB call_len_seq (by rfl) ml PySem.boot_len (pa_cons (pv 5) pa_nil)) pa_nil))))
            (pss_one (ps_set (i := 2) nd rfl (.inl rfl) (pe_ifExp (pt_cmpR (op_neD hr.units) (pv 1) (pe_lst pa_nil) (nomark _))
              (pe_tup (pa_cons pe_int (pa_cons (pe_callB (call_reprA hgd hu100) (by rfl) mR (by decide +kernel) (pa_cons (pe_ix ix_list (pv 1) pe_int (fun _ _ => rfl)) pa_nil)) pa_nil)))
              (pv 2))))) pss_nil)
          (pss_one (ps_if (pt_cmpR (op_neD hr.units) (pe_callGM (js := [3, 4, 5]) (fr := frB) GC
              (fun ok => Caps.made (scope := lamBS) ok (fun y hy e => .inl (cell y hy e)) (by decide +kernel) rfl)
              hr hgd (by rfl) gC kC bC (pa_cons (pe_lamV TB rfl hm hu rfl (fun y hy e => .inl (cell y hy e))) pa_nil)) (pv 2) (nomark _))
            (pss_one (ps_ret pe_bl)) pss_nil))))))))
      (pss_one (ps_ret pe_bl)), ?_⟩
    refine ⟨rfl, hT, fun H1 L ds e1 t1 hL hdl hds => ⟨L, rfl, ⟨_, SqL.of hL⟩, ?_⟩⟩
    refine for_list (K := K) (a := L) (xs := ds) (fun i σ G => ∃ y1 y2 y3 y4 y5 : Option V, σ = [some (.ref a), y1, y2, y3, y4, y5] ∧ ExtN H1 G ∧ Tabs T G) ?_ ?_ ?_ ?_
    · exact ⟨_, _, _, _, _, rfl, ExtN.refl _, t1⟩
    · rintro i σ G _ ⟨y1, y2, y3, y4, y5, rfl, eG, tG⟩
      exact SqL.of (eG _ _ hL (fun _ z => nomatch z))
    · rintro i x σ G hi ⟨y1, y2, y3, y4, y5, rfl, eG, tG⟩
      obtain ⟨g, rfl, dg⟩ := hds x (List.mem_of_getElem? hi)
      have aG : G a = some (.lst xs) := (e1.trans eG) _ _ hx (fun _ z => nomatch z)
      refine ⟨_, rfl, _, rfl, 1, rfl, a, xs, rfl, SqL.of aG, fun p1 np1 => ?_⟩
      have s1 := same_new (o := .lst (cutV xs none (some 1))) np1
      have h1 : upd G p1 (.lst (cutV xs none (some 1))) p1 = some (.lst (cutV xs none (some 1))) := upd_same
      generalize upd G p1 (.lst (cutV xs none (some 1))) = G1 at s1 h1 ⊢
      have sG1 : ExtN H1 G1 := eG.trans (ExtN.of s1)
      have hlen : xs.length + (cutV xs none (some 1)).length ≤ sizeLine := by
        have := len_cut (xs := xs) (lo := none) (hi := some 1)
        rw [sizeLine_eq]
        omega
      refine ⟨a, p1, xs, _, rfl, rfl, s1 _ _ aG, h1, hlen, fun p2 np2 => ?_⟩
      have s2 := same_new (o := .lst (xs ++ cutV xs none (some 1))) np2
      have h2' : upd G1 p2 (.lst (xs ++ cutV xs none (some 1))) p2 = some (.lst (xs ++ cutV xs none (some 1))) := upd_same
      generalize upd G1 p2 (.lst (xs ++ cutV xs none (some 1))) = G2 at s2 h2' ⊢
      have hz : ∀ z ∈ xs ++ cutV xs none (some 1), PairW K G2 z := fun z hm => by
        exact (hp z ((List.mem_append.mp hm).elim id mem_cut)).ext ((e1.trans sG1).trans (ExtN.of s2))
      have dg2 := dg.ext (sG1.trans (ExtN.of s2))
      have tG2 : Tabs T G2 := (tG.ext s1).ext s2
      have eG2 : ExtN H1 G2 := sG1.trans (ExtN.of s2)
      refine ⟨p2, rfl, ⟨_, SqL.of h2'⟩, ?_⟩
      refine for_list (K := K) (a := p2) (xs := xs ++ cutV xs none (some 1)) (fun i σ J => ∃ y1 y2 y4 y5 : Option V, σ = [some (.ref a), y1, y2, some (.ref g), y4, y5] ∧ ExtN G2 J ∧ Tabs T J) ?_ ?_ ?_ ?_
      · exact ⟨_, _, _, _, rfl, ExtN.refl _, tG2⟩
      · rintro i σ J _ ⟨y1, y2, y4, y5, rfl, eJ, tJ⟩
        exact SqL.of (eJ _ _ h2' (fun _ z => nomatch z))
      · rintro i z σ J hi ⟨y1, y2, y4, y5, rfl, eJ, tJ⟩
        obtain ⟨pz, v, u, b, cv, rfl, hpz, hb, hf⟩ := (hz z (List.mem_of_getElem? hi)).ext eJ
        refine ⟨pz, _, rfl, hpz, rfl, _, _, rfl, _, _, rfl, rfl, ?_⟩
        refine ⟨_, rfl, v, b, rfl, hb, fun J1 pf sJ1 hpf => ?_⟩
        obtain ⟨d, hd, hsd, heq⟩ := fault_dataL (K := K) hpf
        refine ⟨_, rfl, (by show 0 ≤ sizeLine; decide), fun pe ne => ?_⟩
        have se := same_new (o := .lst []) ne
        have he : upd J1 pe (.lst []) pe = some (.lst []) := upd_same
        generalize upd J1 pe (.lst []) = J2 at se he ⊢
        refine ⟨d, .list [], dp_same se _ _ hd, .lst (SqL.of he) .nil, hsd, by decide, ?_⟩
        rw [heq]
        have hpf2 := se _ _ hpf
        have s02 := sJ1.trans se
        refine ⟨!b.good, rfl, ?_⟩
        cases eb : b.good
        rw [eb] at hpf2
        refine ite2 (fun _ => ?_) (fun z => absurd rfl z)
        refine ⟨_, rfl, pf, _, 0, vIdx b, rfl, rfl, SqL.of hpf2, rfl, vIdx b, vTxt b, rfl, rep_verd (planV_small hb), (by show 2 ≤ sizeLine; decide), fun u1 nu1 => ?_⟩
        have su1 := same_new (o := .tup [.int 0, .str (vTxt b)]) nu1
        have hu1 : upd J2 u1 (.tup [.int 0, .str (vTxt b)]) u1 = some (.tup (dueV (dueP b cv))) := by
          rw [upd_same]
          unfold dueP dueB
          rw [if_neg (fun z => by rw [eb] at z; cases z), if_neg (fun z => by rw [eb] at z; cases z)]
          rfl
        generalize upd J2 u1 (.tup [.int 0, .str (vTxt b)]) = J2' at su1 hu1 ⊢
        refine ⟨_, rfl, (by show 0 ≤ sizeLine; decide), fun pe2 ne2 => ?_⟩
        have se2 := same_new (o := .lst []) ne2
        have he2 : upd J2' pe2 (.lst []) pe2 = some (.lst []) := upd_same
        have su := (s02.trans su1).trans se2
        have hu3 := se2 _ _ hu1
        have hd2 := dp_same ((se.trans su1).trans se2) _ _ hd
        generalize upd J2' pe2 (.lst []) = J3 at se2 he2 su hu3 hd2 ⊢
        refine ⟨d, .list [], hd2, .lst (SqL.of he2) .nil, hsd, by decide, false, by rw [heq, eb], ?_⟩
        refine ite2 (fun z => nomatch z) (fun _ => ?_)
        rotate_left
        refine ite2 (fun z => nomatch z) (fun _ => ?_)
        obtain ⟨va, ds', rfl, f1, f2, f3, f4⟩ := hf eb
        obtain ⟨vx, hvx, hvc⟩ := id f1
        have hvl : vx.length = ds'.length := Paired.length hvc
        refine ⟨(by show 2 ≤ sizeLine; decide), fun u1 nu1 => ?_⟩
        have su1 := same_new (o := .tup [.str "told", .str ""]) nu1
        have hu1 : upd J2 u1 (.tup [.str "told", .str ""]) u1 = some (.tup (dueV none)) := upd_same
        generalize upd J2 u1 (.tup [.str "told", .str ""]) = J2' at su1 hu1 ⊢
        refine ⟨_, rfl, (by show 0 ≤ sizeLine; decide), fun pe2 ne2 => ?_⟩
        have se2 := same_new (o := .lst []) ne2
        have he2 : upd J2' pe2 (.lst []) pe2 = some (.lst []) := upd_same
        have sv := (s02.trans su1).trans se2
        have hv3 := se2 _ _ hu1
        have hd2 := dp_same ((se.trans su1).trans se2) _ _ hd
        generalize upd J2' pe2 (.lst []) = J2'' at se2 he2 sv hv3 hd2 ⊢
        refine ⟨d, .list [], hd2, .lst (SqL.of he2) .nil, hsd, by decide, true, by rw [heq, eb], ?_⟩
        refine ite2 (fun _ => ?_) (fun z => absurd rfl z)
        refine ⟨_, rfl, _, rfl, va, vx, rfl, .inr (same_seqT sv hvx), ds'.length, u, cv, by rw [hvl]; rfl, f4.same sv, fun J5 pg s5 hpg => ?_⟩
        obtain ⟨d5, hd5, hsd5, heq5⟩ := fault_dataL (K := K) hpg
        refine ⟨_, rfl, (by show 0 ≤ sizeLine; decide), fun pe3 ne3 => ?_⟩
        have se3 := same_new (o := .lst []) ne3
        have he3 : upd J5 pe3 (.lst []) pe3 = some (.lst []) := upd_same
        generalize upd J5 pe3 (.lst []) = J6 at se3 he3 ⊢
        refine ⟨d5, .list [], dp_same se3 _ _ hd5, .lst (SqL.of he3) .nil, hsd5, by decide, ?_⟩
        rw [heq5]
        have hpg6 := se3 _ _ hpg
        have s06 := (sv.trans s5).trans se3
        have hv6 := se3 _ _ (s5 _ _ hv3)
        refine ⟨!cv.good, rfl, ?_⟩
        cases ec : cv.good
        rw [ec] at hpg6
        refine ite2 (fun _ => ?_) (fun z => absurd rfl z)
        refine ⟨_, rfl, pg, _, 0, vIdx cv, rfl, rfl, SqL.of hpg6, rfl, vIdx cv, vTxt cv, rfl, rep_verd (filV_small f4 f3), (by show 2 ≤ sizeLine; decide), fun u1 nu2 => ?_⟩
        have su := s06.trans (same_new (o := .tup [.int 2, .str (vTxt cv)]) nu2)
        have hu3 : upd J6 u1 (.tup [.int 2, .str (vTxt cv)]) u1 = some (.tup (dueV (dueP b cv))) := by
          rw [upd_same]
          unfold dueP dueB
          rw [if_pos eb, if_neg (fun z => by rw [ec] at z; cases z)]
          rfl
        generalize upd J6 u1 (.tup [.int 2, .str (vTxt cv)]) = J3 at su hu3 ⊢
        rotate_left
        refine ite2 (fun z => nomatch z) (fun _ => ?_)
        have su := s06
        have hu3 : J6 u1 = some (.tup (dueV (dueP b cv))) := by
          rw [hv6]
          unfold dueP dueB
          rw [if_pos eb, if_pos ec]
        refine ⟨_, rfl, ?_⟩
        all_goals
          refine ⟨tJ.ext su, fun fl c' J4 x4 _ t4 _ o4 d4 => ?_⟩
          dsimp only [tNil]
          have e4 : ExtN J J4 := (ExtN.of su).trans x4
          have hu4 : J4 u1 = some (.tup (dueV (dueP b cv))) := x4 _ _ hu3 (fun _ z => nomatch z)
          refine caught_pair (b := b) (c := cv) h0 h2 o4 d4 (lok_of (N := frB) (show NScope frB [] frB lamBS from nscope_by (by decide +kernel)) (fun pm ctv us hus => ?_) (fun ws vs H Q E h => ?_) (fun A outer s H vs ws Q E hr _ _ _ h => ?_)) (dg2.ext (eJ.trans e4)) (hb.ext e4) (fun z => (hf z).ext e4) (fun J5 u5 s5 h5 => ?_)
          · match us, hus with
            | [], _ => rfl
          · obtain ⟨g, v, u, rfl, rfl, _⟩ := h
            rfl
          · obtain ⟨g', v', u', rfl, rfl, ⟨F', eb', hcl, hg', hc', Lk'⟩, hsp⟩ := h
            refine ⟨_, pe_callLS (i := 0) (ws := []) Lk' (by rw [hcl]; exact cells_nil) rfl hr (fun σ => passAt (takes_of rfl rfl rfl rfl) σ) rfl (by first | exact .inl rfl | exact .inr (.inl rfl) | exact .inr (.inr rfl)) (pa_cons (pv 2) (pa_cons (pv 1) pa_nil)), ?_⟩
            exact ⟨rfl, hg', _, rfl, _, rfl, hg', hc', hsp⟩
          · have ok := dueP_ok (b := b) (c := cv)
            refine ⟨_, rfl, dueD (dueP b cv), dueD (dueP b cv), due_dp h5, due_dp (s5 _ _ hu4), due_shaped ok, due_shaped ok, false, by rw [due_eqv ok]; rfl, ?_⟩
            exact ⟨_, _, _, _, rfl, eJ.trans (e4.trans (ExtN.of s5)), t4.ext s5⟩
      · rintro σ J ⟨y1, y2, y4, y5, rfl, eJ, tJ⟩
        exact ⟨_, _, _, _, _, rfl, eG2.trans eJ, tJ⟩
    · rintro σ G ⟨y1, y2, y3, y4, y5, rfl, eG, tG⟩
      exact q G (e1.trans eG) tG
end
end KS
namespace KS
open PySem PySem.Spec PyProof.Rows L2
section
variable {K : PySem.W.Frag} {p : Addr} {H H' : Hp}
theorem BwR.keepX {v : V} {lo hi : Int} {b : Bool} (hp : PoolO (H p)) (hp' : PoolO (H' p)) (k : KeepX p H H') (h : BwR K H v lo hi b) : BwR K H' v lo hi b := by
  cases b with
  | true => exact h
  | false =>
    rcases h with h | ⟨t, h1, h2⟩
    · exact .inl h
    · exact .inr ⟨t, h1.keepX hp hp' k, h2⟩
theorem VlR.keepX {v : V} {o : Option Int} (hp : PoolO (H p)) (hp' : PoolO (H' p)) (k : KeepX p H H') (h : VlR K H v o) : VlR K H' v o := by
  cases o with
  | some i => exact h
  | none => exact BwR.keepX (lo := 1) (hi := 9999) (b := false) hp hp' k (show BwR K H v 1 9999 false from h)
theorem FilV.keepX {n : Nat} {v : V} {b : Verd} (hp : PoolO (H p)) (hp' : PoolO (H' p)) (k : KeepX p H H') (h : FilV K H n v b) : FilV K H' n v b := by
  cases b with
  | ok =>
    obtain ⟨a, xs, rs, e, h1, h2, h3, h4⟩ := h
    exact ⟨a, xs, rs, e, keepX_seqT hp k h1, h2, Paired.mono (fun _ _ q => q.keepX hp hp' k) h3, h4⟩
  | non =>
    rcases h with ⟨t, h1, h2⟩ | ⟨a, xs, e, h1, h2⟩
    · exact .inl ⟨t, h1.keepX hp hp' k, h2⟩
    · exact .inr ⟨a, xs, e, keepX_seqT hp k h1, h2⟩
  | «at» i =>
    obtain ⟨a, xs, rs, e, h1, h2, h3, h4, h5⟩ := h
    exact ⟨a, xs, rs, e, keepX_seqT hp k h1, h2, Paired.mono (fun _ _ q => q.keepX hp hp' k) h3, h4, h5⟩
end
def spBentV (K : PySem.W.Frag) : Sp := fun vs H Q _ => ∃ (p a : Addr) (n : Nat) (fs : List Int), vs = [.ref p, .ref a] ∧ PoolO (H p) ∧ SqT K H a (fs.map V.int) ∧ Vals9 n fs ∧ 1 ≤ n ∧ n ≤ 24 ∧
  ∀ H' v b, KeepX p H H' → PoolO (H' p) → FilV K H' n v b → Q v H'
abbrev tDr14 (ta : TE) : TE := tCall spDraw [] E0 (tCons (tVar 0) (tCons ta tNil))
abbrev tBendV (K : PySem.W.Frag) (i : Nat) : TE := tOp (rCatA K) (tOp (rCatA K) (tSl (rSlA K) (tVar i) tNoPart (tPart (tVar 2))) (tTup (tCons (tOp (rIxL K) (tVar 4) (tDr14 (tC (.int 14)))) tNil))) (tSl (rSlA K) (tVar i) (tPart (tOp (rI0 fun i j => .int (i + j)) (tVar 2) (tC (.int 1)))) tNoPart)
theorem bendV_ok {K : PySem.W.Frag} {i n : Nat} {σ : L2.St} {H : Hp} {Q : VK} {p u L : Addr} {ys odds : List V} {rs : List (Option Int)} (h0 : σ[0]? = some (some (.ref p))) (hi : σ[i]? = some (some (.ref u))) (h2 : σ[2]? = some (some (.int (n : Nat)))) (h4 : σ[4]? = some (some (.ref L)))
    (po : PoolO (H p)) (nLp : L ≠ p) (hu : SqT K H u ys) (he : Vls K H ys rs) (hn : n < ys.length) (hl : ys.length ≤ 24) (hL : H L = some (.lst odds)) (ho : odds.length = 14) (hodd : ∀ x ∈ odds, ∃ o, VlR K H x o)
    (k : ∀ H' u' ys' rs', KeepX p H H' → PoolO (H' p) → SqT K H' u' ys' → Vls K H' ys' rs' → ys'.length = ys.length → Q (.ref u') H') : tBendV K i σ H Q := by
  refine ⟨_, hi, _, h2, (n : Int), rfl, slTo_ok hu (Nat.le_of_lt hn) (fun A1 u1 sa hu1 => ?_)⟩
  refine ⟨_, h4, _, h0, p, 14, rfl, po.same sa, by decide, by decide, fun A2 r kb po2 r0 r1 => ?_⟩
  obtain ⟨x, hx, hat⟩ := pick_ok (items := odds) r0 (by omega)
  obtain ⟨o, hxo⟩ := hodd x hx
  have hx1 : VlR K A2 x o := (hxo.same sa).keepX (po.same sa) po2 kb
  refine ⟨L, odds, r, x, rfl, rfl, SqL.of (kb _ _ nLp (sa _ _ hL)), hat, (by show 1 ≤ sizeLine; decide), fun t1 nt1 => ?_⟩
  have sc := same_new (o := .tup [x]) nt1
  have ht1 : upd A2 t1 (.tup [x]) t1 = some (.tup [x]) := upd_same
  generalize upd A2 t1 (.tup [x]) = A3 at sc ht1 ⊢
  have hu1' : SqT K A3 u1 (ys.take n) := same_seqT sc (keepX_seqT (po.same sa) kb hu1)
  refine catA_ok hu1' (SqT.of ht1) (by
    rw [List.length_take]
    show min n ys.length + 1 ≤ 64
    omega) (fun A4 u2 sd hu2 => ?_)
  have kx4 : KeepX p H A4 := ((KeepX.of_same sa).trans kb).trans (.of_same (sc.trans sd))
  have po4 := po2.same (sc.trans sd)
  refine ⟨_, hi, _, h2, _, _, rfl, rfl, ((n : Int) + 1), rfl, ?_⟩
  have e1 : ((n : Int) + 1) = ((n + 1 : Nat) : Int) := by omega
  rw [e1]
  show rSlA K (V.ref u) (some ((n + 1 : Nat) : Int)) none A4 (fun y H2 => rCatA K (V.ref u2) y H2 Q)
  refine slFrom_ok (n := n + 1) (keepX_seqT po kx4 hu) hn (fun A5 u3 se hu3 => ?_)
  have hlen : (ys.take n ++ [x]).length + (ys.drop (n + 1)).length = ys.length := by
    rw [List.length_append, List.length_take, List.length_drop]
    show min n ys.length + 1 + (ys.length - (n + 1)) = ys.length
    omega
  refine catA_ok (same_seqT se hu2) hu3 (by omega) (fun A6 u4 sf hu4 => ?_)
  have kx6 : KeepX p H A6 := kx4.trans (.of_same (se.trans sf))
  have po6 := po4.same (se.trans sf)
  have he6 : Vls K A6 ys rs := Paired.mono (fun _ _ q => q.keepX po po6 kx6) he
  have hx6 : VlR K A6 x o := hx1.same (((sc.trans sd).trans se).trans sf)
  refine k A6 u4 _ ((rs.take n ++ [o]) ++ rs.drop (n + 1)) kx6 po6 hu4 ?_ ?_
  · exact paired_append (paired_append (paired_take n he6) (.cons hx6 .nil)) (paired_drop (n + 1) he6)
  · rw [List.length_append]
    exact hlen
abbrev sBentV : Stmt := topS 73
abbrev nBentV : List Str := ["_law_pool_here", "_law_some", "_law_at", "_law_mode", "_law_odd", "_law_others", "_law_bent"]
theorem scBentV : FnScope nBentV ["_law_pool_here", "_law_some"] (defScope sBentV) := ⟨rfl, rfl, rfl, by decide +kernel, rfl, by decide +kernel, by decide +kernel⟩
section
variable {P : Program} {w : World} {K : PySem.W.Frag} {mg : Str → Option Value} {base : Heap}
theorem ok_bentV {f fD : Addr} {fd fdD : FuncData} (F : Fun K "_law_bent_values" "_law_bent_values" sBentV f fd) (GD : FnOk P w K mg base CX0 1 fD fdD ["_law_pool_here", "_law_most"] spDraw)
    (bD : Binds K fdD ["_law_pool_here", "_law_most"] []) (gD : mg "_law_draw" = some (.ref fD)) (kD : PySem.W.keepIn K (.ref fD) = true)
    (ml : mg "len" = none) (mL : mg "list" = none) : FnOk P w K mg base CX0 2 f fd ["_law_pool_here", "_law_some"] (spBentV K) := by
  refine F.ok scBentV (fun vs H Q E h => ?_) (fun cdv A outer s H vs Q E hr h => ?_)
  · obtain ⟨p, a, n, fs, rfl, _⟩ := h
    rfl
  · obtain ⟨p, a, m, fs, rfl, po, hx0, v9, m1, m24, q⟩ := h
    have nd := scBentV.nd
    refine ⟨_, pss_cons (ps_par (i := 2) (j := 3) (by rfl) nd rfl rfl (by decide) rfl rfl
        (pa_cons (pe_call GD hr (by rfl) gD kD bD .nil pass0 (pa_cons (pv 0) (pa_cons (pe_callB call_len_seq (by rfl) ml PySem.boot_len (pa_cons (pv 1) pa_nil)) pa_nil)))
          (pa_cons (pe_call GD hr (by rfl) gD kD bD .nil pass0 (pa_cons (pv 0) (pa_cons pe_int pa_nil))) pa_nil)) (by rfl))
      (pss_cons (ps_set (i := 4) nd rfl (.inl rfl) (pe_lst (pa_cons pe_int (pa_cons pe_int (pa_cons (pe_op op_sub pe_int pe_int) (pa_cons pe_bl (pa_cons pe_bl (pa_cons pe_non (pa_cons pe_str (pa_cons (pe_tup (pa_cons pe_int pa_nil)) (pa_cons (pe_lst pa_nil) (pa_cons pe_dnewK
          (pa_cons (pe_op op_pow pe_int pe_int) (pa_cons (pe_ix ix_tup (pv 1) pe_int (fun _ _ => rfl)) (pa_cons pe_int (pa_cons pe_int pa_nil))))))))))))))))
      (pss_cons (ps_if (pt_cmpR op_eq (pv 3) pe_int (nomark _)) (pss_cons (ps_set (i := 5) nd rfl (.inl rfl) (pe_lst (pa_cons pe_non (pa_cons pe_int (pa_cons pe_bl (pa_cons pe_str (pa_cons (pe_tup pa_nil) (pa_cons (pe_lst pa_nil) (pa_cons pe_dnewK
            (pa_cons (pe_callTy call_list_of (by rfl) mL (by decide +kernel) (pa_cons (pv 1) pa_nil)) (pa_cons (pe_tup (pa_cons (pv 1) pa_nil)) (pa_cons (pe_op op_catA (pv 1) (pe_tup (pa_cons pe_int pa_nil))) (pa_cons (pe_slice sl_tupA (pv 1) (po_some pe_int) po_none) (pa_cons (pe_op op_repT (pv 1) pe_int) pa_nil))))))))))))))
          (pss_one (ps_ret (pe_ix ix_list (pv 5) (pe_call GD hr (by rfl) gD kD bD .nil pass0 (pa_cons (pv 0) (pa_cons pe_int pa_nil))) (fun _ _ => rfl))))) pss_nil)
      (pss_cons (ps_if (pt_cmpR op_eq (pv 3) pe_int (nomark _)) (pss_one (ps_ret (pv 1))) pss_nil)
      (pss_cons (ps_set (i := 6) nd rfl (.inl rfl) (pe_op op_catA (pe_op op_catA (pe_slice sl_tupA (pv 1) po_none (po_some (pv 2)))
          (pe_tup (pa_cons (pe_ix ix_list (pv 4) (pe_call GD hr (by rfl) gD kD bD .nil pass0 (pa_cons (pv 0) (pa_cons pe_int pa_nil))) (fun _ _ => rfl)) pa_nil))) (pe_slice sl_tupA (pv 1) (po_some (pe_op op_add (pv 2) pe_int)) po_none)))
      (pss_cons (ps_if (pt_cmpR op_eq (pv 3) pe_int (nomark _)) (pss_cons (ps_set (i := 2) nd rfl (.inl rfl) (pe_call GD hr (by rfl) gD kD bD .nil pass0 (pa_cons (pv 0) (pa_cons (pe_callB call_len_seq (by rfl) ml PySem.boot_len (pa_cons (pv 1) pa_nil)) pa_nil))))
          (pss_one (ps_ret (pe_op op_catA (pe_op op_catA (pe_slice sl_tupA (pv 6) po_none (po_some (pv 2)))
          (pe_tup (pa_cons (pe_ix ix_list (pv 4) (pe_call GD hr (by rfl) gD kD bD .nil pass0 (pa_cons (pv 0) (pa_cons pe_int pa_nil))) (fun _ _ => rfl)) pa_nil))) (pe_slice sl_tupA (pv 6) (po_some (pe_op op_add (pv 2) pe_int)) po_none))))) pss_nil)
      (pss_one (ps_ret (pv 6)))))))), ?_⟩
    have hlen : (fs.map V.int).length = m := by rw [List.length_map]; exact v9.len
    have f0 : 0 < fs.length := by rw [v9.len]; omega
    -- at, mode
    refine ⟨_, rfl, _, rfl, a, _, rfl, .inr hx0, p, _, rfl, po, by omega, by omega, fun H1 at_ k1 po1 a0 a1 => ?_⟩
    obtain ⟨n, rfl⟩ := Int.eq_ofNat_of_zero_le a0
    have hn : n < (fs.map V.int).length := by omega
    refine ⟨_, rfl, p, 7, rfl, po1, by decide, by decide, fun G0 mode k2 po2 m0 m7 => ⟨_, _, rfl, ?_⟩⟩
    have kx0 : KeepX p H G0 := k1.trans k2
    have hx1 := keepX_seqT po kx0 hx0
    -- odd
    refine ⟨_, _, rfl, rfl, (by show 1 ≤ sizeLine; decide), fun t1 nn_t1 => ?_⟩
    have s1 := same_new (o := .tup [.int 7]) nn_t1
    have h1 : upd G0 t1 (.tup [.int 7]) t1 = some (.tup [.int 7]) := upd_same
    generalize upd G0 t1 (.tup [.int 7]) = G1 at s1 h1 ⊢
    refine ⟨(by show 0 ≤ sizeLine; decide), fun t2 nn_t2 => ?_⟩
    have s2 := same_new (o := .lst []) nn_t2
    have h2 : upd G1 t2 (.lst []) t2 = some (.lst []) := upd_same
    generalize upd G1 t2 (.lst []) = G2 at s2 h2 ⊢
    refine fun t3 nn_t3 => ?_
    have s3 := same_new (o := .dK []) nn_t3
    have h3 : upd G2 t3 (.dK []) t3 = some (.dK []) := upd_same
    generalize upd G2 t3 (.dK []) = G3 at s3 h3 ⊢
    have s13 := (s1.trans s2).trans s3
    refine ⟨_, _, rfl, rfl, ⟨by decide, by decide, by decide⟩, _, rfl, a, _, _, .int fs[0], rfl, rfl, same_seqT s13 hx1, (show atI (fs.map V.int) (0 : Int) = some (.int fs[0]) from atI_nat (j := 0) (by rw [List.getElem?_map, List.getElem?_eq_getElem f0]; rfl)), ?_⟩
    refine ⟨(by show 14 ≤ sizeLine; decide), fun L nL => ?_⟩
    have s4 := same_new (o := .lst [.int 0, .int 10000, .int (0 - 1), .bl true, .bl false, .non, .str "7", .ref t1, .ref t2, .ref t3, .int (10 ^ (30 : Int).toNat), .int fs[0], .int 9999, .int 1]) nL
    have hL : upd G3 L (.lst [.int 0, .int 10000, .int (0 - 1), .bl true, .bl false, .non, .str "7", .ref t1, .ref t2, .ref t3, .int (10 ^ (30 : Int).toNat), .int fs[0], .int 9999, .int 1]) L = some (.lst [.int 0, .int 10000, .int (0 - 1), .bl true, .bl false, .non, .str "7", .ref t1, .ref t2, .ref t3, .int (10 ^ (30 : Int).toNat), .int fs[0], .int 9999, .int 1]) := upd_same
    generalize upd G3 L (.lst [.int 0, .int 10000, .int (0 - 1), .bl true, .bl false, .non, .str "7", .ref t1, .ref t2, .ref t3, .int (10 ^ (30 : Int).toNat), .int fs[0], .int 9999, .int 1]) = GO at s4 hL ⊢
    have sO : Same G0 GO := s13.trans s4
    have b0 := v9.bd fs[0] (List.getElem_mem f0)
    have hodd : ∀ x ∈ ([.int 0, .int 10000, .int (0 - 1), .bl true, .bl false, .non, .str "7", .ref t1, .ref t2, .ref t3, .int (10 ^ (30 : Int).toNat), .int fs[0], .int 9999, .int 1] : List V), ∃ o, VlR K GO x o := by
      intro x hx
      simp only [List.mem_cons, List.not_mem_nil, or_false] at hx
      rcases hx with z | z | z | z | z | z | z | z | z | z | z | z | z | z <;> subst z
      · exact ⟨none, .inl ⟨_, rfl, by decide⟩⟩
      · exact ⟨none, .inl ⟨_, rfl, by decide⟩⟩
      · exact ⟨none, .inl ⟨_, rfl, by decide⟩⟩
      · exact ⟨none, .inr ⟨_, .bl _, by decide⟩⟩
      · exact ⟨none, .inr ⟨_, .bl _, by decide⟩⟩
      · exact ⟨none, .inr ⟨_, .non, by decide⟩⟩
      · exact ⟨none, .inr ⟨_, .str _, by decide⟩⟩
      · exact ⟨none, .inr ⟨_, .tup (SqT.of (((s2.trans s3).trans s4) _ _ h1)), by decide⟩⟩
      · exact ⟨none, .inr ⟨_, .lst ((s3.trans s4) _ _ h2), by decide⟩⟩
      · exact ⟨none, .inr ⟨_, .dct (s4 _ _ h3), by decide⟩⟩
      · exact ⟨none, .inl ⟨_, rfl, by decide⟩⟩
      · exact ⟨some fs[0], rfl, b0.1, b0.2⟩
      · exact ⟨some 9999, rfl, by decide, by decide⟩
      · exact ⟨some 1, rfl, by decide, by decide⟩
    have poO := po2.same sO
    have nLp : L ≠ p := Ne.symm ((po2.same s13).ne nL)
    have kxO : KeepX p H GO := kx0.trans (.of_same sO)
    have hx := same_seqT sO hx1
    have hels : Vls K GO (fs.map V.int) (fs.map some) := vls_ints v9.bd
    have fin : ∀ (H' : Hp) (v : V) (b : Verd), Same GO H' → FilV K H' m v b → Q v H' := fun H' v b s hv => q H' v b (kxO.trans (.of_same s)) (poO.same s) hv
    -- mode 0
    refine ⟨_, rfl, rfl, _, rfl, ite2 (fun _ => ?_) (fun _ => ?_)⟩
    · refine ⟨(by show 0 ≤ sizeLine; decide), fun v1 nn_v1 => ?_⟩
      have r1 := same_new (o := .tup []) nn_v1
      have e1 : upd GO v1 (.tup []) v1 = some (.tup []) := upd_same
      generalize upd GO v1 (.tup []) = A1 at r1 e1 ⊢
      refine ⟨(by show 0 ≤ sizeLine; decide), fun v2 nn_v2 => ?_⟩
      have r2 := same_new (o := .lst []) nn_v2
      have e2 : upd A1 v2 (.lst []) v2 = some (.lst []) := upd_same
      generalize upd A1 v2 (.lst []) = A2 at r2 e2 ⊢
      refine fun v3 nn_v3 => ?_
      have r3 := same_new (o := .dK []) nn_v3
      have e3 : upd A2 v3 (.dK []) v3 = some (.dK []) := upd_same
      generalize upd A2 v3 (.dK []) = A3 at r3 e3 ⊢
      refine ⟨_, rfl, a, _, rfl, .inr (same_seqT ((r1.trans r2).trans r3) hx), fun v4 nn_v4 => ?_⟩
      have r4 := same_new (o := .lst (fs.map V.int)) nn_v4
      have e4 : upd A3 v4 (.lst (fs.map V.int)) v4 = some (.lst (fs.map V.int)) := upd_same
      generalize upd A3 v4 (.lst (fs.map V.int)) = A4 at r4 e4 ⊢
      refine ⟨_, rfl, (by show 1 ≤ sizeLine; decide), fun v5 nn_v5 => ?_⟩
      have r5 := same_new (o := .tup [.ref a]) nn_v5
      have e5 : upd A4 v5 (.tup [.ref a]) v5 = some (.tup [.ref a]) := upd_same
      generalize upd A4 v5 (.tup [.ref a]) = A5 at r5 e5 ⊢
      have r15 := (((r1.trans r2).trans r3).trans r4).trans r5
      -- some + (0,)
      refine ⟨_, rfl, (by show 1 ≤ sizeLine; decide), fun w6 nn_w6 => ?_⟩
      have r6 := same_new (o := .tup [.int 0]) nn_w6
      have e6 : upd A5 w6 (.tup [.int 0]) w6 = some (.tup [.int 0]) := upd_same
      generalize upd A5 w6 (.tup [.int 0]) = A6 at r6 e6 ⊢
      refine catA_ok (same_seqT (r15.trans r6) hx) (SqT.of e6) (by show (fs.map V.int).length + 1 ≤ 64; omega) (fun A7 v7 r7 e7 => ?_)
      have r17 := (r15.trans r6).trans r7
      -- some[1:]
      refine ⟨_, rfl, 1, rfl, ?_⟩
      have key : ∀ (Q' : VK), (∀ H' u, Same A7 H' → SqT K H' u ((fs.map V.int).drop 1) → Q' (.ref u) H') → rSlA K (.ref a) (some 1) none A7 Q' := fun Q' k => slFrom_ok (n := 1) (same_seqT r17 hx) (by omega) k
      dsimp only [tNoPart]
      refine key _ (fun A8 v8 r8 e8 => ?_)
      have r18 := r17.trans r8
      have hne : fs.map V.int ≠ [] := fun z => by
        rw [z] at hlen
        have : 0 = m := hlen
        omega
      -- some * 2
      refine ⟨_, rfl, a, 2, _, rfl, rfl, same_seqT r18 hx, hne, by decide, by decide, by omega, fun v9' nn_v9 => ?_⟩
      have r9 := same_new (o := .tup (List.replicate (2 : Int).toNat (fs.map V.int)).flatten) nn_v9
      have e9 : upd A8 v9' (.tup (List.replicate (2 : Int).toNat (fs.map V.int)).flatten) v9' = some (.tup (List.replicate (2 : Int).toNat (fs.map V.int)).flatten) := upd_same
      generalize upd A8 v9' (.tup (List.replicate (2 : Int).toNat (fs.map V.int)).flatten) = A9 at r9 e9 ⊢
      refine ⟨(by show 12 ≤ sizeLine; decide), fun S nS => ?_⟩
      have r10 := same_new (o := .lst [.non, .int 0, .bl true, .str "filling", .ref v1, .ref v2, .ref v3, .ref v4, .ref v5, .ref v7, .ref v8, .ref v9']) nS
      have hS : upd A9 S (.lst [.non, .int 0, .bl true, .str "filling", .ref v1, .ref v2, .ref v3, .ref v4, .ref v5, .ref v7, .ref v8, .ref v9']) S = some (.lst [.non, .int 0, .bl true, .str "filling", .ref v1, .ref v2, .ref v3, .ref v4, .ref v5, .ref v7, .ref v8, .ref v9']) := upd_same
      generalize upd A9 S (.lst [.non, .int 0, .bl true, .str "filling", .ref v1, .ref v2, .ref v3, .ref v4, .ref v5, .ref v7, .ref v8, .ref v9']) = A10 at r10 hS ⊢
      have x9 := r9.trans r10
      have x8 := r8.trans x9
      have x7 := r7.trans x8
      have x6 := r6.trans x7
      have x5 := r5.trans x6
      have x4 := r4.trans x5
      have x3 := r3.trans x4
      have x2 := r2.trans x3
      have xO : Same GO A10 := r1.trans x2
      have hv : ∀ x ∈ ([.non, .int 0, .bl true, .str "filling", .ref v1, .ref v2, .ref v3, .ref v4, .ref v5, .ref v7, .ref v8, .ref v9'] : List V), ∃ b, FilV K A10 m x b := by
        intro x hx'
        simp only [List.mem_cons, List.not_mem_nil, or_false] at hx'
        rcases hx' with z | z | z | z | z | z | z | z | z | z | z | z <;> subst z
        · exact ⟨.non, .inl ⟨_, .non, by decide⟩⟩
        · exact ⟨.non, .inl ⟨_, .int _, by decide⟩⟩
        · exact ⟨.non, .inl ⟨_, .bl _, by decide⟩⟩
        · exact ⟨.non, .inl ⟨_, .str _, by decide⟩⟩
        · exact ⟨.non, .inr ⟨v1, [], rfl, SqT.of (x2 _ _ e1), by show 0 ≠ m; omega⟩⟩
        · exact ⟨.non, .inl ⟨_, .lst (x3 _ _ e2), by decide⟩⟩
        · exact ⟨.non, .inl ⟨_, .dct (x4 _ _ e3), by decide⟩⟩
        · exact ⟨.non, .inl ⟨_, .lst (x5 _ _ e4), by decide⟩⟩
        · exact filV_of (SqT.of (x6 _ _ e5)) (.cons (show VlR K A10 (.ref a) none from .inr ⟨_, .tup (same_seqT xO hx), by decide⟩) .nil)
        · exact ⟨.non, .inr ⟨v7, _, rfl, same_seqT x8 e7, by rw [List.length_append, hlen]; show m + 1 ≠ m; omega⟩⟩
        · exact ⟨.non, .inr ⟨v8, _, rfl, same_seqT x9 e8, by rw [List.length_drop, hlen]; omega⟩⟩
        · refine ⟨.non, .inr ⟨v9', _, rfl, SqT.of (r10 _ _ e9), ?_⟩⟩
          have e25 : (2 : Int).toNat = 2 := rfl
          rw [e25, List.length_flatten, List.map_replicate, List.sum_replicate_nat, hlen]
          omega
      have poS := poO.same xO
      refine ⟨_, rfl, _, rfl, p, 12, rfl, poS, by decide, by decide, fun B r kb pob i0 i1 => ?_⟩
      obtain ⟨x, hxm, hat⟩ := pick_ok (items := [.non, .int 0, .bl true, .str "filling", .ref v1, .ref v2, .ref v3, .ref v4, .ref v5, .ref v7, .ref v8, .ref v9']) i0 i1
      obtain ⟨b, hb⟩ := hv x hxm
      have nSp : S ≠ p := Ne.symm ((poO.same (r18.trans r9)).ne nS)
      exact ⟨S, _, r, x, rfl, rfl, SqL.of (kb _ _ nSp hS), hat, q B x b ((kxO.trans (.of_same xO)).trans kb) pob (hb.keepX poS pob kb)⟩
    -- mode 1
    refine ⟨_, rfl, rfl, _, rfl, ite2 (fun _ => ?_) (fun _ => ?_)⟩
    · exact ⟨_, rfl, fin GO _ .ok (Same.refl _) (filV_good hx v9)⟩
    -- bent
    refine bendV_ok (p := p) (u := a) (L := L) (n := n) rfl rfl rfl rfl poO nLp hx hels hn (by omega) hL rfl hodd (fun B u ys rs kb pob hu he hyl => ?_)
    have hLB := kb _ _ nLp hL
    have hoddB : ∀ x ∈ ([.int 0, .int 10000, .int (0 - 1), .bl true, .bl false, .non, .str "7", .ref t1, .ref t2, .ref t3, .int (10 ^ (30 : Int).toNat), .int fs[0], .int 9999, .int 1] : List V), ∃ o, VlR K B x o := fun x hx => by
      obtain ⟨o, ho⟩ := hodd x hx
      exact ⟨o, ho.keepX poO pob kb⟩
    have kxB := kxO.trans kb
    refine ⟨_, rfl, rfl, _, rfl, ite2 (fun _ => ?_) (fun _ => ?_)⟩
    · refine ⟨_, rfl, _, rfl, a, _, rfl, .inr (keepX_seqT poO kb hx), p, _, rfl, pob, by omega, by omega, fun B2 at2 kb2 pob2 b0 b1 => ?_⟩
      obtain ⟨n2, rfl⟩ := Int.eq_ofNat_of_zero_le b0
      refine bendV_ok (p := p) (u := u) (L := L) (n := n2) rfl rfl rfl rfl pob2 nLp (keepX_seqT pob kb2 hu) (Paired.mono (fun _ _ q => q.keepX pob pob2 kb2) he) (by omega) (by omega) (kb2 _ _ nLp hLB) rfl
        (fun x hx => (hoddB x hx).imp fun _ ho => ho.keepX pob pob2 kb2) (fun B3 u' ys' rs' kb3 pob3 hu' he' _ => ?_)
      obtain ⟨b, hb⟩ := filV_of (n := m) hu' he'
      exact q B3 _ b ((kxB.trans kb2).trans kb3) pob3 hb
    · obtain ⟨b, hb⟩ := filV_of (n := m) hu he
      exact ⟨_, rfl, q B _ b kxB pob hb⟩
end
end KS
/-! the law's own bent fillings: what they are worth for any number of cells -/
namespace KS
open PySem PySem.Spec PyProof.Rows L2
/-- worth something for any number of cells -/
def AnyF (K : PySem.W.Frag) (H : Hp) (v : V) : Prop := ∀ n, 1 ≤ n → ∃ c, FilV K H n v c
theorem AnyF.same {K : PySem.W.Frag} {H H' : Hp} {v : V} (s : Same H H') (h : AnyF K H v) : AnyF K H' v := fun n hn => (h n hn).imp fun _ z => z.same s
theorem AnyF.keepX {K : PySem.W.Frag} {H H' : Hp} {p : Addr} {v : V} (hp : PoolO (H p)) (hp' : PoolO (H' p)) (k : KeepX p H H') (h : AnyF K H v) : AnyF K H' v := fun n hn => (h n hn).imp fun _ z => z.keepX hp hp' k
theorem anyF_ints {K : PySem.W.Frag} {H : Hp} {a : Addr} {n : Nat} {vs : List Int} (h : SqT K H a (vs.map V.int)) (v9 : Vals9 n vs) : AnyF K H (.ref a) := fun _ _ => filV_of h (vls_ints v9.bd)
def spBentVA (K : PySem.W.Frag) : Sp := fun vs H Q _ => ∃ (p a : Addr) (n : Nat) (fs : List Int), vs = [.ref p, .ref a] ∧ PoolO (H p) ∧ SqT K H a (fs.map V.int) ∧ Vals9 n fs ∧ 1 ≤ n ∧ n ≤ 24 ∧
  ∀ H' v, KeepX p H H' → PoolO (H' p) → AnyF K H' v → Q v H'
section
variable {P : Program} {w : World} {K : PySem.W.Frag} {mg : Str → Option Value} {base : Heap}
theorem ok_bentVA {f fD : Addr} {fd fdD : FuncData} (F : Fun K "_law_bent_values" "_law_bent_values" sBentV f fd) (GD : FnOk P w K mg base CX0 1 fD fdD ["_law_pool_here", "_law_most"] spDraw)
    (bD : Binds K fdD ["_law_pool_here", "_law_most"] []) (gD : mg "_law_draw" = some (.ref fD)) (kD : PySem.W.keepIn K (.ref fD) = true)
    (ml : mg "len" = none) (mL : mg "list" = none) : FnOk P w K mg base CX0 2 f fd ["_law_pool_here", "_law_some"] (spBentVA K) := by
  refine F.ok scBentV (fun vs H Q E h => ?_) (fun cdv A outer s H vs Q E hr h => ?_)
  · obtain ⟨p, a, n, fs, rfl, _⟩ := h
    rfl
  · obtain ⟨p, a, m, fs, rfl, po, hx0, v9, m1, m24, q⟩ := h
    have nd := scBentV.nd
    refine ⟨_, pss_cons (ps_par (i := 2) (j := 3) (by rfl) nd rfl rfl (by decide) rfl rfl
        (pa_cons (pe_call GD hr (by rfl) gD kD bD .nil pass0 (pa_cons (pv 0) (pa_cons (pe_callB call_len_seq (by rfl) ml PySem.boot_len (pa_cons (pv 1) pa_nil)) pa_nil)))
          (pa_cons (pe_call GD hr (by rfl) gD kD bD .nil pass0 (pa_cons (pv 0) (pa_cons pe_int pa_nil))) pa_nil)) (by rfl))
      (pss_cons (ps_set (i := 4) nd rfl (.inl rfl) (pe_lst (pa_cons pe_int (pa_cons pe_int (pa_cons (pe_op op_sub pe_int pe_int) (pa_cons pe_bl (pa_cons pe_bl (pa_cons pe_non (pa_cons pe_str (pa_cons (pe_tup (pa_cons pe_int pa_nil)) (pa_cons (pe_lst pa_nil) (pa_cons pe_dnewK
          (pa_cons (pe_op op_pow pe_int pe_int) (pa_cons (pe_ix ix_tup (pv 1) pe_int (fun _ _ => rfl)) (pa_cons pe_int (pa_cons pe_int pa_nil))))))))))))))))
      (pss_cons (ps_if (pt_cmpR op_eq (pv 3) pe_int (nomark _)) (pss_cons (ps_set (i := 5) nd rfl (.inl rfl) (pe_lst (pa_cons pe_non (pa_cons pe_int (pa_cons pe_bl (pa_cons pe_str (pa_cons (pe_tup pa_nil) (pa_cons (pe_lst pa_nil) (pa_cons pe_dnewK
            (pa_cons (pe_callTy call_list_of (by rfl) mL (by decide +kernel) (pa_cons (pv 1) pa_nil)) (pa_cons (pe_tup (pa_cons (pv 1) pa_nil)) (pa_cons (pe_op op_catA (pv 1) (pe_tup (pa_cons pe_int pa_nil))) (pa_cons (pe_slice sl_tupA (pv 1) (po_some pe_int) po_none) (pa_cons (pe_op op_repT (pv 1) pe_int) pa_nil))))))))))))))
          (pss_one (ps_ret (pe_ix ix_list (pv 5) (pe_call GD hr (by rfl) gD kD bD .nil pass0 (pa_cons (pv 0) (pa_cons pe_int pa_nil))) (fun _ _ => rfl))))) pss_nil)
      (pss_cons (ps_if (pt_cmpR op_eq (pv 3) pe_int (nomark _)) (pss_one (ps_ret (pv 1))) pss_nil)
      (pss_cons (ps_set (i := 6) nd rfl (.inl rfl) (pe_op op_catA (pe_op op_catA (pe_slice sl_tupA (pv 1) po_none (po_some (pv 2)))
          (pe_tup (pa_cons (pe_ix ix_list (pv 4) (pe_call GD hr (by rfl) gD kD bD .nil pass0 (pa_cons (pv 0) (pa_cons pe_int pa_nil))) (fun _ _ => rfl)) pa_nil))) (pe_slice sl_tupA (pv 1) (po_some (pe_op op_add (pv 2) pe_int)) po_none)))
      (pss_cons (ps_if (pt_cmpR op_eq (pv 3) pe_int (nomark _)) (pss_cons (ps_set (i := 2) nd rfl (.inl rfl) (pe_call GD hr (by rfl) gD kD bD .nil pass0 (pa_cons (pv 0) (pa_cons (pe_callB call_len_seq (by rfl) ml PySem.boot_len (pa_cons (pv 1) pa_nil)) pa_nil))))
          (pss_one (ps_ret (pe_op op_catA (pe_op op_catA (pe_slice sl_tupA (pv 6) po_none (po_some (pv 2)))
          (pe_tup (pa_cons (pe_ix ix_list (pv 4) (pe_call GD hr (by rfl) gD kD bD .nil pass0 (pa_cons (pv 0) (pa_cons pe_int pa_nil))) (fun _ _ => rfl)) pa_nil))) (pe_slice sl_tupA (pv 6) (po_some (pe_op op_add (pv 2) pe_int)) po_none))))) pss_nil)
      (pss_one (ps_ret (pv 6)))))))), ?_⟩
    have hlen : (fs.map V.int).length = m := by rw [List.length_map]; exact v9.len
    have f0 : 0 < fs.length := by rw [v9.len]; omega
    -- at, mode
    refine ⟨_, rfl, _, rfl, a, _, rfl, .inr hx0, p, _, rfl, po, by omega, by omega, fun H1 at_ k1 po1 a0 a1 => ?_⟩
    obtain ⟨n, rfl⟩ := Int.eq_ofNat_of_zero_le a0
    have hn : n < (fs.map V.int).length := by omega
    refine ⟨_, rfl, p, 7, rfl, po1, by decide, by decide, fun G0 mode k2 po2 m0 m7 => ⟨_, _, rfl, ?_⟩⟩
    have kx0 : KeepX p H G0 := k1.trans k2
    have hx1 := keepX_seqT po kx0 hx0
    -- odd
    refine ⟨_, _, rfl, rfl, (by show 1 ≤ sizeLine; decide), fun t1 nn_t1 => ?_⟩
    have s1 := same_new (o := .tup [.int 7]) nn_t1
    have h1 : upd G0 t1 (.tup [.int 7]) t1 = some (.tup [.int 7]) := upd_same
    generalize upd G0 t1 (.tup [.int 7]) = G1 at s1 h1 ⊢
    refine ⟨(by show 0 ≤ sizeLine; decide), fun t2 nn_t2 => ?_⟩
    have s2 := same_new (o := .lst []) nn_t2
    have h2 : upd G1 t2 (.lst []) t2 = some (.lst []) := upd_same
    generalize upd G1 t2 (.lst []) = G2 at s2 h2 ⊢
    refine fun t3 nn_t3 => ?_
    have s3 := same_new (o := .dK []) nn_t3
    have h3 : upd G2 t3 (.dK []) t3 = some (.dK []) := upd_same
    generalize upd G2 t3 (.dK []) = G3 at s3 h3 ⊢
    have s13 := (s1.trans s2).trans s3
    refine ⟨_, _, rfl, rfl, ⟨by decide, by decide, by decide⟩, _, rfl, a, _, _, .int fs[0], rfl, rfl, same_seqT s13 hx1, (show atI (fs.map V.int) (0 : Int) = some (.int fs[0]) from atI_nat (j := 0) (by rw [List.getElem?_map, List.getElem?_eq_getElem f0]; rfl)), ?_⟩
    refine ⟨(by show 14 ≤ sizeLine; decide), fun L nL => ?_⟩
    have s4 := same_new (o := .lst [.int 0, .int 10000, .int (0 - 1), .bl true, .bl false, .non, .str "7", .ref t1, .ref t2, .ref t3, .int (10 ^ (30 : Int).toNat), .int fs[0], .int 9999, .int 1]) nL
    have hL : upd G3 L (.lst [.int 0, .int 10000, .int (0 - 1), .bl true, .bl false, .non, .str "7", .ref t1, .ref t2, .ref t3, .int (10 ^ (30 : Int).toNat), .int fs[0], .int 9999, .int 1]) L = some (.lst [.int 0, .int 10000, .int (0 - 1), .bl true, .bl false, .non, .str "7", .ref t1, .ref t2, .ref t3, .int (10 ^ (30 : Int).toNat), .int fs[0], .int 9999, .int 1]) := upd_same
    generalize upd G3 L (.lst [.int 0, .int 10000, .int (0 - 1), .bl true, .bl false, .non, .str "7", .ref t1, .ref t2, .ref t3, .int (10 ^ (30 : Int).toNat), .int fs[0], .int 9999, .int 1]) = GO at s4 hL ⊢
    have sO : Same G0 GO := s13.trans s4
    have b0 := v9.bd fs[0] (List.getElem_mem f0)
    have hodd : ∀ x ∈ ([.int 0, .int 10000, .int (0 - 1), .bl true, .bl false, .non, .str "7", .ref t1, .ref t2, .ref t3, .int (10 ^ (30 : Int).toNat), .int fs[0], .int 9999, .int 1] : List V), ∃ o, VlR K GO x o := by
      intro x hx
      simp only [List.mem_cons, List.not_mem_nil, or_false] at hx
      rcases hx with z | z | z | z | z | z | z | z | z | z | z | z | z | z <;> subst z
      · exact ⟨none, .inl ⟨_, rfl, by decide⟩⟩
      · exact ⟨none, .inl ⟨_, rfl, by decide⟩⟩
      · exact ⟨none, .inl ⟨_, rfl, by decide⟩⟩
      · exact ⟨none, .inr ⟨_, .bl _, by decide⟩⟩
      · exact ⟨none, .inr ⟨_, .bl _, by decide⟩⟩
      · exact ⟨none, .inr ⟨_, .non, by decide⟩⟩
      · exact ⟨none, .inr ⟨_, .str _, by decide⟩⟩
      · exact ⟨none, .inr ⟨_, .tup (SqT.of (((s2.trans s3).trans s4) _ _ h1)), by decide⟩⟩
      · exact ⟨none, .inr ⟨_, .lst ((s3.trans s4) _ _ h2), by decide⟩⟩
      · exact ⟨none, .inr ⟨_, .dct (s4 _ _ h3), by decide⟩⟩
      · exact ⟨none, .inl ⟨_, rfl, by decide⟩⟩
      · exact ⟨some fs[0], rfl, b0.1, b0.2⟩
      · exact ⟨some 9999, rfl, by decide, by decide⟩
      · exact ⟨some 1, rfl, by decide, by decide⟩
    have poO := po2.same sO
    have nLp : L ≠ p := Ne.symm ((po2.same s13).ne nL)
    have kxO : KeepX p H GO := kx0.trans (.of_same sO)
    have hx := same_seqT sO hx1
    have hels : Vls K GO (fs.map V.int) (fs.map some) := vls_ints v9.bd
    have fin : ∀ (H' : Hp) (v : V), Same GO H' → AnyF K H' v → Q v H' := fun H' v s hv => q H' v (kxO.trans (.of_same s)) (poO.same s) hv
    -- mode 0
    refine ⟨_, rfl, rfl, _, rfl, ite2 (fun _ => ?_) (fun _ => ?_)⟩
    · refine ⟨(by show 0 ≤ sizeLine; decide), fun v1 nn_v1 => ?_⟩
      have r1 := same_new (o := .tup []) nn_v1
      have e1 : upd GO v1 (.tup []) v1 = some (.tup []) := upd_same
      generalize upd GO v1 (.tup []) = A1 at r1 e1 ⊢
      refine ⟨(by show 0 ≤ sizeLine; decide), fun v2 nn_v2 => ?_⟩
      have r2 := same_new (o := .lst []) nn_v2
      have e2 : upd A1 v2 (.lst []) v2 = some (.lst []) := upd_same
      generalize upd A1 v2 (.lst []) = A2 at r2 e2 ⊢
      refine fun v3 nn_v3 => ?_
      have r3 := same_new (o := .dK []) nn_v3
      have e3 : upd A2 v3 (.dK []) v3 = some (.dK []) := upd_same
      generalize upd A2 v3 (.dK []) = A3 at r3 e3 ⊢
      refine ⟨_, rfl, a, _, rfl, .inr (same_seqT ((r1.trans r2).trans r3) hx), fun v4 nn_v4 => ?_⟩
      have r4 := same_new (o := .lst (fs.map V.int)) nn_v4
      have e4 : upd A3 v4 (.lst (fs.map V.int)) v4 = some (.lst (fs.map V.int)) := upd_same
      generalize upd A3 v4 (.lst (fs.map V.int)) = A4 at r4 e4 ⊢
      refine ⟨_, rfl, (by show 1 ≤ sizeLine; decide), fun v5 nn_v5 => ?_⟩
      have r5 := same_new (o := .tup [.ref a]) nn_v5
      have e5 : upd A4 v5 (.tup [.ref a]) v5 = some (.tup [.ref a]) := upd_same
      generalize upd A4 v5 (.tup [.ref a]) = A5 at r5 e5 ⊢
      have r15 := (((r1.trans r2).trans r3).trans r4).trans r5
      -- some + (0,)
      refine ⟨_, rfl, (by show 1 ≤ sizeLine; decide), fun w6 nn_w6 => ?_⟩
      have r6 := same_new (o := .tup [.int 0]) nn_w6
      have e6 : upd A5 w6 (.tup [.int 0]) w6 = some (.tup [.int 0]) := upd_same
      generalize upd A5 w6 (.tup [.int 0]) = A6 at r6 e6 ⊢
      refine catA_ok (same_seqT (r15.trans r6) hx) (SqT.of e6) (by show (fs.map V.int).length + 1 ≤ 64; omega) (fun A7 v7 r7 e7 => ?_)
      have r17 := (r15.trans r6).trans r7
      -- some[1:]
      refine ⟨_, rfl, 1, rfl, ?_⟩
      have key : ∀ (Q' : VK), (∀ H' u, Same A7 H' → SqT K H' u ((fs.map V.int).drop 1) → Q' (.ref u) H') → rSlA K (.ref a) (some 1) none A7 Q' := fun Q' k => slFrom_ok (n := 1) (same_seqT r17 hx) (by omega) k
      dsimp only [tNoPart]
      refine key _ (fun A8 v8 r8 e8 => ?_)
      have r18 := r17.trans r8
      have hne : fs.map V.int ≠ [] := fun z => by
        rw [z] at hlen
        have : 0 = m := hlen
        omega
      -- some * 2
      refine ⟨_, rfl, a, 2, _, rfl, rfl, same_seqT r18 hx, hne, by decide, by decide, by omega, fun v9' nn_v9 => ?_⟩
      have r9 := same_new (o := .tup (List.replicate (2 : Int).toNat (fs.map V.int)).flatten) nn_v9
      have e9 : upd A8 v9' (.tup (List.replicate (2 : Int).toNat (fs.map V.int)).flatten) v9' = some (.tup (List.replicate (2 : Int).toNat (fs.map V.int)).flatten) := upd_same
      generalize upd A8 v9' (.tup (List.replicate (2 : Int).toNat (fs.map V.int)).flatten) = A9 at r9 e9 ⊢
      refine ⟨(by show 12 ≤ sizeLine; decide), fun S nS => ?_⟩
      have r10 := same_new (o := .lst [.non, .int 0, .bl true, .str "filling", .ref v1, .ref v2, .ref v3, .ref v4, .ref v5, .ref v7, .ref v8, .ref v9']) nS
      have hS : upd A9 S (.lst [.non, .int 0, .bl true, .str "filling", .ref v1, .ref v2, .ref v3, .ref v4, .ref v5, .ref v7, .ref v8, .ref v9']) S = some (.lst [.non, .int 0, .bl true, .str "filling", .ref v1, .ref v2, .ref v3, .ref v4, .ref v5, .ref v7, .ref v8, .ref v9']) := upd_same
      generalize upd A9 S (.lst [.non, .int 0, .bl true, .str "filling", .ref v1, .ref v2, .ref v3, .ref v4, .ref v5, .ref v7, .ref v8, .ref v9']) = A10 at r10 hS ⊢
      have x9 := r9.trans r10
      have x8 := r8.trans x9
      have x7 := r7.trans x8
      have x6 := r6.trans x7
      have x5 := r5.trans x6
      have x4 := r4.trans x5
      have x3 := r3.trans x4
      have x2 := r2.trans x3
      have xO : Same GO A10 := r1.trans x2
      have hv : ∀ x ∈ ([.non, .int 0, .bl true, .str "filling", .ref v1, .ref v2, .ref v3, .ref v4, .ref v5, .ref v7, .ref v8, .ref v9'] : List V), AnyF K A10 x := by
        intro x hx'
        simp only [List.mem_cons, List.not_mem_nil, or_false] at hx'
        rcases hx' with z | z | z | z | z | z | z | z | z | z | z | z <;> subst z
        · exact fun n _ => ⟨.non, .inl ⟨_, .non, by decide⟩⟩
        · exact fun n _ => ⟨.non, .inl ⟨_, .int _, by decide⟩⟩
        · exact fun n _ => ⟨.non, .inl ⟨_, .bl _, by decide⟩⟩
        · exact fun n _ => ⟨.non, .inl ⟨_, .str _, by decide⟩⟩
        · exact fun n hn => ⟨.non, .inr ⟨v1, [], rfl, SqT.of (x2 _ _ e1), by show 0 ≠ n; omega⟩⟩
        · exact fun n _ => ⟨.non, .inl ⟨_, .lst (x3 _ _ e2), by decide⟩⟩
        · exact fun n _ => ⟨.non, .inl ⟨_, .dct (x4 _ _ e3), by decide⟩⟩
        · exact fun n _ => ⟨.non, .inl ⟨_, .lst (x5 _ _ e4), by decide⟩⟩
        · exact fun n _ => filV_of (SqT.of (x6 _ _ e5)) (.cons (show VlR K A10 (.ref a) none from .inr ⟨_, .tup (same_seqT xO hx), by decide⟩) .nil)
        · exact fun n _ => filV_of (same_seqT x8 e7) (paired_append (vls_ints v9.bd) (.cons (show VlR K A10 (.int 0) none from .inl ⟨_, rfl, by decide⟩) .nil))
        · exact fun n _ => filV_of (same_seqT x9 e8) (paired_drop 1 (vls_ints v9.bd))
        · exact fun n _ => filV_of (show SqT K A10 v9' (fs.map V.int ++ (fs.map V.int ++ [])) from SqT.of (r10 _ _ e9)) (paired_append (vls_ints v9.bd) (paired_append (vls_ints v9.bd) .nil))
      have poS := poO.same xO
      refine ⟨_, rfl, _, rfl, p, 12, rfl, poS, by decide, by decide, fun B r kb pob i0 i1 => ?_⟩
      obtain ⟨x, hxm, hat⟩ := pick_ok (items := [.non, .int 0, .bl true, .str "filling", .ref v1, .ref v2, .ref v3, .ref v4, .ref v5, .ref v7, .ref v8, .ref v9']) i0 i1
      have hb := hv x hxm
      have nSp : S ≠ p := Ne.symm ((poO.same (r18.trans r9)).ne nS)
      exact ⟨S, _, r, x, rfl, rfl, SqL.of (kb _ _ nSp hS), hat, q B x ((kxO.trans (.of_same xO)).trans kb) pob (hb.keepX poS pob kb)⟩
    -- mode 1
    refine ⟨_, rfl, rfl, _, rfl, ite2 (fun _ => ?_) (fun _ => ?_)⟩
    · exact ⟨_, rfl, fin GO _ (Same.refl _) (anyF_ints hx v9)⟩
    -- bent
    refine bendV_ok (p := p) (u := a) (L := L) (n := n) rfl rfl rfl rfl poO nLp hx hels hn (by omega) hL rfl hodd (fun B u ys rs kb pob hu he hyl => ?_)
    have hLB := kb _ _ nLp hL
    have hoddB : ∀ x ∈ ([.int 0, .int 10000, .int (0 - 1), .bl true, .bl false, .non, .str "7", .ref t1, .ref t2, .ref t3, .int (10 ^ (30 : Int).toNat), .int fs[0], .int 9999, .int 1] : List V), ∃ o, VlR K B x o := fun x hx => by
      obtain ⟨o, ho⟩ := hodd x hx
      exact ⟨o, ho.keepX poO pob kb⟩
    have kxB := kxO.trans kb
    refine ⟨_, rfl, rfl, _, rfl, ite2 (fun _ => ?_) (fun _ => ?_)⟩
    · refine ⟨_, rfl, _, rfl, a, _, rfl, .inr (keepX_seqT poO kb hx), p, _, rfl, pob, by omega, by omega, fun B2 at2 kb2 pob2 b0 b1 => ?_⟩
      obtain ⟨n2, rfl⟩ := Int.eq_ofNat_of_zero_le b0
      refine bendV_ok (p := p) (u := u) (L := L) (n := n2) rfl rfl rfl rfl pob2 nLp (keepX_seqT pob kb2 hu) (Paired.mono (fun _ _ q => q.keepX pob pob2 kb2) he) (by omega) (by omega) (kb2 _ _ nLp hLB) rfl
        (fun x hx => (hoddB x hx).imp fun _ ho => ho.keepX pob pob2 kb2) (fun B3 u' ys' rs' kb3 pob3 hu' he' _ => ?_)
      have hb : AnyF K B3 (.ref u') := fun n _ => filV_of hu' he'
      exact q B3 _ ((kxB.trans kb2).trans kb3) pob3 hb
    · have hb : AnyF K B (.ref u) := fun n _ => filV_of hu he
      exact ⟨_, rfl, q B _ kxB pob hb⟩
end
end KS
namespace KS
open PySem PySem.Spec PyProof.Rows L2
abbrev sBent : Stmt := topS 71
abbrev nBent : List Str := ["_law_pool_here", "_law_spots", "_law_at", "_law_mode", "_law_odd", "_law_some", "_law_bent", "_law_k"]
theorem scBent : FnScope nBent ["_law_pool_here", "_law_spots"] (defScope sBent) := ⟨rfl, rfl, rfl, by decide +kernel, rfl, by decide +kernel, by decide +kernel⟩
/-- t[:at] + (odd[draw(pool, 16)],) + t[at + 1:] -/
abbrev tBend (K : PySem.W.Frag) (i : Nat) : TE := tOp (rCatA K) (tOp (rCatA K) (tSl (rSlA K) (tVar i) tNoPart (tPart (tVar 2))) (tTup (tCons (tOp (rIxL K) (tVar 4) (tDr (tC (.int 16)))) tNil))) (tSl (rSlA K) (tVar i) (tPart (tOp rAdd (tVar 2) (tC (.int 1)))) tNoPart)
theorem bend_ok {K : PySem.W.Frag} {i n : Nat} {σ : L2.St} {H : Hp} {Q : VK} {p u L : Addr} {ys odds : List V} {rs : List (Option Cell)} (h0 : σ[0]? = some (some (.ref p))) (hi : σ[i]? = some (some (.ref u))) (h2 : σ[2]? = some (some (.int (n : Nat)))) (h4 : σ[4]? = some (some (.ref L)))
    (po : PoolO (H p)) (nLp : L ≠ p) (hu : SqT K H u ys) (he : Els K H ys rs) (hn : n < ys.length) (hl : ys.length ≤ 24) (hL : H L = some (.lst odds)) (ho : odds.length = 16) (hodd : ∀ x ∈ odds, ElR K H x none)
    (k : ∀ H' u' ys' rs', KeepX p H H' → PoolO (H' p) → SqT K H' u' ys' → Els K H' ys' rs' → ys'.length = ys.length → Q (.ref u') H') : tBend K i σ H Q := by
  refine ⟨_, hi, _, h2, (n : Int), rfl, slTo_ok hu (Nat.le_of_lt hn) (fun A1 u1 sa hu1 => ?_)⟩
  refine ⟨_, h4, _, h0, p, 16, rfl, po.same sa, by decide, by decide, fun A2 r kb po2 r0 r1 => ?_⟩
  obtain ⟨x, hx, hat⟩ := pick_ok (items := odds) r0 (by omega)
  have hx1 : ElR K A2 x none := ((hodd x hx).same sa).keepX (po.same sa) po2 kb
  refine ⟨L, odds, r, x, rfl, rfl, SqL.of (kb _ _ nLp (sa _ _ hL)), hat, (by show 1 ≤ sizeLine; decide), fun t1 nt1 => ?_⟩
  have sc := same_new (o := .tup [x]) nt1
  have ht1 : upd A2 t1 (.tup [x]) t1 = some (.tup [x]) := upd_same
  generalize upd A2 t1 (.tup [x]) = A3 at sc ht1 ⊢
  have hu1' : SqT K A3 u1 (ys.take n) := same_seqT sc (keepX_seqT (po.same sa) kb hu1)
  refine catA_ok hu1' (SqT.of ht1) (by
    rw [List.length_take]
    show min n ys.length + 1 ≤ 64
    omega) (fun A4 u2 sd hu2 => ?_)
  have kx4 : KeepX p H A4 := ((KeepX.of_same sa).trans kb).trans (.of_same (sc.trans sd))
  have po4 := po2.same (sc.trans sd)
  refine ⟨_, hi, _, h2, _, _, rfl, rfl, ((n : Int) + 1), rfl, ?_⟩
  have e1 : ((n : Int) + 1) = ((n + 1 : Nat) : Int) := by omega
  rw [e1]
  show rSlA K (V.ref u) (some ((n + 1 : Nat) : Int)) none A4 (fun y H2 => rCatA K (V.ref u2) y H2 Q)
  refine slFrom_ok (n := n + 1) (keepX_seqT po kx4 hu) hn (fun A5 u3 se hu3 => ?_)
  have hlen : (ys.take n ++ [x]).length + (ys.drop (n + 1)).length = ys.length := by
    rw [List.length_append, List.length_take, List.length_drop]
    show min n ys.length + 1 + (ys.length - (n + 1)) = ys.length
    omega
  refine catA_ok (same_seqT se hu2) hu3 (by omega) (fun A6 u4 sf hu4 => ?_)
  have kx6 : KeepX p H A6 := kx4.trans (.of_same (se.trans sf))
  have po6 := po4.same (se.trans sf)
  have he6 : Els K A6 ys rs := Paired.mono (fun _ _ q => q.keepX po po6 kx6) he
  have hx6 : ElR K A6 x none := hx1.same (((sc.trans sd).trans se).trans sf)
  refine k A6 u4 _ ((rs.take n ++ [none]) ++ rs.drop (n + 1)) kx6 po6 hu4 ?_ ?_
  · exact paired_append (paired_append (paired_take n he6) (.cons hx6 .nil)) (paired_drop (n + 1) he6)
  · rw [List.length_append]
    exact hlen
section
variable {P : Program} {w : World} {K : PySem.W.Frag} {mg : Str → Option Value} {base : Heap}
theorem ok_bent {f fD : Addr} {fd fdD : FuncData} (F : Fun K "_law_bent_plan" "_law_bent_plan" sBent f fd) (GD : FnOk P w K mg base CX0 1 fD fdD ["_law_pool_here", "_law_most"] spDraw)
    (bD : Binds K fdD ["_law_pool_here", "_law_most"] []) (gD : mg "_law_draw" = some (.ref fD)) (kD : PySem.W.keepIn K (.ref fD) = true)
    (ml : mg "len" = none) (mL : mg "list" = none) (mT : mg "tuple" = none) (mr : mg "range" = none) : FnOk P w K mg base CX0 2 f fd ["_law_pool_here", "_law_spots"] (spBent K) := by
  refine F.ok scBent (fun vs H Q E h => ?_) (fun cdv A outer s H vs Q E hr h => ?_)
  · obtain ⟨p, a, cs, rfl, _⟩ := h
    rfl
  · obtain ⟨p, a, cs, rfl, po, hpl, gd, hl, q⟩ := h
    have nd := scBent.nd
    refine ⟨_, pss_cons (ps_par (i := 2) (j := 3) (by rfl) nd rfl rfl (by decide) rfl rfl
        (pa_cons (pe_call GD hr (by rfl) gD kD bD .nil pass0 (pa_cons (pv 0) (pa_cons (pe_callB call_len_seq (by rfl) ml PySem.boot_len (pa_cons (pv 1) pa_nil)) pa_nil)))
          (pa_cons (pe_call GD hr (by rfl) gD kD bD .nil pass0 (pa_cons (pv 0) (pa_cons pe_int pa_nil))) pa_nil)) (by rfl))
      (pss_cons (ps_set (i := 4) nd rfl (.inl rfl) (pe_lst (pa_cons (pe_tup (pa_cons pe_int (pa_cons pe_int pa_nil))) (pa_cons (pe_tup (pa_cons pe_int (pa_cons pe_int pa_nil))) (pa_cons (pe_tup (pa_cons (pe_op op_sub pe_int pe_int) (pa_cons pe_int pa_nil)))
          (pa_cons (pe_tup (pa_cons pe_bl (pa_cons pe_int pa_nil))) (pa_cons (pe_tup (pa_cons pe_int (pa_cons pe_bl pa_nil))) (pa_cons (pe_tup (pa_cons pe_int pa_nil)) (pa_cons (pe_tup (pa_cons pe_int (pa_cons pe_int (pa_cons pe_int pa_nil))))
          (pa_cons (pe_lst (pa_cons pe_int (pa_cons pe_int pa_nil))) (pa_cons pe_non (pa_cons pe_str (pa_cons pe_int (pa_cons (pe_tup pa_nil) pa_nil))))))))))))))
      (pss_cons (ps_set (i := 4) nd rfl (.inl rfl) (pe_op op_cat (pv 4) (pe_lst (pa_cons (pe_tup (pa_cons pe_int (pa_cons pe_str pa_nil))) (pa_cons pe_dnewK (pa_cons (pe_tup (pa_cons (pe_lst pa_nil) (pa_cons pe_int pa_nil)))
          (pa_cons (pe_tup (pa_cons pe_int (pa_cons pe_dnewK pa_nil))) pa_nil)))))))
      (pss_cons (ps_if (pt_cmpR op_eq (pv 3) pe_int (nomark _)) (pss_cons (ps_set (i := 5) nd rfl (.inl rfl) (pe_lst (pa_cons pe_non (pa_cons pe_int (pa_cons pe_bl (pa_cons pe_str (pa_cons (pe_tup pa_nil) (pa_cons (pe_lst pa_nil) (pa_cons pe_dnewK
            (pa_cons (pe_callTy call_list_of (by rfl) mL (by decide +kernel) (pa_cons (pv 1) pa_nil)) (pa_cons (pe_tup (pa_cons (pv 1) pa_nil)) (pa_cons (pe_tup (pa_cons (pe_tup pa_nil) pa_nil)) (pa_cons pe_int (pa_cons (pe_tup (pa_cons pe_non pa_nil)) pa_nil))))))))))))))
          (pss_one (ps_ret (pe_ix ix_list (pv 5) (pe_call GD hr (by rfl) gD kD bD .nil pass0 (pa_cons (pv 0) (pa_cons pe_int pa_nil))) (fun _ _ => rfl))))) pss_nil)
      (pss_cons (ps_if (pt_cmpR op_eq (pv 3) pe_int (nomark _)) (pss_one (ps_ret (pe_ix ix_list (pe_lst (pa_cons (pe_callTy cr_tupOf (by rfl) mT (by decide +kernel) (pa_cons
            (pe_lc (own := [("_law_k", 7)]) (g := gName 7) (tt := tYes) rfl nd (pi_range1 (by rfl) mr (pa_cons pe_int pa_nil)) (blkOk_by (N := nBent) (sc := defScope sBent) (by decide +kernel))
              (fun _ _ _ _ _ => pg_name (i := 7) nd rfl (Or.inl rfl)) (fun _ _ _ _ _ => pts_nil) (fun _ _ _ _ _ => pe_tup (pa_cons (pe_op op_fdiv (pv 7) pe_int) (pa_cons (pe_op op_mod (pv 7) pe_int) pa_nil)))) pa_nil))
            (pa_cons (pe_op op_repT (pe_tup (pa_cons pe_non pa_nil)) pe_int) (pa_cons (pe_op op_repT (pv 1) pe_int) pa_nil))))
          (pe_call GD hr (by rfl) gD kD bD .nil pass0 (pa_cons (pv 0) (pa_cons pe_int pa_nil))) (fun _ _ => rfl)))) pss_nil)
      (pss_cons (ps_if (pt_cmpR op_eq (pv 3) pe_int (nomark _)) (pss_one (ps_ret (pe_op op_catA (pv 1) (pe_tup (pa_cons (pe_ix ix_tup (pv 1) (pv 2) (fun _ _ => rfl)) pa_nil))))) pss_nil)
      (pss_cons (ps_if (pt_cmpR op_eq (pv 3) pe_int (nomark _)) (pss_one (ps_ret (pe_revT (pv 1)))) pss_nil)
      (pss_cons (ps_if (pt_cmpR op_eq (pv 3) pe_int (nomark _)) (pss_one (ps_ret (pv 1))) pss_nil)
      (pss_cons (ps_set (i := 6) nd rfl (.inl rfl) (pe_op op_catA (pe_op op_catA (pe_slice sl_tupA (pv 1) po_none (po_some (pv 2)))
          (pe_tup (pa_cons (pe_ix ix_list (pv 4) (pe_call GD hr (by rfl) gD kD bD .nil pass0 (pa_cons (pv 0) (pa_cons pe_int pa_nil))) (fun _ _ => rfl)) pa_nil))) (pe_slice sl_tupA (pv 1) (po_some (pe_op op_add (pv 2) pe_int)) po_none)))
      (pss_cons (ps_if (pt_cmpR op_eq (pv 3) pe_int (nomark _)) (pss_cons (ps_set (i := 2) nd rfl (.inl rfl) (pe_call GD hr (by rfl) gD kD bD .nil pass0 (pa_cons (pv 0) (pa_cons (pe_callB call_len_seq (by rfl) ml PySem.boot_len (pa_cons (pv 1) pa_nil)) pa_nil))))
          (pss_one (ps_ret (pe_op op_catA (pe_op op_catA (pe_slice sl_tupA (pv 6) po_none (po_some (pv 2)))
          (pe_tup (pa_cons (pe_ix ix_list (pv 4) (pe_call GD hr (by rfl) gD kD bD .nil pass0 (pa_cons (pv 0) (pa_cons pe_int pa_nil))) (fun _ _ => rfl)) pa_nil))) (pe_slice sl_tupA (pv 6) (po_some (pe_op op_add (pv 2) pe_int)) po_none))))) pss_nil)
      (pss_one (ps_ret (pv 6)))))))))))), ?_⟩
    obtain ⟨xs, hx0, hc0⟩ := id hpl
    have hlen := Paired.length hc0
    have hpos : 0 < cs.length := by
      rcases Nat.eq_zero_or_pos cs.length with z | z
      · exact absurd (List.eq_nil_of_length_eq_zero z) gd.ne
      · exact z
    -- at, mode
    refine ⟨_, rfl, _, rfl, a, xs, rfl, .inr hx0, p, _, rfl, po, by omega, by omega, fun H1 at_ k1 po1 a0 a1 => ?_⟩
    obtain ⟨n, rfl⟩ := Int.eq_ofNat_of_zero_le a0
    have hn : n < xs.length := by omega
    refine ⟨_, rfl, p, 8, rfl, po1, by decide, by decide, fun G0 mode k2 po2 m0 m1 => ⟨_, _, rfl, ?_⟩⟩
    have kx0 : KeepX p H G0 := k1.trans k2
    have hx1 := keepX_seqT po kx0 hx0
    have hc1 := cells_kt (.of_keepX po kx0) hc0
    -- odd
    refine ⟨(by show 2 ≤ sizeLine; decide), fun t1 nn_t1 => ?_⟩
    have s1 := same_new (o := .tup [.int 0, .int 8]) nn_t1
    have h1 : upd G0 t1 (.tup [.int 0, .int 8]) t1 = some (.tup [.int 0, .int 8]) := upd_same
    generalize upd G0 t1 (.tup [.int 0, .int 8]) = G1 at s1 h1 ⊢
    refine ⟨(by show 2 ≤ sizeLine; decide), fun t2 nn_t2 => ?_⟩
    have s2 := same_new (o := .tup [.int 8, .int 0]) nn_t2
    have h2 : upd G1 t2 (.tup [.int 8, .int 0]) t2 = some (.tup [.int 8, .int 0]) := upd_same
    generalize upd G1 t2 (.tup [.int 8, .int 0]) = G2 at s2 h2 ⊢
    refine ⟨_, _, rfl, rfl, (by show 2 ≤ sizeLine; decide), fun t3 nn_t3 => ?_⟩
    have s3 := same_new (o := .tup [.int (0 - 1), .int 0]) nn_t3
    have h3 : upd G2 t3 (.tup [.int (0 - 1), .int 0]) t3 = some (.tup [.int (0 - 1), .int 0]) := upd_same
    generalize upd G2 t3 (.tup [.int (0 - 1), .int 0]) = G3 at s3 h3 ⊢
    refine ⟨(by show 2 ≤ sizeLine; decide), fun t4 nn_t4 => ?_⟩
    have s4 := same_new (o := .tup [.bl true, .int 0]) nn_t4
    have h4 : upd G3 t4 (.tup [.bl true, .int 0]) t4 = some (.tup [.bl true, .int 0]) := upd_same
    generalize upd G3 t4 (.tup [.bl true, .int 0]) = G4 at s4 h4 ⊢
    refine ⟨(by show 2 ≤ sizeLine; decide), fun t5 nn_t5 => ?_⟩
    have s5 := same_new (o := .tup [.int 0, .bl false]) nn_t5
    have h5 : upd G4 t5 (.tup [.int 0, .bl false]) t5 = some (.tup [.int 0, .bl false]) := upd_same
    generalize upd G4 t5 (.tup [.int 0, .bl false]) = G5 at s5 h5 ⊢
    refine ⟨(by show 1 ≤ sizeLine; decide), fun t6 nn_t6 => ?_⟩
    have s6 := same_new (o := .tup [.int 0]) nn_t6
    have h6 : upd G5 t6 (.tup [.int 0]) t6 = some (.tup [.int 0]) := upd_same
    generalize upd G5 t6 (.tup [.int 0]) = G6 at s6 h6 ⊢
    refine ⟨(by show 3 ≤ sizeLine; decide), fun t7 nn_t7 => ?_⟩
    have s7 := same_new (o := .tup [.int 0, .int 0, .int 0]) nn_t7
    have h7 : upd G6 t7 (.tup [.int 0, .int 0, .int 0]) t7 = some (.tup [.int 0, .int 0, .int 0]) := upd_same
    generalize upd G6 t7 (.tup [.int 0, .int 0, .int 0]) = G7 at s7 h7 ⊢
    refine ⟨(by show 2 ≤ sizeLine; decide), fun t8 nn_t8 => ?_⟩
    have s8 := same_new (o := .lst [.int 0, .int 0]) nn_t8
    have h8 : upd G7 t8 (.lst [.int 0, .int 0]) t8 = some (.lst [.int 0, .int 0]) := upd_same
    generalize upd G7 t8 (.lst [.int 0, .int 0]) = G8 at s8 h8 ⊢
    refine ⟨(by show 0 ≤ sizeLine; decide), fun t9 nn_t9 => ?_⟩
    have s9 := same_new (o := .tup []) nn_t9
    have h9 : upd G8 t9 (.tup []) t9 = some (.tup []) := upd_same
    generalize upd G8 t9 (.tup []) = G9 at s9 h9 ⊢
    refine ⟨(by show 12 ≤ sizeLine; decide), fun L1 nn_L1 => ?_⟩
    have s10 := same_new (o := .lst [.ref t1, .ref t2, .ref t3, .ref t4, .ref t5, .ref t6, .ref t7, .ref t8, .non, .str "00", .int 7, .ref t9]) nn_L1
    have hL1 : upd G9 L1 (.lst [.ref t1, .ref t2, .ref t3, .ref t4, .ref t5, .ref t6, .ref t7, .ref t8, .non, .str "00", .int 7, .ref t9]) L1 = some (.lst [.ref t1, .ref t2, .ref t3, .ref t4, .ref t5, .ref t6, .ref t7, .ref t8, .non, .str "00", .int 7, .ref t9]) := upd_same
    generalize upd G9 L1 (.lst [.ref t1, .ref t2, .ref t3, .ref t4, .ref t5, .ref t6, .ref t7, .ref t8, .non, .str "00", .int 7, .ref t9]) = G10 at s10 hL1 ⊢
    -- odd, longer
    refine ⟨_, rfl, ?_⟩
    refine ⟨(by show 2 ≤ sizeLine; decide), fun u1 nn_u1 => ?_⟩
    have s11 := same_new (o := .tup [.int 0, .str "1"]) nn_u1
    have g1 : upd G10 u1 (.tup [.int 0, .str "1"]) u1 = some (.tup [.int 0, .str "1"]) := upd_same
    generalize upd G10 u1 (.tup [.int 0, .str "1"]) = G11 at s11 g1 ⊢
    refine fun u2 nn_u2 => ?_
    have s12 := same_new (o := .dK []) nn_u2
    have g2 : upd G11 u2 (.dK []) u2 = some (.dK []) := upd_same
    generalize upd G11 u2 (.dK []) = G12 at s12 g2 ⊢
    refine ⟨(by show 0 ≤ sizeLine; decide), fun u3 nn_u3 => ?_⟩
    have s13 := same_new (o := .lst []) nn_u3
    have g3 : upd G12 u3 (.lst []) u3 = some (.lst []) := upd_same
    generalize upd G12 u3 (.lst []) = G13 at s13 g3 ⊢
    refine ⟨(by show 2 ≤ sizeLine; decide), fun u4 nn_u4 => ?_⟩
    have s14 := same_new (o := .tup [.ref u3, .int 0]) nn_u4
    have g4 : upd G13 u4 (.tup [.ref u3, .int 0]) u4 = some (.tup [.ref u3, .int 0]) := upd_same
    generalize upd G13 u4 (.tup [.ref u3, .int 0]) = G14 at s14 g4 ⊢
    refine fun u5 nn_u5 => ?_
    have s15 := same_new (o := .dK []) nn_u5
    have g5 : upd G14 u5 (.dK []) u5 = some (.dK []) := upd_same
    generalize upd G14 u5 (.dK []) = G15 at s15 g5 ⊢
    refine ⟨(by show 2 ≤ sizeLine; decide), fun u6 nn_u6 => ?_⟩
    have s16 := same_new (o := .tup [.int 0, .ref u5]) nn_u6
    have g6 : upd G15 u6 (.tup [.int 0, .ref u5]) u6 = some (.tup [.int 0, .ref u5]) := upd_same
    generalize upd G15 u6 (.tup [.int 0, .ref u5]) = G16 at s16 g6 ⊢
    refine ⟨(by show 4 ≤ sizeLine; decide), fun L2 nn_L2 => ?_⟩
    have s17 := same_new (o := .lst [.ref u1, .ref u2, .ref u4, .ref u6]) nn_L2
    have hL2 : upd G16 L2 (.lst [.ref u1, .ref u2, .ref u4, .ref u6]) L2 = some (.lst [.ref u1, .ref u2, .ref u4, .ref u6]) := upd_same
    generalize upd G16 L2 (.lst [.ref u1, .ref u2, .ref u4, .ref u6]) = G17 at s17 hL2 ⊢
    have z10 : Same G10 G17 := ((((((s11.trans s12).trans s13).trans s14).trans s15).trans s16).trans s17)
    refine ⟨L1, L2, _, _, rfl, rfl, z10 _ _ hL1, hL2, (by show 12 + 4 ≤ sizeLine; decide), fun L nL => ?_⟩
    have s18 := same_new (o := .lst ([.ref t1, .ref t2, .ref t3, .ref t4, .ref t5, .ref t6, .ref t7, .ref t8, .non, .str "00", .int 7, .ref t9] ++ [.ref u1, .ref u2, .ref u4, .ref u6])) nL
    have hL : upd G17 L (.lst ([.ref t1, .ref t2, .ref t3, .ref t4, .ref t5, .ref t6, .ref t7, .ref t8, .non, .str "00", .int 7, .ref t9] ++ [.ref u1, .ref u2, .ref u4, .ref u6])) L = some (.lst ([.ref t1, .ref t2, .ref t3, .ref t4, .ref t5, .ref t6, .ref t7, .ref t8, .non, .str "00", .int 7, .ref t9] ++ [.ref u1, .ref u2, .ref u4, .ref u6])) := upd_same
    generalize upd G17 L (.lst ([.ref t1, .ref t2, .ref t3, .ref t4, .ref t5, .ref t6, .ref t7, .ref t8, .non, .str "00", .int 7, .ref t9] ++ [.ref u1, .ref u2, .ref u4, .ref u6])) = GO at s18 hL ⊢
    have y17 : Same G17 GO := s18
    have y16 := s17.trans y17
    have y15 := s16.trans y16
    have y14 := s15.trans y15
    have y13 := s14.trans y14
    have y12 := s13.trans y13
    have y11 := s12.trans y12
    have y10 := s11.trans y11
    have y9 := s10.trans y10
    have y8 := s9.trans y9
    have y7 := s8.trans y8
    have y6 := s7.trans y7
    have y5 := s6.trans y6
    have y4 := s5.trans y5
    have y3 := s4.trans y4
    have y2 := s3.trans y3
    have y1 := s2.trans y2
    have sO : Same G0 GO := s1.trans y1
    have hodd : ∀ x ∈ ([.ref t1, .ref t2, .ref t3, .ref t4, .ref t5, .ref t6, .ref t7, .ref t8, .non, .str "00", .int 7, .ref t9] ++ [.ref u1, .ref u2, .ref u4, .ref u6] : List V), ElR K GO x none := by
      intro x hx
      simp only [List.cons_append, List.nil_append, List.mem_cons, List.not_mem_nil, or_false] at hx
      rcases hx with z | z | z | z | z | z | z | z | z | z | z | z | z | z | z | z <;> subst z
      · exact odd2 (y1 _ _ h1) (pl_yes ⟨by decide, by decide⟩) (pl_no (by decide)) rfl
      · exact odd2 (y2 _ _ h2) (pl_no (by decide)) (pl_yes ⟨by decide, by decide⟩) rfl
      · exact odd2 (y3 _ _ h3) (pl_no (by decide)) (pl_yes ⟨by decide, by decide⟩) rfl
      · exact odd2 (y4 _ _ h4) (pl_oth (.bl _) (by decide)) (pl_yes ⟨by decide, by decide⟩) rfl
      · exact odd2 (y5 _ _ h5) (pl_yes ⟨by decide, by decide⟩) (pl_oth (.bl _) (by decide)) rfl
      · exact oddN (SqT.of (y6 _ _ h6)) (by decide)
      · exact oddN (SqT.of (y7 _ _ h7)) (by decide)
      · exact oddO (.lst (y8 _ _ h8)) (by decide)
      · exact oddO .non (by decide)
      · exact oddO (.str _) (by decide)
      · exact oddO (.int _) (by decide)
      · exact oddN (SqT.of (y9 _ _ h9)) (by decide)
      · exact odd2 (y11 _ _ g1) (pl_yes ⟨by decide, by decide⟩) (pl_oth (.str _) (by decide)) rfl
      · exact oddO (.dct (y12 _ _ g2)) (by decide)
      · exact odd2 (y14 _ _ g4) (pl_oth (.lst (y13 _ _ g3)) (by decide)) (pl_yes ⟨by decide, by decide⟩) rfl
      · exact odd2 (y16 _ _ g6) (pl_yes ⟨by decide, by decide⟩) (pl_oth (.dct (y15 _ _ g5)) (by decide)) rfl
    have poO := po2.same sO
    have nLp : L ≠ p := Ne.symm ((po2.same (s1.trans (s2.trans (s3.trans (s4.trans (s5.trans (s6.trans (s7.trans (s8.trans (s9.trans (s10.trans z10))))))))))).ne nL)
    have kxO : KeepX p H GO := kx0.trans (.of_same sO)
    have hx := same_seqT sO hx1
    have hc := cells_kt (.of_same sO) hc1
    have hplO : PlanAt K GO a cs := ⟨xs, hx, hc⟩
    have hels : Els K GO xs (cs.map some) := els_cells hc gd.grid
    have fin : ∀ (H' : Hp) (v : V) (b : Verd), Same GO H' → PlanV K H' v b → Q v H' := fun H' v b s hv => q H' v b (kxO.trans (.of_same s)) (poO.same s) hv
    clear y17 y16 y15 y14 y13 y12 y11 y10 y9 y8 y7 y6 y5 y4 y3 y2 y1 z10
    -- mode 0
    refine ⟨_, rfl, rfl, _, rfl, ite2 (fun _ => ?_) (fun _ => ?_)⟩
    · refine ⟨(by show 0 ≤ sizeLine; decide), fun v1 nn_v1 => ?_⟩
      have r1 := same_new (o := .tup []) nn_v1
      have e1 : upd GO v1 (.tup []) v1 = some (.tup []) := upd_same
      generalize upd GO v1 (.tup []) = A1 at r1 e1 ⊢
      refine ⟨(by show 0 ≤ sizeLine; decide), fun v2 nn_v2 => ?_⟩
      have r2 := same_new (o := .lst []) nn_v2
      have e2 : upd A1 v2 (.lst []) v2 = some (.lst []) := upd_same
      generalize upd A1 v2 (.lst []) = A2 at r2 e2 ⊢
      refine fun v3 nn_v3 => ?_
      have r3 := same_new (o := .dK []) nn_v3
      have e3 : upd A2 v3 (.dK []) v3 = some (.dK []) := upd_same
      generalize upd A2 v3 (.dK []) = A3 at r3 e3 ⊢
      refine ⟨_, rfl, a, xs, rfl, .inr (same_seqT ((r1.trans r2).trans r3) hx), fun v4 nn_v4 => ?_⟩
      have r4 := same_new (o := .lst xs) nn_v4
      have e4 : upd A3 v4 (.lst xs) v4 = some (.lst xs) := upd_same
      generalize upd A3 v4 (.lst xs) = A4 at r4 e4 ⊢
      refine ⟨_, rfl, (by show 1 ≤ sizeLine; decide), fun v5 nn_v5 => ?_⟩
      have r5 := same_new (o := .tup [.ref a]) nn_v5
      have e5 : upd A4 v5 (.tup [.ref a]) v5 = some (.tup [.ref a]) := upd_same
      generalize upd A4 v5 (.tup [.ref a]) = A5 at r5 e5 ⊢
      refine ⟨(by show 0 ≤ sizeLine; decide), fun v6 nn_v6 => ?_⟩
      have r6 := same_new (o := .tup []) nn_v6
      have e6 : upd A5 v6 (.tup []) v6 = some (.tup []) := upd_same
      generalize upd A5 v6 (.tup []) = A6 at r6 e6 ⊢
      refine ⟨(by show 1 ≤ sizeLine; decide), fun v7 nn_v7 => ?_⟩
      have r7 := same_new (o := .tup [.ref v6]) nn_v7
      have e7 : upd A6 v7 (.tup [.ref v6]) v7 = some (.tup [.ref v6]) := upd_same
      generalize upd A6 v7 (.tup [.ref v6]) = A7 at r7 e7 ⊢
      refine ⟨(by show 1 ≤ sizeLine; decide), fun v8 nn_v8 => ?_⟩
      have r8 := same_new (o := .tup [.non]) nn_v8
      have e8 : upd A7 v8 (.tup [.non]) v8 = some (.tup [.non]) := upd_same
      generalize upd A7 v8 (.tup [.non]) = A8 at r8 e8 ⊢
      refine ⟨(by show 12 ≤ sizeLine; decide), fun S nS => ?_⟩
      have r9 := same_new (o := .lst [.non, .int 0, .bl true, .str "plan", .ref v1, .ref v2, .ref v3, .ref v4, .ref v5, .ref v7, .int 7, .ref v8]) nS
      have hS : upd A8 S (.lst [.non, .int 0, .bl true, .str "plan", .ref v1, .ref v2, .ref v3, .ref v4, .ref v5, .ref v7, .int 7, .ref v8]) S = some (.lst [.non, .int 0, .bl true, .str "plan", .ref v1, .ref v2, .ref v3, .ref v4, .ref v5, .ref v7, .int 7, .ref v8]) := upd_same
      generalize upd A8 S (.lst [.non, .int 0, .bl true, .str "plan", .ref v1, .ref v2, .ref v3, .ref v4, .ref v5, .ref v7, .int 7, .ref v8]) = A9 at r9 hS ⊢
      have x8 := r8.trans r9
      have x7 := r7.trans x8
      have x6 := r6.trans x7
      have x5 := r5.trans x6
      have x4 := r4.trans x5
      have x3 := r3.trans x4
      have x2 := r2.trans x3
      have xO : Same GO A9 := r1.trans x2
      have hv : ∀ x ∈ ([.non, .int 0, .bl true, .str "plan", .ref v1, .ref v2, .ref v3, .ref v4, .ref v5, .ref v7, .int 7, .ref v8] : List V), ∃ b, PlanV K A9 x b := by
        intro x hx'
        simp only [List.mem_cons, List.not_mem_nil, or_false] at hx'
        rcases hx' with z | z | z | z | z | z | z | z | z | z | z | z <;> subst z
        · exact ⟨.non, .inl ⟨_, .non, by decide⟩⟩
        · exact ⟨.non, .inl ⟨_, .int _, by decide⟩⟩
        · exact ⟨.non, .inl ⟨_, .bl _, by decide⟩⟩
        · exact ⟨.non, .inl ⟨_, .str _, by decide⟩⟩
        · exact planV_of (SqT.of (x2 _ _ e1)) .nil
        · exact ⟨.non, .inl ⟨_, .lst (x3 _ _ e2), by decide⟩⟩
        · exact ⟨.non, .inl ⟨_, .dct (x4 _ _ e3), by decide⟩⟩
        · exact ⟨.non, .inl ⟨_, .lst (x5 _ _ e4), by decide⟩⟩
        · exact planV_of (SqT.of (x6 _ _ e5)) (.cons (odd_plan (hplO.kt (.of_same xO))) .nil)
        · exact planV_of (SqT.of (x8 _ _ e7)) (.cons (oddN (SqT.of (x7 _ _ e6)) (by decide)) .nil)
        · exact ⟨.non, .inl ⟨_, .int _, by decide⟩⟩
        · exact planV_of (SqT.of (r9 _ _ e8)) (.cons (oddO .non (by decide)) .nil)
      have poS := poO.same xO
      refine ⟨_, rfl, _, rfl, p, 12, rfl, poS, by decide, by decide, fun B r kb pob i0 i1 => ?_⟩
      obtain ⟨x, hxm, hat⟩ := pick_ok (items := [.non, .int 0, .bl true, .str "plan", .ref v1, .ref v2, .ref v3, .ref v4, .ref v5, .ref v7, .int 7, .ref v8]) i0 i1
      obtain ⟨b, hb⟩ := hv x hxm
      have nSp : S ≠ p := Ne.symm ((poO.same (((((((r1.trans r2).trans r3).trans r4).trans r5).trans r6).trans r7).trans r8)).ne nS)
      exact ⟨S, _, r, x, rfl, rfl, SqL.of (kb _ _ nSp hS), hat, q B x b ((kxO.trans (.of_same xO)).trans kb) pob (hb.keepX poS pob kb)⟩
    -- mode 1
    refine ⟨_, rfl, rfl, _, rfl, ite2 (fun _ => ?_) (fun _ => ?_)⟩
    · refine ⟨25, rfl, by decide, by decide, fun D nD => ?_⟩
      refine lc_range (lo := 0) (n := 25) (fun j G => ∃ acc : List V, G D = some (.lst acc) ∧ acc.length = j ∧ (∀ b o, b ≠ D → GO b = some o → G b = some o)) ?_ ?_ ?_
      · exact ⟨[], upd_same, rfl, fun b o n e => by rw [upd_ne n]; exact e⟩
      · rintro j G hj ⟨acc, a1, a2, a3⟩
        refine ⟨rfl, _, rfl, _, _, rfl, rfl, ⟨by decide, by decide⟩, _, rfl, _, _, rfl, rfl, by show (0 : Int) < 8; decide, (by show 2 ≤ sizeLine; decide), fun t nt => ?_⟩
        refine ⟨acc, same_new nt _ _ a1, small64 (by omega), _, upd_same, by rw [List.length_append, a2]; rfl, fun b o n e => ?_⟩
        rw [upd_ne n]
        exact same_new nt _ _ (a3 b o n e)
      · rintro G ⟨acc, a1, a2, a3⟩
        have sD : Same GO G := fun b o e => a3 b o (ne_of_none e nD) e
        refine ⟨D, acc, rfl, .inl ⟨SqL.of a1, fun v1 n1 => ?_⟩⟩
        have r1 := same_new (o := .tup acc) n1
        have e1 : upd G v1 (.tup acc) v1 = some (.tup acc) := upd_same
        generalize upd G v1 (.tup acc) = A1 at r1 e1 ⊢
        refine ⟨(by show 1 ≤ sizeLine; decide), fun v2 n2 => ?_⟩
        have r2 := same_new (o := .tup [.non]) n2
        have e2 : upd A1 v2 (.tup [.non]) v2 = some (.tup [.non]) := upd_same
        generalize upd A1 v2 (.tup [.non]) = A2 at r2 e2 ⊢
        refine ⟨v2, 25, [.non], rfl, rfl, SqT.of e2, by simp, by decide, by decide, by decide, fun v3 n3 => ?_⟩
        have r3 := same_new (o := .tup (List.replicate (25 : Int).toNat [V.non]).flatten) n3
        have e3 : upd A2 v3 (.tup (List.replicate (25 : Int).toNat [V.non]).flatten) v3 = some (.tup (List.replicate (25 : Int).toNat [V.non]).flatten) := upd_same
        generalize upd A2 v3 (.tup (List.replicate (25 : Int).toNat [V.non]).flatten) = A3 at r3 e3 ⊢
        have sA3 : Same GO A3 := ((sD.trans r1).trans r2).trans r3
        have hne : xs ≠ [] := fun z => by
          rw [z] at hlen
          have : 0 = cs.length := hlen
          omega
        refine ⟨_, rfl, a, 25, xs, rfl, rfl, same_seqT sA3 hx, hne, by decide, by decide, by omega, fun v4 n4 => ?_⟩
        have r4 := same_new (o := .tup (List.replicate (25 : Int).toNat xs).flatten) n4
        have e4 : upd A3 v4 (.tup (List.replicate (25 : Int).toNat xs).flatten) v4 = some (.tup (List.replicate (25 : Int).toNat xs).flatten) := upd_same
        generalize upd A3 v4 (.tup (List.replicate (25 : Int).toNat xs).flatten) = A4 at r4 e4 ⊢
        refine ⟨(by show 3 ≤ sizeLine; decide), fun S nS => ?_⟩
        have r5 := same_new (o := .lst [.ref v1, .ref v3, .ref v4]) nS
        have hS : upd A4 S (.lst [.ref v1, .ref v3, .ref v4]) S = some (.lst [.ref v1, .ref v3, .ref v4]) := upd_same
        have poS4 := poO.same (sA3.trans r4)
        generalize upd A4 S (.lst [.ref v1, .ref v3, .ref v4]) = A5 at r5 hS ⊢
        have sA5 : Same GO A5 := (sA3.trans r4).trans r5
        have poS := poO.same sA5
        have hv : ∀ x ∈ ([.ref v1, .ref v3, .ref v4] : List V), ∃ b, PlanV K A5 x b := by
          intro x hx'
          simp only [List.mem_cons, List.not_mem_nil, or_false] at hx'
          rcases hx' with z | z | z <;> subst z
          · exact ⟨.non, .inr ⟨v1, acc, rfl, SqT.of ((((r2.trans r3).trans r4).trans r5) _ _ e1), .inr (by omega)⟩⟩
          · exact ⟨.non, .inr ⟨v3, _, rfl, SqT.of ((r4.trans r5) _ _ e3), .inr (by decide)⟩⟩
          · refine ⟨.non, .inr ⟨v4, _, rfl, SqT.of (r5 _ _ e4), .inr ?_⟩⟩
            have e25 : (25 : Int).toNat = 25 := rfl
            rw [e25, List.length_flatten, List.map_replicate, List.sum_replicate_nat]
            omega
        refine ⟨_, rfl, p, 3, rfl, poS, by decide, by decide, fun B r kb pob i0 i1 => ?_⟩
        obtain ⟨x, hxm, hat⟩ := pick_ok (items := [.ref v1, .ref v3, .ref v4]) i0 i1
        obtain ⟨b, hb⟩ := hv x hxm
        have nSp : S ≠ p := Ne.symm (poS4.ne nS)
        exact ⟨S, _, r, x, rfl, rfl, SqL.of (kb _ _ nSp hS), hat, q B x b ((kxO.trans (.of_same sA5)).trans kb) pob (hb.keepX poS pob kb)⟩
    -- mode 2
    refine ⟨_, rfl, rfl, _, rfl, ite2 (fun _ => ?_) (fun _ => ?_)⟩
    · obtain ⟨c, hcn, t, ht, hct⟩ := paired_get hc (List.getElem?_eq_getElem hn)
      refine ⟨_, rfl, _, rfl, _, rfl, a, xs, _, xs[n], rfl, rfl, hx, atI_nat (List.getElem?_eq_getElem hn), (by show 1 ≤ sizeLine; decide), fun v1 n1 => ?_⟩
      have r1 := same_new (o := .tup [xs[n]]) n1
      have e1 : upd GO v1 (.tup [xs[n]]) v1 = some (.tup [xs[n]]) := upd_same
      generalize upd GO v1 (.tup [xs[n]]) = A1 at r1 e1 ⊢
      refine catA_ok (same_seqT r1 hx) (SqT.of e1) (by show xs.length + 1 ≤ 64; omega) (fun A2 u r2 hu => ?_)
      have sA := r1.trans r2
      obtain ⟨b, hb⟩ := planV_of hu (paired_append (els_same sA hels) (.cons (show ElR K A2 xs[n] (some c) from ⟨(show CellAt K GO xs[n] c from ⟨t, ht, hct⟩).kt (.of_same sA), gd.grid c (List.mem_of_getElem? hcn)⟩) .nil))
      exact fin A2 _ b sA hb
    -- mode 3
    refine ⟨_, rfl, rfl, _, rfl, ite2 (fun _ => ?_) (fun _ => ?_)⟩
    · refine ⟨_, rfl, a, xs, rfl, hx, fun v1 n1 => ?_⟩
      have r1 := same_new (o := .tup xs.reverse) n1
      obtain ⟨b, hb⟩ := planV_of (K := K) (H := upd GO v1 (.tup xs.reverse)) (SqT.of upd_same) (paired_rev (els_same r1 hels))
      exact fin _ _ b r1 hb
    -- mode 4
    refine ⟨_, rfl, rfl, _, rfl, ite2 (fun _ => ?_) (fun _ => ?_)⟩
    · exact ⟨_, rfl, fin GO _ .ok (Same.refl _) (planV_good hplO gd hl)⟩
    -- bent
    refine bend_ok (p := p) (u := a) (L := L) (n := n) rfl rfl rfl rfl poO nLp hx hels hn (by omega) hL rfl hodd (fun B u ys rs kb pob hu he hyl => ?_)
    have hLB := kb _ _ nLp hL
    have hoddB : ∀ x ∈ ([.ref t1, .ref t2, .ref t3, .ref t4, .ref t5, .ref t6, .ref t7, .ref t8, .non, .str "00", .int 7, .ref t9] ++ [.ref u1, .ref u2, .ref u4, .ref u6] : List V), ElR K B x none := fun x hx => (hodd x hx).keepX poO pob kb
    have kxB := kxO.trans kb
    refine ⟨_, rfl, rfl, _, rfl, ite2 (fun _ => ?_) (fun _ => ?_)⟩
    · refine ⟨_, rfl, _, rfl, a, xs, rfl, .inr (keepX_seqT poO kb hx), p, _, rfl, pob, by omega, by omega, fun B2 at2 kb2 pob2 b0 b1 => ?_⟩
      obtain ⟨n2, rfl⟩ := Int.eq_ofNat_of_zero_le b0
      refine bend_ok (p := p) (u := u) (L := L) (n := n2) rfl rfl rfl rfl pob2 nLp (keepX_seqT pob kb2 hu) (Paired.mono (fun _ _ q => q.keepX pob pob2 kb2) he) (by omega) (by omega) (kb2 _ _ nLp hLB) rfl
        (fun x hx => (hoddB x hx).keepX pob pob2 kb2) (fun B3 u' ys' rs' kb3 pob3 hu' he' _ => ?_)
      obtain ⟨b, hb⟩ := planV_of hu' he'
      exact q B3 _ b ((kxB.trans kb2).trans kb3) pob3 hb
    · obtain ⟨b, hb⟩ := planV_of hu he
      exact ⟨_, rfl, q B _ b kxB pob hb⟩
end
end KS
/-! things stay what they are when lists change -/
namespace KS
open PySem PySem.Spec PyProof.Rows L2 LamX NdefX
/-- all stays but tables and what lists hold -/
def KeepK (H H' : Hp) : Prop := ∀ b o, H b = some o → (∀ ps, o ≠ .tbl ps) → H' b = some o ∨ ((∃ xs, o = .lst xs) ∧ ∃ ys, H' b = some (.lst ys))
theorem KeepK.of {H H' : Hp} (s : Same H H') : KeepK H H' := fun b o e _ => .inl (s b o e)
theorem KeepK.ofN {H H' : Hp} (s : ExtN H H') : KeepK H H' := fun b o e n => .inl (s b o e n)
theorem KeepK.refl (H : Hp) : KeepK H H := fun b o e _ => .inl e
theorem KeepK.trans {H H1 H2 : Hp} (a : KeepK H H1) (b : KeepK H1 H2) : KeepK H H2 := fun c o e n => by
  rcases a c o e n with z | ⟨⟨xs, rfl⟩, ys, z⟩
  · exact b c o z n
  · rcases b c _ z (fun _ y => nomatch y) with y | ⟨_, ws, y⟩
    · exact .inr ⟨⟨xs, rfl⟩, ys, y⟩
    · exact .inr ⟨⟨xs, rfl⟩, ws, y⟩
theorem KeepK.put {H : Hp} {L : Addr} {xs ys : List V} (h : H L = some (.lst xs)) : KeepK H (upd H L (.lst ys)) := fun b o e _ => by
  by_cases z : b = L
  · subst z
    rw [h] at e
    cases e
    exact .inr ⟨⟨xs, rfl⟩, ys, upd_same⟩
  · exact .inl (by rw [upd_ne z]; exact e)
theorem KeepK.ofX {H H' : Hp} {p : Addr} (hp : PoolO (H p)) (hp' : PoolO (H' p)) (k : KeepX p H H') : KeepK H H' := fun b o e _ => by
  by_cases z : b = p
  · subst z
    obtain ⟨_, _, _, h1, _⟩ := hp
    obtain ⟨_, _, _, h2, _⟩ := hp'
    rw [h1] at e
    cases e
    exact .inr ⟨⟨_, rfl⟩, _, h2⟩
  · exact .inl (k b o z e)
theorem ktK {K : PySem.W.Frag} {G G' : Hp} (e : KeepK G G') : KT K G G' := fun a xs q => by
  have go : ∀ {o : HO}, (∀ ps, o ≠ .tbl ps) → (∀ ys, o ≠ .lst ys) → G a = some o → G' a = some o := fun {o} n1 n2 h => by
    rcases e a o h n1 with z | ⟨⟨ys, z⟩, _⟩
    · exact z
    · exact absurd z (n2 ys)
  rcases q with (q | ⟨ob, q⟩) | q
  · exact .inl (.inl (go (fun ps z => nomatch z) (fun ps z => nomatch z) q))
  · exact .inl (.inr ⟨ob, go (fun ps z => nomatch z) (fun ps z => nomatch z) q⟩)
  · exact .inr q
section
variable {K : PySem.W.Frag} {H H' : Hp}
theorem Oth.kk {v : V} {t : String} (s : KeepK H H') (h : Oth K H v t) : Oth K H' v t := by
  cases h with
  | non => exact .non
  | bl b => exact .bl b
  | int i => exact .int i
  | str x => exact .str x
  | lst e =>
    rcases s _ _ e (fun ps z => nomatch z) with z | ⟨_, ys, z⟩
    · exact .lst z
    · exact .lst z
  | dct e =>
    rcases s _ _ e (fun ps z => nomatch z) with z | ⟨⟨_, z⟩, _⟩
    · exact .dct z
    · cases z
  | tup e => exact .tup (ktK s _ _ e)
theorem PlR.kk {v : V} {b : Bool} (s : KeepK H H') (h : PlR K H v b) : PlR K H' v b := by
  cases b with
  | true => exact h
  | false =>
    rcases h with h | ⟨t, h, n⟩
    · exact .inl h
    · exact .inr ⟨t, h.kk s, n⟩
theorem ElR.kk {x : V} {o : Option Cell} (s : KeepK H H') (h : ElR K H x o) : ElR K H' x o := by
  cases o with
  | some c => exact ⟨h.1.kt (ktK s), h.2⟩
  | none =>
    rcases h with ⟨t, h, n⟩ | ⟨t, ys, e, h, n⟩ | ⟨t, y0, y1, b0, b1, e, h, p0, p1, n⟩
    · exact .inl ⟨t, h.kk s, n⟩
    · exact .inr (.inl ⟨t, ys, e, ktK s _ _ h, n⟩)
    · exact .inr (.inr ⟨t, y0, y1, b0, b1, e, ktK s _ _ h, p0.kk s, p1.kk s, n⟩)
theorem els_kk (s : KeepK H H') {xs : List V} {rs : List (Option Cell)} (h : Els K H xs rs) : Els K H' xs rs := Paired.mono (fun _ _ q => q.kk s) h
theorem PlanV.kk {v : V} {b : Verd} (s : KeepK H H') (h : PlanV K H v b) : PlanV K H' v b := by
  cases b with
  | ok =>
    obtain ⟨a, xs, rs, e, h1, h2, h3, h4, h5⟩ := h
    exact ⟨a, xs, rs, e, ktK s _ _ h1, h2, h3, els_kk s h4, h5⟩
  | non =>
    rcases h with ⟨t, h, n⟩ | ⟨a, xs, e, h, n⟩
    · exact .inl ⟨t, h.kk s, n⟩
    · exact .inr ⟨a, xs, e, ktK s _ _ h, n⟩
  | «at» i =>
    obtain ⟨a, xs, rs, e, h1, h2, h3, h4, h5⟩ := h
    exact ⟨a, xs, rs, e, ktK s _ _ h1, h2, h3, els_kk s h4, h5⟩
theorem BwR.kk {v : V} {lo hi : Int} {b : Bool} (s : KeepK H H') (h : BwR K H v lo hi b) : BwR K H' v lo hi b := by
  cases b with
  | true => exact h
  | false =>
    rcases h with h | ⟨t, h1, h2⟩
    · exact .inl h
    · exact .inr ⟨t, h1.kk s, h2⟩
theorem VlR.kk {v : V} {o : Option Int} (s : KeepK H H') (h : VlR K H v o) : VlR K H' v o := by
  cases o with
  | some i => exact h
  | none => exact BwR.kk (lo := 1) (hi := 9999) (b := false) s (show BwR K H v 1 9999 false from h)
theorem vls_kk (s : KeepK H H') {xs : List V} {rs : List (Option Int)} (h : Vls K H xs rs) : Vls K H' xs rs := Paired.mono (fun _ _ q => q.kk s) h
theorem FilV.kk {n : Nat} {v : V} {b : Verd} (s : KeepK H H') (h : FilV K H n v b) : FilV K H' n v b := by
  cases b with
  | ok =>
    obtain ⟨a, xs, rs, e, h1, h2, h3, h4⟩ := h
    exact ⟨a, xs, rs, e, ktK s _ _ h1, h2, vls_kk s h3, h4⟩
  | non =>
    rcases h with ⟨t, h1, h2⟩ | ⟨a, xs, e, h1, h2⟩
    · exact .inl ⟨t, h1.kk s, h2⟩
    · exact .inr ⟨a, xs, e, ktK s _ _ h1, h2⟩
  | «at» i =>
    obtain ⟨a, xs, rs, e, h1, h2, h3, h4, h5⟩ := h
    exact ⟨a, xs, rs, e, ktK s _ _ h1, h2, vls_kk s h3, h4, h5⟩
end
theorem AnyF.kk {K : PySem.W.Frag} {H H' : Hp} {v : V} (s : KeepK H H') (h : AnyF K H v) : AnyF K H' v := fun n hn => (h n hn).imp fun _ z => z.kk s
end KS
namespace KS
open PySem PySem.Spec PyProof.Rows L2
abbrev sPlan : Stmt := topS 67
abbrev nPlan : List Str := ["_law_pool_here", "_law_most", "_law_mode", "_law_wide", "_law_high", "_law_top", "_law_left", "_law_every", "_law_step", "_law_low", "_law_far", "_law_side", "_law_spot"]
theorem scPlan : FnScope nPlan ["_law_pool_here", "_law_most"] (defScope sPlan) := ⟨rfl, rfl, rfl, by decide +kernel, rfl, by decide +kernel, by decide +kernel⟩
section
variable {P : Program} {w : World} {K : PySem.W.Frag} {mg : Str → Option Value} {base : Heap}
theorem ok_plan {f fD : Addr} {fd fdD : FuncData} (F : Fun K "_law_plan" "_law_plan" sPlan f fd) (GD : FnOk P w K mg base CX0 1 fD fdD ["_law_pool_here", "_law_most"] spDraw)
    (bD : Binds K fdD ["_law_pool_here", "_law_most"] []) (gD : mg "_law_draw" = some (.ref fD)) (kD : PySem.W.keepIn K (.ref fD) = true)
    (mn : mg "min" = none) (mr : mg "range" = none) (ml : mg "len" = none) (mt : mg "tuple" = none) (ms : mg "sum" = none) :
    FnOk P w K mg base CX0 2 f fd ["_law_pool_here", "_law_most"] (spPlan K) := by
  refine F.ok scPlan (fun vs H Q E h => ?_) (fun cdv A outer s H vs Q E hr h => ?_)
  · obtain ⟨p, m, rfl, _⟩ := h
    rfl
  · obtain ⟨p, m, rfl, po, m0, m1, q⟩ := h
    have nd := scPlan.nd
    refine ⟨_, pss_cons (ps_par (i := 2) (j := 3) (by rfl) nd rfl rfl (by decide) rfl rfl
        (pa_cons (pe_call GD hr (by rfl) gD kD bD .nil pass0 (pa_cons (pv 0) (pa_cons pe_int pa_nil)))
          (pa_cons (pe_op op_add pe_int (pe_call GD hr (by rfl) gD kD bD .nil pass0 (pa_cons (pv 0) (pa_cons (pe_callB (call_min2 rfl) (by rfl) mn (by decide +kernel) (pa_cons pe_int (pa_cons (pv 1) pa_nil))) pa_nil)))) pa_nil)) (by rfl))
      (pss_cons (ps_set (i := 4) nd rfl (.inl rfl) (pe_op op_add pe_int (pe_call GD hr (by rfl) gD kD bD .nil pass0 (pa_cons (pv 0)
          (pa_cons (pe_callB (call_min2 rfl) (by rfl) mn (by decide +kernel) (pa_cons pe_int (pa_cons (pe_op op_fdiv (pv 1) (pv 3)) pa_nil))) pa_nil)))))
      (pss_cons (ps_if (pt_cmpR op_eq (pv 2) pe_int (nomark _)) (pss_one (ps_par (i := 4) (j := 3) (by rfl) nd rfl rfl (by decide) rfl rfl
          (pa_cons (pe_op op_add pe_int (pe_call GD hr (by rfl) gD kD bD .nil pass0 (pa_cons (pv 0) (pa_cons pe_int pa_nil))))
            (pa_cons (pe_op op_add pe_int (pe_call GD hr (by rfl) gD kD bD .nil pass0 (pa_cons (pv 0) (pa_cons pe_int pa_nil)))) pa_nil)) (by rfl))) pss_nil)
      (pss_cons (ps_asg (pe_tup (pa_cons (pe_call GD hr (by rfl) gD kD bD .nil pass0 (pa_cons (pv 0) (pa_cons (pe_op op_sub pe_int (pv 4)) pa_nil)))
            (pa_cons (pe_call GD hr (by rfl) gD kD bD .nil pass0 (pa_cons (pv 0) (pa_cons (pe_op op_sub pe_int (pv 3)) pa_nil))) (pa_cons (pe_lst pa_nil) pa_nil))))
          (pg_tup (by rfl) (pgs_cons (pg_name (i := 5) nd rfl (.inr rfl)) (pgs_cons (pg_name (i := 6) nd rfl (.inr rfl)) (pgs_cons (pg_name (i := 7) nd rfl (.inl rfl)) pgs_nil)))))
      (pss_cons (ps_for PassesOwn.never rfl (pi_range1 (by rfl) mr (pa_cons (pv 4) pa_nil)) (pg_name (i := 8) nd rfl (.inr rfl))
          (pss_one (ps_expr (pe_bm PySem.F.plainAttrs_list PySem.F.slot_list_extend PySem.F.type_list_extend mt_extend (pv 7)
            (pa_cons (pe_lc (own := [("_law_side", 11)]) (g := gName 11) (tt := tYes) rfl nd (pi_range1 (by rfl) mr (pa_cons (pv 3) pa_nil)) (blkOk_by (N := nPlan) (sc := defScope sPlan) (by decide +kernel))
              (fun _ _ _ _ _ => pg_name (i := 11) nd rfl (Or.inl rfl)) (fun _ _ _ _ _ => pts_nil) (fun _ _ _ _ _ => pe_tup (pa_cons (pe_op op_add (pv 5) (pv 8)) (pa_cons (pe_op op_add (pv 6) (pv 11)) pa_nil)))) pa_nil)))))
      (pss_cons (ps_if (pt_cmpR op_eq (pv 2) pe_int (nomark _)) (pss_one (ps_set (i := 7) nd rfl (.inl rfl) (pe_orT
          (pe_lc (own := [("_law_spot", 12)]) (g := gName 12) rfl nd (pi_list (pv 7)) (blkOk_by (N := nPlan) (sc := defScope sPlan) (by decide +kernel))
            (fun _ _ _ _ _ => pg_name (i := 12) nd rfl (Or.inl rfl)) (fun _ _ _ _ _ => pts_one (pt_cmpR op_gt (pe_call GD hr (by rfl) gD kD bD .nil pass0 (pa_cons (pv 0) (pa_cons pe_int pa_nil))) pe_int (nomark _))) (fun _ _ _ _ _ => pv 12)) (pe_one (pv 7))))) pss_nil)
      (pss_cons (ps_if (pt_cmpR op_eq (pv 2) pe_int (nomark _)) (pss_one (ps_set (i := 7) nd rfl (.inl rfl) (pe_orT
          (pe_lc (own := [("_law_spot", 12)]) (g := gName 12) rfl nd (pi_list (pv 7)) (blkOk_by (N := nPlan) (sc := defScope sPlan) (by decide +kernel))
            (fun _ _ _ _ _ => pg_name (i := 12) nd rfl (Or.inl rfl)) (fun _ _ _ _ _ => pts_one (pt_cmpR op_gt (pe_call GD hr (by rfl) gD kD bD .nil pass0 (pa_cons (pv 0) (pa_cons pe_int pa_nil))) pe_int (nomark _))) (fun _ _ _ _ _ => pv 12)) (pe_one (pv 7))))) pss_nil)
      (pss_cons (ps_if (pt_cmpR op_eq (pv 2) pe_int (nomark _)) (pss_cons (ps_set (i := 9) nd rfl (.inr rfl) (pe_op op_add (pe_op op_add (pv 5) (pv 6)) (pe_call GD hr (by rfl) gD kD bD .nil pass0 (pa_cons (pv 0) (pa_cons pe_int pa_nil)))))
          (pss_cons (ps_set (i := 10) nd rfl (.inr rfl) (pe_op op_sub (pe_op op_sub (pe_op op_add (pe_op op_add (pe_op op_add (pv 5) (pv 6)) (pv 4)) (pv 3)) pe_int) (pe_call GD hr (by rfl) gD kD bD .nil pass0 (pa_cons (pv 0) (pa_cons pe_int pa_nil)))))
          (pss_one (ps_set (i := 7) nd rfl (.inl rfl) (pe_orT
          (pe_lc (own := [("_law_spot", 12)]) (g := gName 12) rfl nd (pi_list (pv 7)) (blkOk_by (N := nPlan) (sc := defScope sPlan) (by decide +kernel))
            (fun _ _ _ _ _ => pg_name (i := 12) nd rfl (Or.inl rfl)) (fun _ _ _ _ _ => pts_one (pt_chain op_le op_le (pv 9) (pe_callB (id := "sum") (r := rSumT K) (cr_sumT rfl) (by rfl) ms (by decide +kernel) (pa_cons (pv 12) pa_nil)) (pv 10))) (fun _ _ _ _ _ => pv 12)) (pe_one (pv 7))))))) pss_nil)
      (pss_cons (ps_while PassesOwn.never (pt_cmpR op_gt (pe_callB call_len_seq (by rfl) ml PySem.boot_len (pa_cons (pv 7) pa_nil)) (pv 1) (nomark _))
          (pss_one (ps_expr (pe_bm PySem.F.plainAttrs_list PySem.F.slot_list_pop PySem.F.type_list_pop mt_popAt (pv 7)
            (pa_cons (pe_call GD hr (by rfl) gD kD bD .nil pass0 (pa_cons (pv 0) (pa_cons (pe_callB call_len_seq (by rfl) ml PySem.boot_len (pa_cons (pv 7) pa_nil)) pa_nil))) pa_nil)))))
      (pss_one (ps_ret (pe_callTy call_tuple_of (by rfl) mt (by decide +kernel) (pa_cons (pv 7) pa_nil)))))))))))), ?_⟩
    -- mode, wide
    refine ⟨_, rfl, p, 4, rfl, po, by decide, by decide, fun H1 mode k1 po1 _ _ => ?_⟩
    have mb : 0 < (if m < 8 then m else 8 : Int) ∧ (if m < 8 then m else 8 : Int) ≤ 8 ∧ (if m < 8 then m else 8 : Int) ≤ m := by
      by_cases c : m < 8
      · rw [if_pos c]
        omega
      · rw [if_neg c]
        omega
    refine ⟨_, rfl, _, rfl, 8, m, rfl, p, _, rfl, po1, mb.1, by omega, fun H2 w k2 po2 w0 w1 => ?_⟩
    refine ⟨_, _, rfl, rfl, _, _, rfl, ?_⟩
    -- high
    have qd : 1 ≤ m / (1 + w) := by
      have : (1 : Int) * (1 + w) ≤ m := by omega
      exact (Int.le_ediv_iff_mul_le (by omega)).mpr this
    have hb : 0 < (if m / (1 + w) < 8 then m / (1 + w) else 8 : Int) ∧ (if m / (1 + w) < 8 then m / (1 + w) else 8 : Int) ≤ 8 := by
      by_cases c : m / (1 + w) < 8
      · rw [if_pos c]
        omega
      · rw [if_neg c]
        omega
    refine ⟨_, rfl, _, rfl, _, rfl, _, _, rfl, rfl, ⟨by omega, by omega⟩, 8, _, rfl, p, _, rfl, po2, hb.1, by omega, fun H3 h k3 po3 h0 h1 => ?_⟩
    refine ⟨_, _, rfl, rfl, ?_⟩
    refine par_if (p := p) (m := m) (mode := mode) (wide := 1 + w) (high := 1 + h) po3 ⟨by omega, by omega⟩ ⟨by omega, by omega⟩ (fun wide high H4 k4 po4 hw hh => ?_)
    have kx4 : KeepX p H H4 := ((k1.trans k2).trans k3).trans k4
    -- top, left, every
    refine ⟨_, rfl, _, rfl, _, _, rfl, rfl, p, _, rfl, po4, by omega, by omega, fun H5 top k5 po5 t0 t1 => ?_⟩
    refine ⟨_, rfl, _, rfl, _, _, rfl, rfl, p, _, rfl, po5, by omega, by omega, fun H6 left k6 po6 l0 l1 => ?_⟩
    refine ⟨Nat.zero_le _, fun e ne => ⟨(by show 3 ≤ sizeLine; decide), fun T nT => ?_⟩⟩
    have kx6 : KeepX p H H6 := (kx4.trans k5).trans k6
    have s7 := same_new (o := .lst []) ne
    have s8 := same_new (o := .tup [.int top, .int left, .ref e]) nT
    have po8 := (po6.same s7).same s8
    have he8 := s8 _ _ (show upd H6 e (.lst []) e = _ from upd_same)
    refine ⟨T, _, rfl, SqT.of upd_same, rfl, _, _, rfl, _, _, rfl, _, _, rfl, rfl, ?_⟩
    have nep : e ≠ p := Ne.symm (po6.ne ne)
    have heH : H e = none := by
      cases z : H e with
      | none => rfl
      | some o =>
        have := kx6 e o nep z
        rw [ne] at this
        cases this
    -- the rows
    refine ⟨_, rfl, high, rfl, by omega, by omega, for_range (lo := 0) (n := high.toNat) (fun i σ H' => ∃ (y8 : Option V) (xs : List V) (cs : List Cell),
      σ = [some (.ref p), some (.int m), some (.int mode), some (.int wide), some (.int high), some (.int top), some (.int left), some (.ref e), y8, none, none, none, none] ∧
      KeepX p H H' ∧ PoolO (H' p) ∧ H' e = some (.lst xs) ∧ CellsAt K H' xs cs ∧ cs.Pairwise lt2 ∧ (∀ c ∈ cs, top ≤ c.1 ∧ c.1 < top + i ∧ left ≤ c.2 ∧ c.2 < left + wide) ∧ i ≤ cs.length ∧ cs.length ≤ 8 * i) ?_ ?_ ?_⟩
    · refine ⟨none, [], [], rfl, (kx6.trans (.of_same s7)).trans (.of_same s8), po8, he8, .nil, .nil, (fun c hc => nomatch hc), Nat.le_refl _, Nat.le_refl _⟩
    · rintro i σ H' hi ⟨y8, xs, cs, rfl, kx, po', he, hc, pw, bd, c0, c1⟩
      have hi' : (i : Int) < high := by omega
      have hlen := Paired.length hc
      refine ⟨_, rfl, .inl ⟨rfl, _, SqL.of he⟩, _, rfl, wide, rfl, by omega, by omega, fun d nd2 => ?_⟩
      have ned : e ≠ d := ne_of_none he nd2
      have npd : p ≠ d := po'.ne nd2
      refine lc_range (lo := 0) (n := wide.toNat) (fun j H2 => ∃ acc : List V, H2 d = some (.lst acc) ∧ CellsAt K H2 acc (rowCells (top + i) left j) ∧ (∀ b o, b ≠ d → H' b = some o → H2 b = some o)) ?_ ?_ ?_
      · exact ⟨[], upd_same, .nil, fun b o n z => by rw [upd_ne n]; exact z⟩
      · rintro j H2 hj ⟨acc, a1, a2, a3⟩
        refine ⟨rfl, _, rfl, _, rfl, _, _, rfl, rfl, _, rfl, _, rfl, _, _, rfl, rfl, (by show 2 ≤ sizeLine; decide), fun t nt => ?_⟩
        have ndt : d ≠ t := ne_of_none a1 nt
        have st := same_new (o := .tup [.int (top + (0 + (i : Int))), .int (left + (0 + (j : Int)))]) nt
        have hal : acc.length = j := by
          rw [Paired.length a2, rowCells_len]
        refine ⟨acc, st _ _ a1, small64 (by omega), acc ++ [.ref t], upd_same, ?_, fun b o n z => ?_⟩
        · rw [rowCells_succ]
          refine paired_append (cells_kt ((KT.of_same st).trans (KT.upd (st _ _ a1))) a2) (.cons ⟨t, rfl, SqT.of ?_⟩ .nil)
          rw [upd_ne (Ne.symm ndt), upd_same, Int.zero_add, Int.zero_add]
        · rw [upd_ne n]
          exact st _ _ (a3 b o n z)
      · rintro H2 ⟨acc, a1, a2, a3⟩
        have hw' : (wide.toNat : Int) = wide := Int.toNat_of_nonneg (by omega)
        have hal : acc.length = wide.toNat := by
          rw [Paired.length a2, rowCells_len]
        have kt2 : KT K H' H2 := KT.of_same fun b o z => a3 b o (ne_of_none z nd2) z
        have he2 := a3 _ _ ned he
        refine ⟨e, d, xs, acc, rfl, rfl, he2, a1, by
          rw [sizeLine_eq]
          omega, ?_⟩
        refine ⟨_, xs ++ acc, cs ++ rowCells (top + i) left wide.toNat, rfl, ?_, ?_, upd_same, ?_, ?_, ?_, ?_, ?_⟩
        · intro b o n z
          have nbe : b ≠ e := ne_of_none z heH
          rw [upd_ne nbe]
          have z' := kx b o n z
          exact a3 b o (ne_of_none z' nd2) z'
        · rw [upd_ne (Ne.symm nep)]
          obtain ⟨x1, x2, x3, x4, x5⟩ := po'
          exact ⟨x1, x2, x3, a3 _ _ npd x4, x5⟩
        · exact cells_kt (KT.upd he2) (paired_append (cells_kt kt2 hc) a2)
        · rw [List.pairwise_append]
          refine ⟨pw, rowCells_asc _ _ _, fun x hx y hy => ?_⟩
          have b1 := bd x hx
          have b2 := rowCells_mem hy
          exact .inl (by omega)
        · intro c hc'
          rcases List.mem_append.mp hc' with z | z
          · have := bd c z
            omega
          · have := rowCells_mem z
            omega
        · rw [List.length_append, rowCells_len]
          omega
        · rw [List.length_append, rowCells_len]
          omega
    · rintro σ H' ⟨y8, xs, cs, rfl, kx, po', he, hc, pw, bd, c0, c1⟩
      have hh' : (high.toNat : Int) = high := Int.toNat_of_nonneg (by omega)
      have hst : PlSt K p H m mode wide high top left [some (.ref p), some (.int m), some (.int mode), some (.int wide), some (.int high), some (.int top), some (.int left), some (.ref e), y8, none, none, none, none] H' :=
        ⟨⟨e, xs, cs, y8, none, none, rfl, heH, nep, he, hc, ⟨pw, fun c z => by
          have := bd c z
          exact ⟨by omega, by omega, by omega, by omega⟩, fun z => by
          subst z
          have : high.toNat ≤ 0 := c0
          omega⟩, by omega⟩, kx, po'⟩
      refine fil_if hst (fun t c => draw_test hst (by decide) (by decide) t c) (fun σ1 G1 h1' => ?_)
      refine fil_if h1' (fun t c => draw_test h1' (by decide) (by decide) t c) (fun σ2 G2 h2' => ?_)
      refine fil3_if h2' (fun σ3 G3 h3' => ?_)
      -- while len(every) > most
      refine ⟨fun n σ G => ∃ (e : Addr) (xs : List V) (cs : List Cell) (y8 y9 y10 : Option V),
        σ = [some (.ref p), some (.int m), some (.int mode), some (.int wide), some (.int high), some (.int top), some (.int left), some (.ref e), y8, y9, y10, none, none] ∧
        H e = none ∧ e ≠ p ∧ G e = some (.lst xs) ∧ CellsAt K G xs cs ∧ Good cs ∧ cs.length ≤ 64 ∧ KeepX p H G ∧ PoolO (G p) ∧ n = xs.length, ?_, ?_⟩
      · obtain ⟨⟨e, xs, cs, y8, y9, y10, es, he0, hep, he, hc, gd, hl⟩, kx, po⟩ := h3'
        exact ⟨xs.length, e, xs, cs, y8, y9, y10, es, he0, hep, he, hc, gd, hl, kx, po, rfl⟩
      · rintro n σ4 G4 ⟨e4, xs4, cs4, y8, y9, y10, rfl, he0, hep, he4, hc4, gd4, hl4, kx4, po4', rfl⟩
        have hlen := Paired.length hc4
        refine ⟨_, rfl, e4, xs4, rfl, .inl (SqL.of he4), _, rfl, _, _, rfl, rfl, _, rfl, ite2 (fun c => ?_) (fun c => ?_)⟩
        · have c' : m < (xs4.length : Int) := of_decide_eq_true c
          refine ⟨fun σ' G' => ∃ n', n' < xs4.length ∧ ∃ (e : Addr) (xs : List V) (cs : List Cell) (y8 y9 y10 : Option V),
            σ' = [some (.ref p), some (.int m), some (.int mode), some (.int wide), some (.int high), some (.int top), some (.int left), some (.ref e), y8, y9, y10, none, none] ∧
            H e = none ∧ e ≠ p ∧ G' e = some (.lst xs) ∧ CellsAt K G' xs cs ∧ Good cs ∧ cs.length ≤ 64 ∧ KeepX p H G' ∧ PoolO (G' p) ∧ n' = xs.length, fun σ' G' z => z, ?_⟩
          refine ⟨_, rfl, .inl ⟨rfl, _, SqL.of he4⟩, _, rfl, _, rfl, e4, xs4, rfl, .inl (SqL.of he4), p, _, rfl, po4', by omega, by omega, fun G5 r k5 po5 r0 r1 => ?_⟩
          have hr' : ((r.toNat : Nat) : Int) = r := Int.toNat_of_nonneg r0
          have hlt : r.toNat < xs4.length := by omega
          have he5 := k5 _ _ hep he4
          refine ⟨e4, xs4, r, r.toNat, xs4[r.toNat], rfl, rfl, he5, by omega, by omega, ?_, List.getElem?_eq_getElem hlt, ?_⟩
          · unfold seqIndex?
            have e1 : ¬ r < 0 := by omega
            simp only [if_neg e1]
            rw [if_pos]
            simp only [Bool.and_eq_true, decide_eq_true_eq]
            exact ⟨r0, r1⟩
          · have hel : (xs4.eraseIdx r.toNat).length = xs4.length - 1 := List.length_eraseIdx_of_lt hlt
            have hpe := paired_erase r.toNat hc4
            have hsub := List.eraseIdx_sublist cs4 r.toNat
            refine ⟨(xs4.eraseIdx r.toNat).length, by omega, e4, _, cs4.eraseIdx r.toNat, y8, y9, y10, rfl, he0, hep, upd_same, cells_kt ((KT.of_keepX po4' k5).trans (KT.upd he5)) hpe,
              ⟨gd4.asc.sublist hsub, fun c hc => gd4.grid c (hsub.subset hc), fun z => ?_⟩, Nat.le_trans hsub.length_le hl4, ?_, ?_, rfl⟩
            · have q1 := Paired.length hpe
              rw [z, hel] at q1
              have : xs4.length - 1 = 0 := q1
              omega
            · intro b o n z
              rw [upd_ne (ne_of_none z he0)]
              exact k5 _ _ n (kx4 _ _ n z)
            · rw [upd_ne (Ne.symm hep)]
              exact po5
        · have c' : ¬ m < (xs4.length : Int) := fun z => c (decide_eq_true z)
          refine ⟨_, rfl, e4, xs4, rfl, .inl ⟨SqL.of he4, fun l nl => ?_⟩⟩
          have sl := same_new (o := .tup xs4) nl
          refine q _ l cs4 (kx4.trans (.of_same sl)) (po4'.same sl) ⟨xs4, SqT.of upd_same, cells_kt (.of_same sl) hc4⟩ gd4 (by omega) ?_
          cases z : H l with
          | none => rfl
          | some o =>
            have := kx4 l o (Ne.symm (po4'.ne nl)) z
            rw [nl] at this
            cases this
end
end KS
/-! the law's own: right -/
namespace KS
open PySem PySem.Spec PyProof.Rows L2 LamX NdefX
abbrev sRight05 : Stmt := topS 80
abbrev nRight05 : List Str := ["_law_pool_here", "_law_spots", "_law_some", "_law_pairs", "_law_turn", "_law_thing"]
theorem scRight05 : FnScope nRight05 ["_law_pool_here"] (defScope sRight05) := ⟨rfl, rfl, rfl, by decide +kernel, rfl, by decide +kernel, by decide +kernel⟩
/-- a pair of things, with what they are worth -/
def PairK (K : PySem.W.Frag) (H : Hp) (x : V) : Prop := ∃ (q : Addr) (v u : V) (b : Verd), x = .ref q ∧ SqT K H q [v, u] ∧ PlanV K H v b ∧ AnyF K H u
theorem PairK.kk {K : PySem.W.Frag} {H H' : Hp} {x : V} (s : KeepK H H') (h : PairK K H x) : PairK K H' x := by
  obtain ⟨q, v, u, b, e, h1, h2, h3⟩ := h
  exact ⟨q, v, u, b, e, ktK s _ _ h1, h2.kk s, h3.kk s⟩
theorem PairK.w {K : PySem.W.Frag} {H : Hp} {x : V} (h : PairK K H x) : PairW K H x := by
  obtain ⟨q, v, u, b, e, h1, h2, h3⟩ := h
  cases eb : b.good with
  | true =>
    obtain ⟨a, cs, ev, p1, p2, p3⟩ := planV_ok h2 eb
    have hne : 1 ≤ cs.length := by
      rcases Nat.eq_zero_or_pos cs.length with z | z
      · exact absurd (List.eq_nil_of_length_eq_zero z) p2.ne
      · exact z
    obtain ⟨c, hc⟩ := h3 cs.length hne
    exact ⟨q, v, u, b, c, e, h1, h2, fun _ => ⟨a, cs, ev, p1, p2, p3, hc⟩⟩
  | false => exact ⟨q, v, u, b, .ok, e, h1, h2, fun z => by rw [eb] at z; cases z⟩
section
variable {P : Program} {w : World} {K : PySem.W.Frag} {mg : Str → Option Value} {base : Heap}
theorem ok_right05 {T : List (Addr × Str)} {f fD fP fV fB fW fA fR : Addr} {fd fdD fdP fdV fdB fdW fdA fdR : FuncData} (F : Fun K "_law_right" "_law_right" sRight05 f fd)
    (GD : FnOk P w K mg base CX0 1 fD fdD ["_law_pool_here", "_law_most"] spDraw) (bD : Binds K fdD ["_law_pool_here", "_law_most"] []) (gD : mg "_law_draw" = some (.ref fD)) (kD : PySem.W.keepIn K (.ref fD) = true)
    (GP : FnOk P w K mg base CX0 2 fP fdP ["_law_pool_here", "_law_most"] (spPlan K)) (bP : Binds K fdP ["_law_pool_here", "_law_most"] []) (gP : mg "_law_plan" = some (.ref fP)) (kP : PySem.W.keepIn K (.ref fP) = true)
    (GV : FnOk P w K mg base CX0 2 fV fdV ["_law_pool_here", "_law_size"] (spValues K)) (bV : Binds K fdV ["_law_pool_here", "_law_size"] []) (gV : mg "_law_values" = some (.ref fV)) (kV : PySem.W.keepIn K (.ref fV) = true)
    (GB : FnOk P w K mg base CX0 2 fB fdB ["_law_pool_here", "_law_spots"] (spBent K)) (bB : Binds K fdB ["_law_pool_here", "_law_spots"] []) (gB : mg "_law_bent_plan" = some (.ref fB)) (kB : PySem.W.keepIn K (.ref fB) = true)
    (GW : FnOk P w K mg base CX0 2 fW fdW ["_law_pool_here", "_law_some"] (spBentVA K)) (bW : Binds K fdW ["_law_pool_here", "_law_some"] []) (gW : mg "_law_bent_values" = some (.ref fW)) (kW : PySem.W.keepIn K (.ref fW) = true)
    (GA : FnG P w K mg base 15 fA fdA ["_law_things"] (spPlansR T K)) (bA : Binds K fdA ["_law_things"] []) (gA : mg "_law_plans_right" = some (.ref fA)) (kA : PySem.W.keepIn K (.ref fA) = true)
    (GR : FnG P w K mg base 15 fR fdR ["_law_pairs"] (spPairsR T K)) (bR : Binds K fdR ["_law_pairs"] []) (gR : mg "_law_pairs_right" = some (.ref fR)) (kR : PySem.W.keepIn K (.ref fR) = true)
    (mr : mg "range" = none) (ml : mg "len" = none) : FnG P w K mg base 16 f fd ["_law_pool_here"] (spRightT T) := by
  refine okG F scRight05 (fun vs H Q E h => ?_) (fun cdv A outer s H vs Q E hr hgd h => ?_)
  · obtain ⟨p, rfl, _⟩ := h
    rfl
  · obtain ⟨p, rfl, po, hT, q⟩ := h
    have nd := scRight05.nd
    have hr1 : Room 1 _ := hr.mono (by decide)
    have hr2 : Room 2 _ := hr.mono (by decide)
    have hr15 : Room 15 _ := hr.mono (by decide)
    refine ⟨_, pss_cons (ps_set (i := 1) nd rfl (.inr rfl) (pe_call GP hr2 (by rfl) gP kP bP .nil pass0 (pa_cons (pv 0) (pa_cons pe_int pa_nil))))
      (pss_cons (ps_par (i := 2) (j := 3) (by rfl) nd rfl rfl (by decide) rfl rfl (pa_cons (pe_call GV hr2 (by rfl) gV kV bV .nil pass0 (pa_cons (pv 0) (pa_cons (pe_callB call_len_seq (by rfl) ml PySem.boot_len (pa_cons (pv 1) pa_nil)) pa_nil))) (pa_cons (pe_lst pa_nil) pa_nil)) (by rfl))
      (pss_cons (ps_for PassesOwn.never rfl (pi_range1 (by rfl) mr (pa_cons pe_int pa_nil)) (pg_name (i := 4) nd rfl (.inl rfl))
        (pss_cons (ps_set (i := 5) nd rfl (.inl rfl) (pe_ix ix_list (pe_lst (pa_cons (pv 1) (pa_cons (pe_call GB hr2 (by rfl) gB kB bB .nil pass0 (pa_cons (pv 0) (pa_cons (pv 1) pa_nil))) pa_nil))) (pe_call GD hr1 (by rfl) gD kD bD .nil pass0 (pa_cons (pv 0) (pa_cons pe_int pa_nil))) (fun _ _ => rfl)))
        (pss_one (ps_expr (pe_bm PySem.F.plainAttrs_list PySem.F.slot_list_append PySem.F.type_list_append mt_append (pv 3) (pa_cons (pe_tup (pa_cons (pv 5) (pa_cons
          (pe_ix ix_list (pe_lst (pa_cons (pv 2) (pa_cons (pe_call GW hr2 (by rfl) gW kW bW .nil pass0 (pa_cons (pv 0) (pa_cons (pv 2) pa_nil))) pa_nil))) (pe_call GD hr1 (by rfl) gD kD bD .nil pass0 (pa_cons (pv 0) (pa_cons pe_int pa_nil))) (fun _ _ => rfl)) pa_nil))) pa_nil))))))
      (pss_cons (ps_expr (pe_bm PySem.F.plainAttrs_list PySem.F.slot_list_append PySem.F.type_list_append mt_append (pv 3) (pa_cons (pe_tup (pa_cons (pv 1) (pa_cons (pv 2) pa_nil))) pa_nil)))
      (pss_one (ps_ret (pe_and (pe_callG GA hr15 hgd (by rfl) gA kA bA (pa_cons (pe_op op_cat
          (pe_lc (own := [("_law_turn", 4)]) (g := gName 4) (tt := tYes) rfl nd (pi_range1 (by rfl) mr (pa_cons pe_int pa_nil)) (blkOk_by (N := nRight05) (sc := defScope sRight05) (by decide +kernel))
            (fun _ _ _ _ _ => pg_name (i := 4) nd rfl (Or.inl rfl)) (fun _ _ _ _ _ => pts_nil) (fun _ _ _ _ _ => pe_call GB hr2 (by rfl) gB kB bB .nil pass0 (pa_cons (pv 0) (pa_cons (pv 1) pa_nil))))
          (pe_lst (pa_cons (pv 1) pa_nil))) pa_nil))
        (pe_one (pe_callG GR hr15 hgd (by rfl) gR kR bR (pa_cons (pv 3) pa_nil))))))))), ?_⟩
    refine ⟨_, rfl, p, 8, rfl, po, by decide, by decide, fun H1 a cs k1 po1 hpl gd hcl na => ?_⟩
    have hl8 : cs.length ≤ 8 := by omega
    have hne : 1 ≤ cs.length := by
      rcases Nat.eq_zero_or_pos cs.length with z | z
      · exact absurd (List.eq_nil_of_length_eq_zero z) gd.ne
      · exact z
    obtain ⟨xs, hx, hc⟩ := id hpl
    have hxl : xs.length = cs.length := Paired.length hc
    refine ⟨_, rfl, _, rfl, a, xs, rfl, .inr hx, p, cs.length, by rw [hxl]; rfl, po1, hne, by omega, fun H2 t fs k2 po2 ht v9 nt => ?_⟩
    have hpl2 : PlanAt K H2 a cs := hpl.kt (.of_keepX po1 k2)
    refine ⟨(by show 0 ≤ sizeLine; decide), fun L nL => ⟨_, _, rfl, ?_⟩⟩
    have sL := same_new (o := .lst []) nL
    have hL : upd H2 L (.lst []) L = some (.lst []) := upd_same
    have nLp : L ≠ p := fun z => by
      obtain ⟨_, _, _, e, _⟩ := po2
      rw [← z, nL] at e
      cases e
    generalize upd H2 L (.lst []) = H3 at sL hL ⊢
    have kH3 : KeepX p H H3 := (k1.trans k2).trans (.of_same sL)
    have tb3 : Tabs T H3 := LamX.Tabs.ext (KS.Tabs.keepX hT po (k1.trans k2)) sL
    have po3 := po2.same sL
    have hpl3 := hpl2.kt (.of_same sL)
    have ht3 := same_seqT sL ht
    have hn3 : ∀ b o, H b = some o → b ≠ p → b ≠ L := fun b o e n z => by
      have := k2 b o n (k1 b o n e)
      rw [z, nL] at this
      cases this
    refine ⟨6, rfl, by decide, by decide, for_range (lo := 0) (n := 6) (fun i σ G => ∃ (y4 y5 : Option V) (ps : List V), σ = [some (.ref p), some (.ref a), some (.ref t), some (.ref L), y4, y5] ∧ (∀ b o, b ≠ p → b ≠ L → H3 b = some o → G b = some o) ∧ PoolO (G p) ∧ Tabs T G ∧ G L = some (.lst ps) ∧ ps.length = i ∧ KeepK H3 G ∧ ∀ x ∈ ps, PairK K G x) ?_ ?_ ?_⟩
    · exact ⟨_, _, [], rfl, fun b o _ _ e => e, po3, tb3, hL, rfl, KeepK.refl _, fun x hx => nomatch hx⟩
    · rintro i σ G hi ⟨y4, y5, ps, rfl, kG, pog, tG, hLG, hpsl, kk, hps⟩
      have hplG : PlanAt K G a cs := hpl3.kt (ktK kk)
      have htG := ktK kk _ _ ht3
      -- thing
      refine ⟨_, rfl, _, rfl, _, rfl, p, a, cs, rfl, pog, hplG, gd, by omega, fun G1 v b k4 po4 hv => ?_⟩
      have kk1 := KeepK.ofX pog po4 k4
      refine ⟨(by show 2 ≤ sizeLine; decide), fun l nl => ?_⟩
      have sl := same_new (o := .lst [.ref a, v]) nl
      have el : upd G1 l (.lst [.ref a, v]) l = some (.lst [.ref a, v]) := upd_same
      have nlp : l ≠ p := fun z => by
        obtain ⟨_, _, _, e, _⟩ := po4
        rw [← z, nl] at e
        cases e
      generalize upd G1 l (.lst [.ref a, v]) = G2 at sl el ⊢
      have po5 := po4.same sl
      refine ⟨_, rfl, p, 2, rfl, po5, by decide, by decide, fun G3 r k6 po6 r0 r1 => ?_⟩
      obtain ⟨x, hxm, hat⟩ := pick_ok (items := [.ref a, v]) r0 r1
      refine ⟨l, _, r, x, rfl, rfl, SqL.of (k6 _ _ nlp el), hat, ?_⟩
      have k13 : KeepX p G G3 := (k4.trans (.of_same sl)).trans k6
      have kk3 := KeepK.ofX pog po6 k13
      have hxv : ∃ b, PlanV K G3 x b := by
        rcases List.mem_cons.mp hxm with z | z
        · subst z
          exact ⟨.ok, planV_good (hplG.kt (ktK kk3)) gd (by omega)⟩
        · obtain rfl : x = v := by simpa using z
          exact ⟨b, hv.kk ((KeepK.of sl).trans (KeepK.ofX po5 po6 k6))⟩
      have hLG3 := k13 _ _ nLp hLG
      have tG3 : Tabs T G3 := KS.Tabs.keepX tG pog k13
      obtain ⟨bx, hbx⟩ := hxv
      have htG3 := ktK kk3 _ _ htG
      -- the filling
      refine ⟨_, rfl, .inl ⟨rfl, _, SqL.of hLG3⟩, _, rfl, _, rfl, _, rfl, _, rfl, p, t, cs.length, fs, rfl, po6, htG3, v9, hne, by omega, fun G4 u k7 po7 hu => ?_⟩
      refine ⟨(by show 2 ≤ sizeLine; decide), fun l2 nl2 => ?_⟩
      have sl2 := same_new (o := .lst [.ref t, u]) nl2
      have el2 : upd G4 l2 (.lst [.ref t, u]) l2 = some (.lst [.ref t, u]) := upd_same
      have nlp2 : l2 ≠ p := fun z => by
        obtain ⟨_, _, _, e, _⟩ := po7
        rw [← z, nl2] at e
        cases e
      generalize upd G4 l2 (.lst [.ref t, u]) = G5 at sl2 el2 ⊢
      have po8 := po7.same sl2
      refine ⟨_, rfl, p, 2, rfl, po8, by decide, by decide, fun G6 r' k9 po9 r0' r1' => ?_⟩
      obtain ⟨y, hym, hat'⟩ := pick_ok (items := [.ref t, u]) r0' r1'
      refine ⟨l2, _, r', y, rfl, rfl, SqL.of (k9 _ _ nlp2 el2), hat', ?_⟩
      have k36 : KeepX p G3 G6 := (k7.trans (.of_same sl2)).trans k9
      have kk6 := KeepK.ofX po6 po9 k36
      have hyu : AnyF K G6 y := by
        rcases List.mem_cons.mp hym with z | z
        · subst z
          exact anyF_ints (ktK kk6 _ _ htG3) v9
        · obtain rfl : y = u := by simpa using z
          exact hu.kk ((KeepK.of sl2).trans (KeepK.ofX po8 po9 k9))
      refine ⟨(by show 2 ≤ sizeLine; decide), fun q' nq => ?_⟩
      have sq := same_new (o := .tup [x, y]) nq
      have eq' : upd G6 q' (.tup [x, y]) q' = some (.tup [x, y]) := upd_same
      generalize upd G6 q' (.tup [x, y]) = G7 at sq eq' ⊢
      have hL7 := sq _ _ (k36 _ _ nLp hLG3)
      have kk7 : KeepK G G7 := (kk3.trans kk6).trans (.of sq)
      have kput := KeepK.put (ys := ps ++ [.ref q']) hL7
      refine ⟨L, ps, .ref q', rfl, rfl, hL7, small64 (by omega), _, _, _, rfl, fun b' o n1 n2 e => ?_, ?_, ?_, upd_same, by rw [List.length_append, hpsl]; rfl, kk.trans (kk7.trans kput), fun z hz => ?_⟩
      · rw [upd_ne n2]
        exact sq _ _ (k36 _ _ n1 (k13 _ _ n1 (kG _ _ n1 n2 e)))
      · rw [upd_ne (Ne.symm nLp)]
        exact po9.same sq
      · exact tabs_but (LamX.Tabs.ext (KS.Tabs.keepX tG3 po6 k36) sq) hL7
      · rcases List.mem_append.mp hz with z' | z'
        · exact (hps z z').kk (kk7.trans kput)
        · obtain rfl : z = .ref q' := by simpa using z'
          exact ⟨q', x, y, bx, rfl, ktK kput _ _ (SqT.of eq'), hbx.kk ((kk6.trans (.of sq)).trans kput), hyu.kk ((KeepK.of sq).trans kput)⟩
    · rintro σ G ⟨y4, y5, ps, rfl, kG, pog, tG, hLG, hpsl, kk, hps⟩
      have hplG : PlanAt K G a cs := hpl3.kt (ktK kk)
      have htG := ktK kk _ _ ht3
      refine ⟨_, rfl, .inl ⟨rfl, _, SqL.of hLG⟩, _, rfl, _, rfl, (by show 2 ≤ sizeLine; decide), fun q' nq => ?_⟩
      have sq := same_new (o := .tup [.ref a, .ref t]) nq
      have eq' : upd G q' (.tup [.ref a, .ref t]) q' = some (.tup [.ref a, .ref t]) := upd_same
      generalize upd G q' (.tup [.ref a, .ref t]) = G7 at sq eq' ⊢
      have hL7 := sq _ _ hLG
      have kput := KeepK.put (ys := ps ++ [.ref q']) hL7
      refine ⟨L, ps, .ref q', rfl, rfl, hL7, small64 (by omega), ?_⟩
      have kk8 := (KeepK.of sq).trans kput
      have hL8 : upd G7 L (.lst (ps ++ [.ref q'])) L = some (.lst (ps ++ [.ref q'])) := upd_same
      have po8 : PoolO (upd G7 L (.lst (ps ++ [.ref q'])) p) := by
        rw [upd_ne (Ne.symm nLp)]
        exact pog.same sq
      have t8 : Tabs T (upd G7 L (.lst (ps ++ [.ref q']))) := tabs_but (LamX.Tabs.ext tG sq) hL7
      have hps8 : ∀ x ∈ ps ++ [.ref q'], PairK K (upd G7 L (.lst (ps ++ [.ref q']))) x := fun z hz => by
        rcases List.mem_append.mp hz with z' | z'
        · exact (hps z z').kk kk8
        · obtain rfl : z = .ref q' := by simpa using z'
          exact ⟨q', .ref a, .ref t, .ok, rfl, ktK kput _ _ (SqT.of eq'), planV_good (hplG.kt (ktK kk8)) gd (by omega), anyF_ints (ktK kk8 _ _ htG) v9⟩
      have kN8 : ∀ b o, b ≠ p → b ≠ L → H3 b = some o → upd G7 L (.lst (ps ++ [.ref q'])) b = some o := fun b o n1 n2 e => by
        rw [upd_ne n2]
        exact sq _ _ (kG _ _ n1 n2 e)
      generalize upd G7 L (.lst (ps ++ [.ref q'])) = G8 at hL8 po8 t8 hps8 kN8 kput kk8 ⊢
      have hpl8 : PlanAt K G8 a cs := hplG.kt (ktK kk8)
      -- the plans
      refine ⟨6, rfl, by decide, by decide, fun D nD => ?_⟩
      have sD := same_new (o := .lst []) nD
      have nDp : D ≠ p := fun z => by
        obtain ⟨_, _, _, e, _⟩ := po8
        rw [← z, nD] at e
        cases e
      have nDL : D ≠ L := fun z => by
        rw [z, hL8] at nD
        cases nD
      refine lc_range (lo := 0) (n := 6) (fun i J => ∃ acc : List V, J D = some (.lst acc) ∧ acc.length = i ∧ (∀ b o, b ≠ D → b ≠ p → G8 b = some o → J b = some o) ∧ PoolO (J p) ∧ Tabs T J ∧ KeepK G8 J ∧ ∀ x ∈ acc, ∃ b, PlanV K J x b) ?_ ?_ ?_
      · exact ⟨[], upd_same, rfl, fun b o n1 _ e => by rw [upd_ne n1]; exact e, po8.same sD, LamX.Tabs.ext t8 sD, KeepK.of sD, fun x hx => nomatch hx⟩
      · rintro i J hi ⟨acc, a1, a2, a3, poJ, tJ, kJ, aJ⟩
        refine ⟨rfl, _, rfl, _, rfl, p, a, cs, rfl, poJ, hpl8.kt (ktK kJ), gd, by omega, fun J2 v b k2' po2' hv => ?_⟩
        have a4 := k2' _ _ nDp a1
        have kkx := KeepK.ofX poJ po2' k2'
        have kput2 := KeepK.put (ys := acc ++ [v]) a4
        refine ⟨acc, a4, small64 (by omega), acc ++ [v], upd_same, by rw [List.length_append, a2]; rfl, fun b' o n1 n2 e => ?_, ?_, tabs_but (KS.Tabs.keepX tJ poJ k2') a4, (kJ.trans kkx).trans kput2, fun x hx => ?_⟩
        · rw [upd_ne n1]
          exact k2' _ _ n2 (a3 _ _ n1 n2 e)
        · rw [upd_ne (Ne.symm nDp)]
          exact po2'
        · rcases List.mem_append.mp hx with z | z
          · obtain ⟨b', hb'⟩ := aJ x z
            exact ⟨b', hb'.kk (kkx.trans kput2)⟩
          · obtain rfl : x = v := by simpa using z
            exact ⟨b, hv.kk kput2⟩
      · rintro J ⟨acc, a1, a2, a3, poJ, tJ, kJ, aJ⟩
        refine ⟨_, rfl, (by show 1 ≤ sizeLine; decide), fun l3 nl3 => ?_⟩
        have sl3 := same_new (o := .lst [.ref a]) nl3
        have el3 : upd J l3 (.lst [.ref a]) l3 = some (.lst [.ref a]) := upd_same
        generalize upd J l3 (.lst [.ref a]) = J3 at sl3 el3 ⊢
        refine ⟨D, l3, acc, [.ref a], rfl, rfl, sl3 _ _ a1, el3, by rw [a2, sizeLine_eq]; show 6 + 1 ≤ 16777216; decide, fun M nM => ?_⟩
        have sM := same_new (o := .lst (acc ++ [.ref a])) nM
        have eM : upd J3 M (.lst (acc ++ [.ref a])) M = some (.lst (acc ++ [.ref a])) := upd_same
        generalize upd J3 M (.lst (acc ++ [.ref a])) = J4 at sM eM ⊢
        have s34 := sl3.trans sM
        refine ⟨M, _, rfl, eM, by rw [List.length_append, a2]; show 6 + 1 ≤ 24; decide, LamX.Tabs.ext tJ s34, fun x hx => ?_, fun J5 e5 t5 => ⟨true, rfl, ?_⟩⟩
        · rcases List.mem_append.mp hx with z | z
          · obtain ⟨b', hb'⟩ := aJ x z
            exact ⟨b', hb'.same s34⟩
          · obtain rfl : x = .ref a := by simpa using z
            exact ⟨.ok, planV_good ((hpl8.kt (ktK kJ)).kt (.of_same s34)) gd (by omega)⟩
        have hLJ := a3 _ _ (Ne.symm nDL) nLp hL8
        have kk5 : KeepK G8 J5 := (kJ.trans (.of s34)).trans (.ofN e5)
        refine ⟨_, rfl, L, _, rfl, e5 _ _ (s34 _ _ hLJ) (fun _ z => nomatch z), by rw [List.length_append, hpsl]; show 6 + 1 ≤ 24; decide, t5, fun x hx => ((hps8 x hx).kk kk5).w, fun J6 e6 t6 => ?_⟩
        refine q J6 (fun b o n e m => ?_) t6
        have nbL := hn3 b o e n
        have e8 := kN8 b o n nbL (kH3 b o n e)
        have nbD : b ≠ D := fun z => by rw [z, nD] at e8; cases e8
        exact e6 _ _ (e5 _ _ (s34 _ _ (a3 _ _ nbD n e8)) m) m
end
end KS
/-! things written out: what they are worth as plans, as fillings -/
namespace KS
open PySem PySem.Spec PyProof.Rows L2 LamX NdefX
inductive Th (K : PySem.W.Frag) (H : Hp) : V → Prop
  | non : Th K H .non
  | bl (b : Bool) : Th K H (.bl b)
  | int (i : Int) : Th K H (.int i)
  | str (x : Str) : Th K H (.str x)
  | lst {a : Addr} {xs : List V} (h : H a = some (.lst xs)) : Th K H (.ref a)
  | tup {a : Addr} {xs : List V} (h : SqT K H a xs) (hs : ∀ x ∈ xs, Th K H x) : Th K H (.ref a)
theorem Th.kk {K : PySem.W.Frag} {H H' : Hp} (s : KeepK H H') {v : V} (h : Th K H v) : Th K H' v := by
  induction h with
  | non => exact .non
  | bl b => exact .bl b
  | int i => exact .int i
  | str x => exact .str x
  | lst h =>
    rcases s _ _ h (fun _ z => nomatch z) with z | ⟨_, ys, z⟩
    · exact .lst z
    · exact .lst z
  | tup h hs ih => exact .tup (ktK s _ _ h) ih
section
variable {K : PySem.W.Frag} {H : Hp}
theorem Th.pl {v : V} (h : Th K H v) : ∃ b, PlR K H v b := by
  cases h with
  | non => exact ⟨false, .inr ⟨_, .non, by decide⟩⟩
  | bl b => exact ⟨false, .inr ⟨_, .bl b, by decide⟩⟩
  | int i =>
    by_cases z : 0 ≤ i ∧ i ≤ 7
    · exact ⟨true, i, rfl, z.1, z.2⟩
    · exact ⟨false, .inl ⟨i, rfl, z⟩⟩
  | str x => exact ⟨false, .inr ⟨_, .str x, by decide⟩⟩
  | lst h => exact ⟨false, .inr ⟨_, .lst h, by decide⟩⟩
  | tup h hs => exact ⟨false, .inr ⟨_, .tup h, by decide⟩⟩
theorem Th.vl {v : V} (h : Th K H v) : ∃ o, VlR K H v o := by
  cases h with
  | non => exact ⟨none, .inr ⟨_, .non, by decide⟩⟩
  | bl b => exact ⟨none, .inr ⟨_, .bl b, by decide⟩⟩
  | int i =>
    by_cases z : 1 ≤ i ∧ i ≤ 9999
    · exact ⟨some i, rfl, z.1, z.2⟩
    · exact ⟨none, .inl ⟨i, rfl, z⟩⟩
  | str x => exact ⟨none, .inr ⟨_, .str x, by decide⟩⟩
  | lst h => exact ⟨none, .inr ⟨_, .lst h, by decide⟩⟩
  | tup h hs => exact ⟨none, .inr ⟨_, .tup h, by decide⟩⟩
theorem Th.el {v : V} (h : Th K H v) : ∃ o, ElR K H v o := by
  cases h with
  | non => exact ⟨none, .inl ⟨_, .non, by decide⟩⟩
  | bl b => exact ⟨none, .inl ⟨_, .bl b, by decide⟩⟩
  | int i => exact ⟨none, .inl ⟨_, .int i, by decide⟩⟩
  | str x => exact ⟨none, .inl ⟨_, .str x, by decide⟩⟩
  | lst h => exact ⟨none, .inl ⟨_, .lst h, by decide⟩⟩
  | @tup a xs h hs =>
    match xs, h, hs with
    | [], h, _ => exact ⟨none, .inr (.inl ⟨a, _, rfl, h, by decide⟩)⟩
    | [x], h, _ => exact ⟨none, .inr (.inl ⟨a, _, rfl, h, by show 1 ≠ 2; decide⟩)⟩
    | x :: y :: z :: r, h, _ => exact ⟨none, .inr (.inl ⟨a, _, rfl, h, by show r.length + 1 + 1 + 1 ≠ 2; omega⟩)⟩
    | [x, y], h, hs =>
      obtain ⟨b0, p0⟩ := (hs x (by simp)).pl
      obtain ⟨b1, p1⟩ := (hs y (by simp)).pl
      by_cases c : (b0 && b1) = true
      · obtain ⟨rfl, rfl⟩ : b0 = true ∧ b1 = true := by simpa using c
        obtain ⟨i, rfl, i0, i1⟩ := p0
        obtain ⟨j, rfl, j0, j1⟩ := p1
        exact ⟨some (i, j), ⟨a, rfl, h⟩, i0, i1, j0, j1⟩
      · exact ⟨none, .inr (.inr ⟨a, x, y, b0, b1, rfl, h, p0, p1, by simpa using c⟩)⟩
theorem paired_ex {α β : Type} {F : α → β → Prop} : ∀ {xs : List α}, (∀ x ∈ xs, ∃ y, F x y) → ∃ ys, Paired F xs ys
  | [], _ => ⟨[], .nil⟩
  | x :: xs, h => by
    obtain ⟨y, hy⟩ := h x List.mem_cons_self
    obtain ⟨ys, hs⟩ := paired_ex fun z hz => h z (List.mem_cons_of_mem _ hz)
    exact ⟨y :: ys, .cons hy hs⟩
theorem Th.plan {v : V} (h : Th K H v) : ∃ b, PlanV K H v b := by
  cases h with
  | non => exact ⟨.non, .inl ⟨_, .non, by decide⟩⟩
  | bl b => exact ⟨.non, .inl ⟨_, .bl b, by decide⟩⟩
  | int i => exact ⟨.non, .inl ⟨_, .int i, by decide⟩⟩
  | str x => exact ⟨.non, .inl ⟨_, .str x, by decide⟩⟩
  | lst h => exact ⟨.non, .inl ⟨_, .lst h, by decide⟩⟩
  | tup h hs =>
    obtain ⟨rs, hr⟩ := paired_ex (F := ElR K H) fun x hx => (hs x hx).el
    exact planV_of h hr
theorem Th.fil {v : V} (h : Th K H v) : AnyF K H v := fun n _ => by
  cases h with
  | non => exact ⟨.non, .inl ⟨_, .non, by decide⟩⟩
  | bl b => exact ⟨.non, .inl ⟨_, .bl b, by decide⟩⟩
  | int i => exact ⟨.non, .inl ⟨_, .int i, by decide⟩⟩
  | str x => exact ⟨.non, .inl ⟨_, .str x, by decide⟩⟩
  | lst h => exact ⟨.non, .inl ⟨_, .lst h, by decide⟩⟩
  | tup h hs =>
    obtain ⟨rs, hr⟩ := paired_ex (F := VlR K H) fun x hx => (hs x hx).vl
    exact filV_of h hr
end
/-! ### written out -/
theorem pe_wkH {X : Cx} {e : Expr} {t t' : TE} (h : PE X e t) (k : ∀ σ H Q, t' σ H Q → t σ H Q) : PE X e t' := ⟨fun pins s σ H Q I q => h.run pins s σ H Q I (k σ H Q q)⟩
theorem pa_wkH {X : Cx} {es : List Expr} {t t' : TA} (h : PA X es t) (k : ∀ σ H Q, t' σ H Q → t σ H Q) : PA X es t' := ⟨fun pos pins s σ H Q I q => h.run pos pins s σ H Q I (k σ H Q q)⟩
def tTh (K : PySem.W.Frag) : TE := fun _ H Q => ∀ H' v, Same H H' → Th K H' v → Q v H'
def tThs (K : PySem.W.Frag) (n : Nat) : TA := fun _ H R => ∀ H' vs, Same H H' → vs.length = n → (∀ v ∈ vs, Th K H' v) → R vs H'
section
variable {X : Cx} {K : PySem.W.Frag}
theorem th_wk {e : Expr} {v : V} (h : PE X e (tC v)) (t : ∀ H, Th K H v) : PE X e (tTh K) := pe_wkH h fun σ H Q q => q H v (Same.refl _) (t H)
theorem ths_nil : PA X [] (tThs K 0) := pa_wkH pa_nil fun σ H Q q => q H [] (Same.refl _) rfl (fun v hv => nomatch hv)
theorem ths_cons {e : Expr} {es : List Expr} {n : Nat} (h : PE X e (tTh K)) (r : PA X es (tThs K n)) (hs : starEach (e :: es) X.env = (false, eval e X.env) :: starEach es X.env := by rfl) : PA X (e :: es) (tThs K (n + 1)) :=
  pa_wkH (pa_cons h r hs) fun σ H Q q H1 v s1 t1 H2 vs s2 l2 t2 => q H2 (v :: vs) (s1.trans s2) (by rw [List.length_cons, l2]) fun x hx => by
    rcases List.mem_cons.mp hx with z | z
    · rw [z]
      exact t1.kk (.of s2)
    · exact t2 x z
theorem th_tup {es : List Expr} {k n : Nat} {pos : Pos} (r : PA X es (tThs K n)) (hl : n ≤ 64 := by decide) : PE X (.Tuple es k pos) (tTh K) :=
  pe_wkH (pe_tup r) fun σ H Q q H1 vs s1 l1 t1 => ⟨by rw [l1]; exact Nat.le_of_lt (small64 hl), fun p np => q _ _ (s1.trans (same_new np)) (.tup (SqT.of upd_same) fun x hx => (t1 x hx).kk (.of (same_new np)))⟩
theorem th_lst {es : List Expr} {n : Nat} {pos : Pos} (r : PA X es (tThs K n)) (hl : n ≤ 64 := by decide) : PE X (.List es pos) (tTh K) :=
  pe_wkH (pe_lst r) fun σ H Q q H1 vs s1 l1 t1 => ⟨by rw [l1]; exact Nat.le_of_lt (small64 hl), fun p np => q _ _ (s1.trans (same_new np)) (.lst upd_same)⟩
end
end KS
/-! law -/
namespace KS
open PySem PySem.Spec PyProof.Rows L2 LamX NdefX
abbrev sLaw05 : Stmt := topS 81
abbrev nLaw05 : List Str := ["_law_script", "_law_pairs", "_law_plans", "_law_good", "_law_k"]
theorem scLaw05 : FnScope nLaw05 ["_law_script"] (defScope sLaw05) := ⟨rfl, rfl, rfl, by decide +kernel, rfl, by decide +kernel, by decide +kernel⟩
def tPr (K : PySem.W.Frag) : TE := fun _ H Q => ∀ H' v, Same H H' → PairK K H' v → Q v H'
def tPrs (K : PySem.W.Frag) (n : Nat) : TA := fun _ H R => ∀ H' vs, Same H H' → vs.length = n → (∀ v ∈ vs, PairK K H' v) → R vs H'
theorem pairK_of {K : PySem.W.Frag} {H : Hp} {p : Addr} {v u : V} (h : SqT K H p [v, u]) (tv : Th K H v) (tu : Th K H u) : PairK K H (.ref p) := by
  obtain ⟨b, hb⟩ := tv.plan
  exact ⟨p, v, u, b, rfl, h, hb, tu.fil⟩
section
variable {X : Cx} {K : PySem.W.Frag}
theorem prs_nil : PA X [] (tPrs K 0) := pa_wkH pa_nil fun σ H Q q => q H [] (Same.refl _) rfl (fun v hv => nomatch hv)
theorem prs_cons {e : Expr} {es : List Expr} {n : Nat} (h : PE X e (tPr K)) (r : PA X es (tPrs K n)) (hs : starEach (e :: es) X.env = (false, eval e X.env) :: starEach es X.env := by rfl) : PA X (e :: es) (tPrs K (n + 1)) :=
  pa_wkH (pa_cons h r hs) fun σ H Q q H1 v s1 t1 H2 vs s2 l2 t2 => q H2 (v :: vs) (s1.trans s2) (by rw [List.length_cons, l2]) fun x hx => by
    rcases List.mem_cons.mp hx with z | z
    · rw [z]
      exact t1.kk (.of s2)
    · exact t2 x z
theorem pr_tup {e1 e2 : Expr} {k : Nat} {pos : Pos} (h1 : PE X e1 (tTh K)) (h2 : PE X e2 (tTh K)) (hs1 : starEach [e1, e2] X.env = (false, eval e1 X.env) :: starEach [e2] X.env := by rfl) (hs2 : starEach [e2] X.env = (false, eval e2 X.env) :: starEach [] X.env := by rfl) : PE X (.Tuple [e1, e2] k pos) (tPr K) :=
  pe_wkH (pe_tup (pa_cons h1 (pa_cons h2 pa_nil hs2) hs1)) fun σ H Q q H1 v s1 t1 H2 u s2 t2 => ⟨by show 2 ≤ sizeLine; decide, fun p np => q _ _ ((s1.trans s2).trans (same_new np)) (pairK_of (SqT.of upd_same) (t1.kk (.of (s2.trans (same_new np)))) (t2.kk (.of (same_new np))))⟩
end
section
variable {P : Program} {w : World} {K : PySem.W.Frag} {mg : Str → Option Value} {base : Heap}
theorem ok_law05 {T : List (Addr × Str)} {f fC fP fR fA fB : Addr} {fd fdC fdP fdR fdA fdB : FuncData} (F : Fun K "law" "law" sLaw05 f fd)
    (GC : FnOk P w K mg base CX0 1 fC fdC ["_law_script", "_law_k"] (spCell K)) (bC : Binds K fdC ["_law_script", "_law_k"] []) (gC : mg "_law_cell" = some (.ref fC)) (kC : PySem.W.keepIn K (.ref fC) = true)
    (GP : FnOk P w K mg base CX0 1 fP fdP ["_law_number"] spPool) (bP : Binds K fdP ["_law_number"] []) (gP : mg "_law_pool" = some (.ref fP)) (kP : PySem.W.keepIn K (.ref fP) = true)
    (GR : FnG P w K mg base 16 fR fdR ["_law_pool_here"] (spRightT T)) (bR : Binds K fdR ["_law_pool_here"] []) (gR : mg "_law_right" = some (.ref fR)) (kR : PySem.W.keepIn K (.ref fR) = true)
    (GA : FnG P w K mg base 15 fA fdA ["_law_things"] (spPlansR T K)) (bA : Binds K fdA ["_law_things"] []) (gA : mg "_law_plans_right" = some (.ref fA)) (kA : PySem.W.keepIn K (.ref fA) = true)
    (GB : FnG P w K mg base 15 fB fdB ["_law_pairs"] (spPairsR T K)) (bB : Binds K fdB ["_law_pairs"] []) (gB : mg "_law_pairs_right" = some (.ref fB)) (kB : PySem.W.keepIn K (.ref fB) = true)
    (ma : mg "all" = none) (mr : mg "range" = none) (mx : mg "max" = none) (mn : mg "min" = none) (ml : mg "len" = none) : FnG P w K mg base 17 f fd ["_law_script"] (spLawT T K) := by
  refine okG F scLaw05 (fun vs H Q E h => ?_) (fun cdv A outer s H vs Q E hr hgd h => ?_)
  · obtain ⟨a, ns, rfl, _⟩ := h
    rfl
  · obtain ⟨a, ns, rfl, hS, hl, tb, q⟩ := h
    have nd := scLaw05.nd
    have hr1 : Room 1 _ := hr.mono (by decide)
    have hr15 : Room 15 _ := hr.mono (by decide)
    have hr16 : Room 16 _ := hr.mono (by decide)
    refine ⟨_, pss_cons (ps_if (pt_not (pt_val (pe_callG GA hr15 hgd (by rfl) gA kA bA (pa_cons (pe_lst (t := tThs K 3) (ths_cons (th_tup (ths_cons (th_tup (ths_cons (th_wk pe_int (fun _ => .int _)) (ths_cons (th_wk pe_int (fun _ => .int _)) ths_nil))) (ths_cons (th_tup (ths_cons (th_wk pe_int (fun _ => .int _)) (ths_cons (th_wk pe_int (fun _ => .int _)) ths_nil))) ths_nil))) (ths_cons (th_tup (ths_cons (th_tup (ths_cons (th_wk pe_int (fun _ => .int _)) (ths_cons (th_wk pe_bl (fun _ => .bl _)) ths_nil))) (ths_cons (th_tup (ths_cons (th_wk pe_int (fun _ => .int _)) (ths_cons (th_wk pe_int (fun _ => .int _)) ths_nil))) ths_nil))) (ths_cons (th_tup (ths_cons (th_tup (ths_cons (th_wk pe_int (fun _ => .int _)) (ths_cons (th_wk pe_int (fun _ => .int _)) ths_nil))) (ths_cons (th_tup (ths_cons (th_wk pe_int (fun _ => .int _)) (ths_cons (th_wk pe_int (fun _ => .int _)) ths_nil))) ths_nil))) ths_nil)))) pa_nil)))) (pss_one (ps_ret pe_bl)) pss_nil)
      (pss_cons (ps_set (i := 1) nd rfl (.inl rfl) (pe_lst (t := tPrs K 3) (prs_cons (pr_tup (th_tup (ths_cons (th_tup (ths_cons (th_wk pe_int (fun _ => .int _)) (ths_cons (th_wk pe_int (fun _ => .int _)) ths_nil))) (ths_cons (th_tup (ths_cons (th_wk pe_int (fun _ => .int _)) (ths_cons (th_wk pe_int (fun _ => .int _)) ths_nil))) ths_nil))) (th_tup (ths_cons (th_wk pe_int (fun _ => .int _)) (ths_cons (th_wk pe_int (fun _ => .int _)) ths_nil)))) (prs_cons (pr_tup (th_tup (ths_cons (th_tup (ths_cons (th_wk pe_int (fun _ => .int _)) (ths_cons (th_wk pe_int (fun _ => .int _)) ths_nil))) (ths_cons (th_tup (ths_cons (th_wk pe_int (fun _ => .int _)) (ths_cons (th_wk pe_int (fun _ => .int _)) ths_nil))) ths_nil))) (th_tup (ths_cons (th_wk pe_int (fun _ => .int _)) (ths_cons (th_wk pe_bl (fun _ => .bl _)) ths_nil)))) (prs_cons (pr_tup (th_tup (ths_cons (th_tup (ths_cons (th_wk pe_int (fun _ => .int _)) (ths_cons (th_wk pe_bl (fun _ => .bl _)) ths_nil))) (ths_cons (th_tup (ths_cons (th_wk pe_int (fun _ => .int _)) (ths_cons (th_wk pe_int (fun _ => .int _)) ths_nil))) ths_nil))) (th_tup (ths_cons (th_wk pe_int (fun _ => .int _)) (ths_cons (th_wk pe_int (fun _ => .int _)) ths_nil)))) prs_nil)))))
      (pss_cons (ps_if (pt_not (pt_val (pe_callG GB hr15 hgd (by rfl) gB kB bB (pa_cons (pv 1) pa_nil)))) (pss_one (ps_ret pe_bl)) pss_nil)
      (pss_cons (ps_set (i := 2) nd rfl (.inl rfl) (pe_lst (t := tThs K 4) (ths_cons (th_tup (ths_cons (th_tup (ths_cons (th_wk pe_int (fun _ => .int _)) (ths_cons (th_wk pe_int (fun _ => .int _)) ths_nil))) (ths_cons (th_tup (ths_cons (th_wk pe_int (fun _ => .int _)) (ths_cons (th_wk pe_int (fun _ => .int _)) ths_nil))) (ths_cons (th_wk pe_non (fun _ => .non)) ths_nil)))) (ths_cons (th_tup (ths_cons (th_tup (ths_cons (th_wk pe_int (fun _ => .int _)) (ths_cons (th_wk pe_int (fun _ => .int _)) ths_nil))) (ths_cons (th_wk pe_non (fun _ => .non)) (ths_cons (th_tup (ths_cons (th_wk pe_int (fun _ => .int _)) (ths_cons (th_wk pe_int (fun _ => .int _)) ths_nil))) ths_nil)))) (ths_cons (th_tup (ths_cons (th_tup (ths_cons (th_wk pe_int (fun _ => .int _)) (ths_cons (th_wk pe_int (fun _ => .int _)) ths_nil))) (ths_cons (th_tup (ths_cons (th_wk pe_int (fun _ => .int _)) (ths_cons (th_wk pe_int (fun _ => .int _)) ths_nil))) (ths_cons (th_tup (ths_cons (th_lst ths_nil) (ths_cons (th_wk pe_int (fun _ => .int _)) ths_nil))) ths_nil)))) (ths_cons (th_tup (ths_cons (th_tup (ths_cons (th_wk pe_int (fun _ => .int _)) (ths_cons (th_wk pe_int (fun _ => .int _)) ths_nil))) (ths_cons (th_tup (ths_cons (th_wk pe_int (fun _ => .int _)) (ths_cons (th_wk pe_int (fun _ => .int _)) ths_nil))) (ths_cons (th_tup (ths_cons (th_wk pe_int (fun _ => .int _)) (ths_cons (th_wk pe_int (fun _ => .int _)) ths_nil))) ths_nil)))) ths_nil))))))
      (pss_cons (ps_set (i := 3) nd rfl (.inl rfl) (te := tTh K) (th_tup (ths_cons (th_tup (ths_cons (th_wk pe_int (fun _ => .int _)) (ths_cons (th_wk pe_int (fun _ => .int _)) ths_nil))) (ths_cons (th_tup (ths_cons (th_wk pe_int (fun _ => .int _)) (ths_cons (th_wk pe_int (fun _ => .int _)) ths_nil))) (ths_cons (th_tup (ths_cons (th_wk pe_int (fun _ => .int _)) (ths_cons (th_wk pe_int (fun _ => .int _)) ths_nil))) ths_nil)))))
      (pss_cons (ps_if (pt_not (pt_val (pe_callG GA hr15 hgd (by rfl) gA kA bA (pa_cons (pv 2) pa_nil)))) (pss_one (ps_ret pe_bl)) pss_nil)
      (pss_cons (ps_if (pt_not (pt_val (pe_callG GB hr15 hgd (by rfl) gB kB bB (pa_cons (pe_lst (pa_cons (pe_tup (pa_cons (pv 3) (pa_cons (show PE _ _ (tTh K) from th_tup (ths_cons (th_wk pe_int (fun _ => .int _)) (ths_cons (th_wk pe_int (fun _ => .int _)) (ths_cons (th_wk pe_non (fun _ => .non)) ths_nil)))) pa_nil))) (pa_cons (pe_tup (pa_cons (pv 3) (pa_cons (show PE _ _ (tTh K) from th_tup (ths_cons (th_wk pe_int (fun _ => .int _)) (ths_cons (th_wk pe_non (fun _ => .non)) (ths_cons (th_wk pe_int (fun _ => .int _)) ths_nil)))) pa_nil))) (pa_cons (pe_tup (pa_cons (pv 3) (pa_cons (show PE _ _ (tTh K) from th_tup (ths_cons (th_wk pe_int (fun _ => .int _)) (ths_cons (th_wk pe_int (fun _ => .int _)) (ths_cons (th_wk pe_int (fun _ => .int _)) ths_nil)))) pa_nil))) pa_nil)))) pa_nil)))) (pss_one (ps_ret pe_bl)) pss_nil)
      (pss_one (ps_ret (pe_callB (cr_all rfl) (by rfl) ma (by decide +kernel) (pa_cons
      (pe_lc (own := [("_law_k", 4)]) (g := gName 4) (tt := tYes) rfl nd (pi_range1 (by rfl) mr (pa_cons (pe_callB (call_max2 rfl) (by rfl) mx (by decide +kernel) (pa_cons pe_int (pa_cons (pe_callB (call_min2 rfl) (by rfl) mn (by decide +kernel)
          (pa_cons (pe_callB call_len_seq (by rfl) ml PySem.boot_len (pa_cons (pv 0) pa_nil)) (pa_cons pe_int pa_nil))) pa_nil))) pa_nil)) (blkOk_by (N := nLaw05) (sc := defScope sLaw05) (by decide +kernel))
        (fun _ _ _ _ _ => pg_name (i := 4) nd rfl (Or.inl rfl)) (fun _ _ _ _ _ => pts_nil)
        (fun _ _ _ _ _ => pe_callG GR hr16 hgd (by rfl) gR kR bR (pa_cons (pe_call GP hr1 (by rfl) gP kP bP .nil pass0 (pa_cons (pe_call GC hr1 (by rfl) gC kC bC .nil pass0 (pa_cons (pv 0) (pa_cons (pv 4) pa_nil))) pa_nil)) pa_nil))) pa_nil))))))))))
      , ?_⟩
    intro H1 v1 s1 l1 h1
    refine ⟨by rw [l1]; show 3 ≤ sizeLine; decide, fun p1 np1 => ?_⟩
    have s2 := same_new (o := .lst v1) np1
    refine ⟨p1, v1, rfl, upd_same, by omega, LamX.Tabs.ext tb (s1.trans s2), fun x hx => ((h1 x hx).kk (.of s2)).plan, fun G1 e1 t1 => ?_⟩
    have E1 : ExtN H G1 := (ExtN.of (s1.trans s2)).trans e1
    refine ⟨true, rfl, iteF ?_⟩
    -- pairs
    intro H2 v2 s3 l2 h2
    refine ⟨by rw [l2]; show 3 ≤ sizeLine; decide, fun p2 np2 => ?_⟩
    have s4 := same_new (o := .lst v2) np2
    refine ⟨_, rfl, p2, v2, rfl, upd_same, by omega, LamX.Tabs.ext t1 (s3.trans s4), fun x hx => ((h2 x hx).kk (.of s4)).w, fun G2 e2 t2 => ?_⟩
    have E2 : ExtN H G2 := E1.trans ((ExtN.of (s3.trans s4)).trans e2)
    refine ⟨true, rfl, iteF ?_⟩
    -- two faults
    intro H3 v3 s5 l3 h3
    refine ⟨by rw [l3]; show 4 ≤ sizeLine; decide, fun p3 np3 => ?_⟩
    have s6 := same_new (o := .lst v3) np3
    intro H4 vg s7 tg
    refine ⟨_, rfl, p3, v3, rfl, s7 _ _ upd_same, by omega, LamX.Tabs.ext t2 ((s5.trans s6).trans s7), fun x hx => ((h3 x hx).kk (.of (s6.trans s7))).plan, fun G3 e3 t3 => ?_⟩
    have E3 : ExtN H G3 := E2.trans ((ExtN.of ((s5.trans s6).trans s7)).trans e3)
    have tg3 := tg.kk (.ofN e3)
    refine ⟨true, rfl, iteF ?_⟩
    refine ⟨_, rfl, ?_⟩
    intro H5 u1 s8 w1
    refine ⟨(by show 2 ≤ sizeLine; decide), fun q1 nq1 => ?_⟩
    have s9 := same_new (o := .tup [vg, u1]) nq1
    refine ⟨_, rfl, ?_⟩
    intro H6 u2 s10 w2
    refine ⟨(by show 2 ≤ sizeLine; decide), fun q2 nq2 => ?_⟩
    have s11 := same_new (o := .tup [vg, u2]) nq2
    refine ⟨_, rfl, ?_⟩
    intro H7 u3 s12 w3
    refine ⟨(by show 2 ≤ sizeLine; decide), fun q3 nq3 => ?_⟩
    have s13 := same_new (o := .tup [vg, u3]) nq3
    refine ⟨(by show 3 ≤ sizeLine; decide), fun p4 np4 => ?_⟩
    have s14 := same_new (o := .lst [.ref q1, .ref q2, .ref q3]) np4
    have r3 := s13.trans s14
    have r2 := (s11.trans s12).trans r3
    have r1 := (s9.trans s10).trans r2
    have k1 : PairK K _ (.ref q1) := pairK_of (SqT.of ((s10.trans r2) _ _ (upd_same (H := H5)))) (tg3.kk (.of (s8.trans r1))) (w1.kk (.of r1))
    have k2 : PairK K _ (.ref q2) := pairK_of (SqT.of ((s12.trans r3) _ _ (upd_same (H := H6)))) (tg3.kk (.of (s8.trans r1))) (w2.kk (.of r2))
    have k3 : PairK K _ (.ref q3) := pairK_of (SqT.of (s14 _ _ (upd_same (H := H7)))) (tg3.kk (.of (s8.trans r1))) (w3.kk (.of r3))
    refine ⟨p4, _, rfl, upd_same, (by show 3 ≤ 24; decide), LamX.Tabs.ext t3 (s8.trans r1), fun x hx => ?_, fun G4 e4 t4 => ?_⟩
    · simp only [List.mem_cons, List.not_mem_nil, or_false] at hx
      rcases hx with z | z | z <;> subst z
      · exact k1.w
      · exact k2.w
      · exact k3.w
    have E4 : ExtN H G4 := E3.trans ((ExtN.of (s8.trans r1)).trans e4)
    refine ⟨true, rfl, iteF ?_⟩
    -- all
    have hS0 := SqL.ext hS E4
    refine ⟨_, rfl, a, _, rfl, .inl hS0, _, _, rfl, _, _, rfl, _, rfl, ?_, ?_, fun D nD => ?_⟩
    · split <;> split <;> omega
    · split <;> split <;> omega
    generalize hN : (if (if (6 : Int) < ((ns.map V.int).length : Int) then (6 : Int) else ((ns.map V.int).length : Int)) > 2 then (if (6 : Int) < ((ns.map V.int).length : Int) then (6 : Int) else ((ns.map V.int).length : Int)) else 2) = N
    have hNb : 0 ≤ N ∧ N ≤ 6 := by
      rw [← hN]
      split <;> split <;> omega
    refine lc_range (lo := 0) (n := N.toNat) (fun i H' => H' D = some (.lst ((List.replicate i true).map V.bl)) ∧ (∀ b o, b ≠ D → G4 b = some o → (∀ ps, o ≠ .tbl ps) → H' b = some o) ∧ Tabs T H') ?_ ?_ ?_
    · exact ⟨upd_same, fun b o n e _ => by rw [upd_ne n]; exact e, LamX.Tabs.ext t4 (same_new nD)⟩
    · rintro i H' hi ⟨a1, a2, tH⟩
      have eD : ExtN G4 H' := fun b o e n => a2 b o (ne_of_none e nD) e n
      refine ⟨rfl, _, rfl, _, rfl, a, ns, i, by
        show [V.ref a, V.int (0 + (i : Int))] = _
        rw [Int.zero_add], SqL.ext hS0 eD, by omega, fun J1 n s1 => ⟨n, rfl, fun J2 p s2 np po => ⟨p, rfl, po, LamX.Tabs.ext tH (s1.trans s2), fun J3 kx t3 => ?_⟩⟩⟩
      have nDp : D ≠ p := ne_of_none (s1 _ _ a1) np
      have s12 := s1.trans s2
      have a3 := kx _ _ nDp (s12 _ _ a1) fun ps z => nomatch z
      refine ⟨_, a3, ?_, ?_, fun b o n e z => ?_, tabs_but t3 a3⟩
      · rw [List.length_map, List.length_replicate]
        exact small64 (by omega)
      · rw [upd_same, List.replicate_succ', List.map_append]
        rfl
      · rw [upd_ne n]
        have e1 := a2 b o n e z
        exact kx _ _ (ne_of_none (s1 _ _ e1) np) (s12 _ _ e1) z
    · rintro H' ⟨a1, a2, tH⟩
      refine ⟨D, _, rfl, SqL.of a1, ?_⟩
      rw [show (List.replicate N.toNat true).all id = true by simp]
      exact q H'
end
end KS
namespace KS
open PySem PySem.Spec PyProof.Rows L2
open PySem.W (AlikeAll dataLt minD min_list_default readsAll_atA reads_keeps alike_unique)
/-! ### x not in t -/
def rNotInT (K : PySem.W.Frag) : V → V → Hp → VK → Prop := fun x y H Q => ∃ d ds, Dp K H x d ∧ Dp K H y (.tuple ds) ∧ SeqAt.shaped d = true ∧ SeqAt.shaped (.tuple ds) = true ∧ Q (.bl (!ds.any fun z => PyData.eqv z d)) H
theorem op_notInT {X : Cx} (hu : X.A.units + 65 < cLine) : OpR X (compareOp .NotIn) (rNotInT X.K) := by
  intro pins s σ H x y v u Q I rx ry h
  obtain ⟨d, ds, hd, he, sd, se, q⟩ := h
  obtain ⟨as, r1⟩ := Dp.reads I d x v hd rx
  obtain ⟨bs, r2⟩ := Dp.reads I (.tuple ds) y u he ry
  refine SeqAt.notIn_tuple_reads r2 r1 (SeqAt.canLay_of_shaped se) (SeqAt.canLay_of_shaped sd) ?_ ⟨.bl _, H, I, rfl, q⟩
  have := SeqAt.depth_of_shaped sd
  have h2 : min (PyData.depthAll ds) d.depth ≤ d.depth := Nat.min_le_right _ _
  omega
/-! ### repr(x), x None or plain data -/
def rReprN (K : PySem.W.Frag) : List V → Hp → VK → Prop := fun xs H Q => (xs = [.non] ∧ Q (.str "None") H) ∨ ∃ (a : Addr) (d : PyData), xs = [.ref a] ∧ Dp K H (.ref a) d ∧ d.showable = true ∧ d.hasDict = false ∧ d.shown.length ≤ sizeLine ∧ d.depth ≤ 64 ∧ Q (.str d.shown) H
theorem call_reprN {X : Cx} (hgd : X.A.guards = some []) (hu : X.A.units + 100 < cLine) : CallR X (.builtin "repr") (rReprN X.K) := by
  intro pins s σ H xs us Q I r h
  rcases h with ⟨rfl, q⟩ | h
  · cases r with
    | cons r rr =>
      cases rr
      cases r
      exact P.repr_of_none ⟨.str "None", H, I.tok _, ⟨_, rfl⟩, q⟩
  · exact call_reprD hgd hu pins s σ H xs us Q I r h
/-! ### min(l, default=None), l a list of plain data, whose first is least -/
def rMinF (K : PySem.W.Frag) : List V → List V → Hp → VK → Prop := fun xs zs H Q => ∃ (l : Addr) (ys : List V) (ds : List PyData), xs = [.ref l] ∧ zs = [.non] ∧ SqL K H l ys ∧ DpAll K H ys ds ∧ AlikeAll ds ∧ PyData.depthAll ds ≤ 64 ∧
  ds.Pairwise (fun a b => dataLt b a = false) ∧ ds.Nodup ∧ (ds = [] → Q .non H) ∧ (∀ y d, ys.head? = some y → ds.head? = some d → Q y H)
theorem minD_first {x : PyData} : ∀ {xs : List PyData}, (∀ y ∈ xs, dataLt y x = false) → minD x xs = x
  | [], _ => rfl
  | y :: ys, h => by
    show ys.foldl _ (if dataLt y x then y else x) = x
    rw [h y List.mem_cons_self]
    exact minD_first fun z hz => h z (List.mem_cons_of_mem _ hz)
theorem cr_minF {X : Cx} (hc : X.calm = true) (hu : X.A.units + 100 < cLine) : CallRK X (.builtin "min") [Str.ofString "default"] (rMinF X.K) := by
  intro pins s σ H xs zs us ws Q I rx rz h
  obtain ⟨l, ys, ds, rfl, rfl, hl, hd, al, dp, pw, nd, q0, q1⟩ := h
  rw [Vals.ref1 rx]
  cases rz with
  | cons r rr =>
    cases rr
    cases r
    obtain ⟨its, rv, p, _⟩ := I.list hl
    obtain ⟨as, hr⟩ := Dp.readsAll I ds ys its hd rv
    refine min_list_default (I.ok.hd hc) p.isList (by simpa using hr) al (by omega) (fun e h' tk hk => ⟨.non, H, I.kept hk, rfl, q0 e⟩) fun y zs i v h' tk bs e hv rd hk => ?_
    subst e
    have hv' : its[i]? = some v := by simpa using hv
    have hm : minD y zs = y := minD_first fun z hz => (List.pairwise_cons.mp pw).1 z hz
    rw [hm] at rd
    -- the item is the first one
    obtain ⟨bs2, r2, hlt, hmem, _⟩ := readsAll_atA (vs := its.toArray) (xs := y :: zs) (by simpa using hr) i v (by simpa using hv)
    have r2' := reads_keeps hk r2
    have eq : (y :: zs).getD i .none = y := alike_unique _ _ v _ _ (al.1 _ hmem _ List.mem_cons_self) r2' rd
    have i0 : i = 0 := by
      cases i with
      | zero => rfl
      | succ j =>
        have hj : (y :: zs).getD (j + 1) .none = zs.getD j .none := rfl
        rw [hj] at eq
        have hjl : j < zs.length := by simpa using hlt
        have em : zs.getD j .none ∈ zs := by
          rw [List.getD_eq_getElem?_getD, List.getElem?_eq_getElem hjl]
          exact List.getElem_mem hjl
        rw [eq] at em
        exact absurd em (List.nodup_cons.mp nd).1
    subst i0
    cases rv with
    | nil => cases hv'
    | cons ra rb =>
      have ev := Option.some.inj hv'
      subst ev
      exact ⟨_, H, I.kept hk, ra, q1 _ y rfl rfl⟩
end KS
namespace KS
open PySem PySem.Spec PyProof.Rows L2
/-! ### obstacles, as mathematics -/
abbrev Quad := Nat × Nat × Nat × Nat
def inC (cs : List Cell) (r c : Nat) : Bool := decide (((r : Int), (c : Int)) ∈ cs)
def obs (cs : List Cell) (u l a b : Nat) : Bool := inC cs u a && inC cs l b && (inC cs u b != inC cs l a)
def obsQ (cs : List Cell) (q : Quad) : Bool := obs cs q.1 q.2.1 q.2.2.1 q.2.2.2
def qlt (p q : Quad) : Prop := p.1 < q.1 ∨ (p.1 = q.1 ∧ (p.2.1 < q.2.1 ∨ (p.2.1 = q.2.1 ∧ (p.2.2.1 < q.2.2.1 ∨ (p.2.2.1 = q.2.2.1 ∧ p.2.2.2 < q.2.2.2)))))
def okQ (q : Quad) : Prop := q.1 < q.2.1 ∧ q.2.1 ≤ 7 ∧ q.2.2.1 < q.2.2.2 ∧ q.2.2.2 ≤ 7
theorem qlt_tri (p q : Quad) : qlt p q ∨ p = q ∨ qlt q p := by
  obtain ⟨p1, p2, p3, p4⟩ := p
  obtain ⟨q1, q2, q3, q4⟩ := q
  unfold qlt
  simp only [Prod.mk.injEq]
  omega
def NoObs (cs : List Cell) : Prop := ∀ q, okQ q → obsQ cs q = false
structure First (cs : List Cell) (q : Quad) : Prop where
  ok : okQ q
  hit : obsQ cs q = true
  none : ∀ p, okQ p → qlt p q → obsQ cs p = false
/-- what obstacle is to tell -/
def Ans (cs : List Cell) : Option Quad → Prop
  | none => NoObs cs
  | some q => First cs q
theorem Ans.uniq {cs : List Cell} : ∀ {o o' : Option Quad}, Ans cs o → Ans cs o' → o = o'
  | none, none, _, _ => rfl
  | none, some q, h, k => by
    have h1 := h q k.ok
    rw [k.hit] at h1
    cases h1
  | some q, none, h, k => by
    have h1 := k q h.ok
    rw [h.hit] at h1
    cases h1
  | some q, some q', h, k => by
    rcases qlt_tri q q' with e | e | e
    · have h1 := k.none q h.ok e
      rw [h.hit] at h1
      cases h1
    · rw [e]
    · have h1 := h.none q' k.ok e
      rw [k.hit] at h1
      cases h1
def quadV (q : Quad) : List V := [.int (q.1 : Nat), .int (q.2.1 : Nat), .int (q.2.2.1 : Nat), .int (q.2.2.2 : Nat)]
def quadD (q : Quad) : PyData := .tuple [.int (q.1 : Nat), .int (q.2.1 : Nat), .int (q.2.2.1 : Nat), .int (q.2.2.2 : Nat)]
def QuadAt (K : PySem.W.Frag) (H : Hp) (v : V) : Option Quad → Prop
  | none => v = .non
  | some q => ∃ t, v = .ref t ∧ SqT K H t (quadV q)
theorem QuadAt.kt {K : PySem.W.Frag} {H H' : Hp} {v : V} : ∀ {o : Option Quad}, KT K H H' → QuadAt K H v o → QuadAt K H' v o
  | none, _, h => h
  | some q, k, ⟨t, e, h⟩ => ⟨t, e, k _ _ h⟩
def spIsObs (K : PySem.W.Frag) : Sp := fun xs H Q _ => ∃ (p : Addr) (cs : List Cell) (u l a b : Nat), xs = [.ref p, .int (u : Nat), .int (l : Nat), .int (a : Nat), .int (b : Nat)] ∧ PlanAt K H p cs ∧ ∀ H', Same H H' → Q (.bl (obs cs u l a b)) H'
def spObs (K : PySem.W.Frag) : Sp := fun xs H Q _ => ∃ (p : Addr) (cs : List Cell), xs = [.ref p] ∧ PlanAt K H p cs ∧ Good cs ∧ cs.length ≤ 24 ∧ ∀ H' v o, Same H H' → Ans cs o → QuadAt K H' v o → Q v H'
def spKeeps (K : PySem.W.Frag) : Sp := fun xs H Q _ => ∃ (p : Addr) (cs : List Cell), xs = [.ref p] ∧ PlanAt K H p cs ∧ Good cs ∧ cs.length ≤ 24 ∧ ∀ H' o, Same H H' → Ans cs o → Q (.bl (decide (o = none))) H'
theorem dp_quad {K : PySem.W.Frag} {H : Hp} {t : Addr} {q : Quad} (h : SqT K H t (quadV q)) : Dp K H (.ref t) (quadD q) := .tup h (.cons (.int _) (.cons (.int _) (.cons (.int _) (.cons (.int _) .nil))))
theorem quad_small {q : Quad} (h : okQ q) : Shows (quadD q) 960 ∧ (quadD q).depth ≤ 64 := by
  obtain ⟨h1, h2, h3, h4⟩ := h
  have := shows_line (l := [(q.1 : Int), (q.2.1 : Int), (q.2.2.1 : Int), (q.2.2.2 : Int)]) (by
    intro x hx
    rcases (by simpa using hx : x = (q.1 : Int) ∨ x = (q.2.1 : Int) ∨ x = (q.2.2.1 : Int) ∨ x = (q.2.2.2 : Int)) with e | e | e | e <;> subst e <;> omega) (by show 4 ≤ 64; decide)
  exact ⟨this, by show (lineD [(q.1 : Int), (q.2.1 : Int), (q.2.2.1 : Int), (q.2.2.2 : Int)]).depth ≤ 64; rw [depth_line]; decide⟩
theorem in_cell {K : PySem.W.Frag} {H : Hp} {T p : Addr} {cs : List Cell} {r c : Nat} (hT : SqT K H T [.int (r : Nat), .int (c : Nat)]) (hp : PlanAt K H p cs) {Q : VK} (k : Q (.bl (inC cs r c)) H) : rInT K (.ref T) (.ref p) H Q := by
  refine ⟨cellD ((r : Int), (c : Int)), cs.map cellD, dp_cell hT, hp.dp, cell_shaped _, plan_shaped _, ?_⟩
  rw [in_plan]
  exact k
theorem notin_cell {K : PySem.W.Frag} {H : Hp} {T p : Addr} {cs : List Cell} {r c : Nat} (hT : SqT K H T [.int (r : Nat), .int (c : Nat)]) (hp : PlanAt K H p cs) {Q : VK} (k : Q (.bl (!inC cs r c)) H) : rNotInT K (.ref T) (.ref p) H Q := by
  refine ⟨cellD ((r : Int), (c : Int)), cs.map cellD, dp_cell hT, hp.dp, cell_shaped _, plan_shaped _, ?_⟩
  rw [in_plan]
  exact k
/-! ### the quads in their order -/
def inner4 (u l a : Nat) : List Quad := (List.range (7 - a)).map fun k => (u, l, a, a + 1 + k)
def mid4 (u l : Nat) : List Quad := (List.range 7).flatMap fun a => inner4 u l a
def two4 (u : Nat) : List Quad := (List.range (7 - u)).flatMap fun k => mid4 u (u + 1 + k)
def all4 : List Quad := (List.range 7).flatMap two4
theorem mem_inner4 {u l a : Nat} {q : Quad} : q ∈ inner4 u l a ↔ q.1 = u ∧ q.2.1 = l ∧ q.2.2.1 = a ∧ a < q.2.2.2 ∧ q.2.2.2 ≤ 7 := by
  unfold inner4
  rw [List.mem_map]
  constructor
  · rintro ⟨k, hk, rfl⟩
    have := List.mem_range.mp hk
    exact ⟨rfl, rfl, rfl, by show a < a + 1 + k; omega, by show a + 1 + k ≤ 7; omega⟩
  · rintro ⟨h1, h2, h3, h4, h5⟩
    obtain ⟨q1, q2, q3, q4⟩ := q
    dsimp only at h1 h2 h3 h4 h5
    refine ⟨q4 - (a + 1), List.mem_range.mpr (by omega), ?_⟩
    simp only [Prod.mk.injEq]
    omega
theorem mem_mid4 {u l : Nat} {q : Quad} : q ∈ mid4 u l ↔ q.1 = u ∧ q.2.1 = l ∧ q.2.2.1 < q.2.2.2 ∧ q.2.2.2 ≤ 7 := by
  unfold mid4
  rw [List.mem_flatMap]
  constructor
  · rintro ⟨a, ha, h⟩
    obtain ⟨h1, h2, h3, h4, h5⟩ := mem_inner4.mp h
    exact ⟨h1, h2, by omega, h5⟩
  · rintro ⟨h1, h2, h3, h4⟩
    exact ⟨q.2.2.1, List.mem_range.mpr (by omega), mem_inner4.mpr ⟨h1, h2, rfl, h3, h4⟩⟩
theorem mem_two4 {u : Nat} {q : Quad} : q ∈ two4 u ↔ q.1 = u ∧ u < q.2.1 ∧ q.2.1 ≤ 7 ∧ q.2.2.1 < q.2.2.2 ∧ q.2.2.2 ≤ 7 := by
  unfold two4
  rw [List.mem_flatMap]
  constructor
  · rintro ⟨k, hk, h⟩
    have := List.mem_range.mp hk
    obtain ⟨h1, h2, h3, h4⟩ := mem_mid4.mp h
    exact ⟨h1, by omega, by omega, h3, h4⟩
  · rintro ⟨h1, h2, h3, h4, h5⟩
    exact ⟨q.2.1 - (u + 1), List.mem_range.mpr (by omega), mem_mid4.mpr ⟨h1, by omega, h4, h5⟩⟩
theorem mem_all4 {q : Quad} : q ∈ all4 ↔ okQ q := by
  unfold all4 okQ
  rw [List.mem_flatMap]
  constructor
  · rintro ⟨u, hu, h⟩
    obtain ⟨h1, h2, h3, h4, h5⟩ := mem_two4.mp h
    exact ⟨by omega, h3, h4, h5⟩
  · rintro ⟨h1, h2, h3, h4⟩
    exact ⟨q.1, List.mem_range.mpr (by omega), mem_two4.mpr ⟨rfl, h1, h2, h3, h4⟩⟩
theorem asc_all4 : all4.Pairwise qlt := by
  have i4 : ∀ u l a, (inner4 u l a).Pairwise qlt := fun u l a => by
    unfold inner4
    rw [List.pairwise_map]
    refine List.pairwise_lt_range.imp fun {x y} h => ?_
    exact .inr ⟨rfl, .inr ⟨rfl, .inr ⟨rfl, by show a + 1 + x < a + 1 + y; omega⟩⟩⟩
  have m4 : ∀ u l, (mid4 u l).Pairwise qlt := fun u l => by
    unfold mid4
    rw [List.pairwise_flatMap]
    refine ⟨fun a _ => i4 u l a, List.pairwise_lt_range.imp fun {x y} h p hp q hq => ?_⟩
    obtain ⟨a1, a2, a3, _⟩ := mem_inner4.mp hp
    obtain ⟨b1, b2, b3, _⟩ := mem_inner4.mp hq
    exact .inr ⟨by omega, .inr ⟨by omega, .inl (by omega)⟩⟩
  have t4 : ∀ u, (two4 u).Pairwise qlt := fun u => by
    unfold two4
    rw [List.pairwise_flatMap]
    refine ⟨fun k _ => m4 _ _, List.pairwise_lt_range.imp fun {x y} h p hp q hq => ?_⟩
    obtain ⟨a1, a2, _⟩ := mem_mid4.mp hp
    obtain ⟨b1, b2, _⟩ := mem_mid4.mp hq
    exact .inr ⟨by omega, .inl (by omega)⟩
  unfold all4
  rw [List.pairwise_flatMap]
  refine ⟨fun u _ => t4 u, List.pairwise_lt_range.imp fun {x y} h p hp q hq => ?_⟩
  obtain ⟨a1, _⟩ := mem_two4.mp hp
  obtain ⟨b1, _⟩ := mem_two4.mp hq
  exact .inl (by omega)
theorem len_all4 : all4.length = 784 := by decide +kernel
theorem qlt_irr (p : Quad) : ¬ qlt p p := by
  unfold qlt
  omega
theorem qlt_asym {p q : Quad} (h : qlt p q) : ¬ qlt q p := by
  unfold qlt at *
  omega
/-- the first of those that are left -/
theorem ans_of_filter (cs : List Cell) : Ans cs (all4.filter (obsQ cs)).head? := by
  have pw : (all4.filter (obsQ cs)).Pairwise qlt := asc_all4.sublist List.filter_sublist
  have mm : ∀ q, q ∈ all4.filter (obsQ cs) ↔ okQ q ∧ obsQ cs q = true := fun q => by rw [List.mem_filter, mem_all4]
  generalize all4.filter (obsQ cs) = L at pw mm
  cases L with
  | nil =>
    intro q hq
    cases e : obsQ cs q with
    | false => rfl
    | true => exact absurd ((mm q).mpr ⟨hq, e⟩) (by simp)
  | cons q L =>
    obtain ⟨h1, h2⟩ := (mm q).mp List.mem_cons_self
    refine ⟨h1, h2, fun p hp hlt => ?_⟩
    cases e : obsQ cs p with
    | false => rfl
    | true =>
      rcases List.mem_cons.mp ((mm p).mpr ⟨hp, e⟩) with z | z
      · rw [z] at hlt
        exact absurd hlt (qlt_irr q)
      · exact absurd hlt (qlt_asym ((List.pairwise_cons.mp pw).1 p z))
open PySem.W (AlikeAll dataLt dataLt_tuple dataLt_cons dataLt_int alike)
theorem lt_quad {p q : Quad} (h : qlt p q) : dataLt (quadD q) (quadD p) = false := by
  unfold quadD
  rw [dataLt_tuple, dataLt_cons (by simp [alike]), dataLt_cons (by simp [alike]), dataLt_cons (by simp [alike]), dataLt_cons (by simp [alike])]
  rw [dataLt_int, dataLt_int, dataLt_int, dataLt_int]
  simp only [PyData.eqv, beq_iff_eq]
  unfold qlt at h
  by_cases e1 : (q.1 : Int) = (p.1 : Int)
  · rw [if_pos e1]
    by_cases e2 : (q.2.1 : Int) = (p.2.1 : Int)
    · rw [if_pos e2]
      by_cases e3 : (q.2.2.1 : Int) = (p.2.2.1 : Int)
      · rw [if_pos e3, if_neg (by omega)]
        exact decide_eq_false (by omega)
      · rw [if_neg e3]
        exact decide_eq_false (by omega)
    · rw [if_neg e2]
      exact decide_eq_false (by omega)
  · rw [if_neg e1]
    exact decide_eq_false (by omega)
theorem quads_alike (L : List Quad) : AlikeAll (L.map quadD) := by
  refine ⟨fun x hx y hy => ?_, fun x hx => ?_⟩
  · obtain ⟨p, _, rfl⟩ := List.mem_map.mp hx
    obtain ⟨q, _, rfl⟩ := List.mem_map.mp hy
    simp [quadD, alike, PySem.W.alikeAll]
  · obtain ⟨p, _, rfl⟩ := List.mem_map.mp hx
    unfold quadD
    intro e
    cases e
theorem quads_depth : ∀ L : List Quad, PyData.depthAll (L.map quadD) ≤ 1
  | [] => by simp [PyData.depthAll]
  | q :: L => by
    have a := quads_depth L
    have b : (quadD q).depth = 1 := depth_line [(q.1 : Int), (q.2.1 : Int), (q.2.2.1 : Int), (q.2.2.2 : Int)]
    simp only [List.map_cons, PyData.depthAll]
    omega
theorem quad_inj {p q : Quad} (h : quadD p = quadD q) : p = q := by
  unfold quadD at h
  obtain ⟨p1, p2, p3, p4⟩ := p
  obtain ⟨q1, q2, q3, q4⟩ := q
  injection h with h
  simp only [List.cons.injEq, PyData.int.injEq, and_true] at h
  simp only [Prod.mk.injEq]
  omega
def shownO : Option Quad → Str
  | none => "None"
  | some q => (quadD q).shown
theorem if_reprN {K : PySem.W.Frag} {t : TS} {D : Ends} {σ : L2.St} {H : Hp} {i j : Nat} {x y : V} {o : Option Quad} {cs : List Cell} (h1 : σ[i]? = some (some x)) (h2 : σ[j]? = some (some y)) (an : Ans cs o) (hx : QuadAt K H x o) (hy : QuadAt K H y o) (k : D.nx σ H) :
    tIfS (tTest (tOp rNe (tCB (rReprN K) (tCons (tVar i) tNil)) (tCB (rReprN K) (tCons (tVar j) tNil)))) t tNext D σ H := by
  cases o with
  | none =>
    have hx : x = .non := hx
    have hy : y = .non := hy
    subst hx hy
    refine ⟨_, h1, .inl ⟨rfl, _, h2, .inl ⟨rfl, ?_⟩⟩⟩
    generalize Str.ofString "None" = z
    exact ⟨rfl, _, rfl, iteNS rfl k⟩
  | some q =>
    obtain ⟨u, rfl, hu⟩ := hx
    obtain ⟨v, rfl, hv⟩ := hy
    obtain ⟨sh, dp⟩ := quad_small an.ok
    have hd := dp_quad hu
    have he := dp_quad hv
    have hl : (quadD q).shown.length ≤ sizeLine := sh.len (by decide)
    have h3 := sh.show_
    have h4 := sh.nod
    clear sh
    generalize quadD q = d at hd he hl h3 h4 dp
    refine ⟨_, h1, .inr ⟨u, d, rfl, hd, h3, h4, hl, dp, ?_⟩⟩
    refine ⟨_, h2, .inr ⟨v, d, rfl, he, h3, h4, hl, dp, ?_⟩⟩
    generalize d.shown = z
    exact ⟨rfl, _, rfl, iteNS rfl k⟩
end KS
namespace KS
open PySem PySem.Spec PyProof.Rows L2
/-! ### counts -/
theorem countP_four {α : Type} {p q s t : α → Bool} : ∀ {l : List α}, (∀ x ∈ l, (p x).toNat + (q x).toNat ≤ (s x).toNat + (t x).toNat) → l.countP p + l.countP q ≤ l.countP s + l.countP t
  | [], _ => by simp
  | x :: l, h => by
    have ih := countP_four (l := l) fun y hy => h y (List.mem_cons_of_mem _ hy)
    have hx := h x List.mem_cons_self
    have c : ∀ f : α → Bool, (x :: l).countP f = l.countP f + (f x).toNat := fun f => by
      rw [List.countP_cons]
      cases f x <;> rfl
    rw [c, c, c, c]
    omega
theorem nodup_len_le : ∀ {l m : List Nat}, l.Nodup → (∀ x ∈ l, x ∈ m) → l.length ≤ m.length
  | [], _, _, _ => Nat.zero_le _
  | x :: l, m, nd, h => by
    rw [List.nodup_cons] at nd
    have hx := h x List.mem_cons_self
    have ih := nodup_len_le (l := l) (m := m.erase x) nd.2 fun y hy => by
      have : y ≠ x := fun e => nd.1 (e ▸ hy)
      exact (List.mem_erase_of_ne this).mpr (h y (List.mem_cons_of_mem _ hy))
    rw [List.length_erase_of_mem hx] at ih
    have : 0 < m.length := List.length_pos_of_mem hx
    rw [List.length_cons]
    omega
theorem count_by {g : Nat → Nat} {ks : List Nat} (nd : ks.Pairwise fun i j => g i ≠ g j) (lt : ∀ k ∈ ks, g k < 8) (p : Nat → Bool) : ks.countP p = (List.range 8).countP fun r => ks.any fun k => decide (g k = r) && p k := by
  rw [List.countP_eq_length_filter, List.countP_eq_length_filter]
  have e : (ks.filter p).length = ((ks.filter p).map g).length := by rw [List.length_map]
  rw [e]
  have n1 : ((ks.filter p).map g).Nodup := by
    rw [List.nodup_iff_pairwise_ne, List.pairwise_map]
    exact nd.sublist List.filter_sublist
  have n2 : ((List.range 8).filter fun r => ks.any fun k => decide (g k = r) && p k).Nodup := List.nodup_range.sublist List.filter_sublist
  have mm : ∀ r, r ∈ (ks.filter p).map g ↔ r ∈ (List.range 8).filter fun r => ks.any fun k => decide (g k = r) && p k := fun r => by
    rw [List.mem_map, List.mem_filter, List.mem_range]
    constructor
    · rintro ⟨k, hk, rfl⟩
      obtain ⟨h1, h2⟩ := List.mem_filter.mp hk
      refine ⟨lt k h1, List.any_eq_true.mpr ⟨k, h1, by rw [decide_eq_true rfl, h2]; rfl⟩⟩
    · rintro ⟨_, h⟩
      obtain ⟨k, h1, h2⟩ := List.any_eq_true.mp h
      rw [Bool.and_eq_true] at h2
      exact ⟨k, List.mem_filter.mpr ⟨h1, h2.2⟩, of_decide_eq_true h2.1⟩
  exact Nat.le_antisymm (nodup_len_le n1 fun x hx => (mm x).mp hx) (nodup_len_le n2 fun x hx => (mm x).mpr hx)
theorem sorted_ge {L : List Int} (h : L.Pairwise (· ≤ ·)) {p : Nat} {x : Int} (hp : L[p]? = some x) : L.length ≤ L.countP (fun v => decide (x ≤ v)) + p := by
  induction L generalizing p with
  | nil => simp at hp
  | cons a L ih =>
    rw [List.pairwise_cons] at h
    cases p with
    | zero =>
      simp at hp
      subst hp
      have : (a :: L).countP (fun v => decide (a ≤ v)) = (a :: L).length := List.countP_eq_length.mpr fun v hv => by
        rcases List.mem_cons.mp hv with e | e
        · exact decide_eq_true (by omega)
        · exact decide_eq_true (h.1 v e)
      omega
    | succ p =>
      have hp' : L[p]? = some x := by simpa using hp
      have := ih h.2 hp'
      rw [List.countP_cons, List.length_cons]
      omega
theorem sorted_lt {L : List Int} (h : L.Pairwise (· ≤ ·)) {p : Nat} {x y : Int} (hp : L[p]? = some y) (hy : y < x) : L.countP (fun v => decide (x ≤ v)) + (p + 1) ≤ L.length := by
  induction L generalizing p with
  | nil => simp at hp
  | cons a L ih =>
    rw [List.pairwise_cons] at h
    cases p with
    | zero =>
      simp at hp
      subst hp
      rw [List.countP_cons, if_neg (by simp; omega), List.length_cons]
      have := List.countP_le_length (p := fun v => decide (x ≤ v)) (l := L)
      omega
    | succ p =>
      have hp' : L[p]? = some y := by simpa using hp
      have i := ih h.2 hp'
      have ha := h.1 y (List.mem_of_getElem? hp')
      rw [List.countP_cons, if_neg (by simp; omega), List.length_cons]
      omega
/-- an ascending list: the place of an item counts those before -/
theorem asc_place : ∀ {ks : List Nat} {p i : Nat}, ks.Pairwise (· < ·) → ks[p]? = some i → ks.countP (fun m => decide (i ≤ m)) + p = ks.length
  | [], _, _, _, h => by simp at h
  | a :: ks, 0, i, pw, h => by
    simp at h
    subst h
    rw [List.pairwise_cons] at pw
    have : (a :: ks).countP (fun m => decide (a ≤ m)) = (a :: ks).length := List.countP_eq_length.mpr fun v hv => by
      rcases List.mem_cons.mp hv with e | e
      · exact decide_eq_true (by omega)
      · exact decide_eq_true (by have := pw.1 v e; omega)
    omega
  | a :: ks, p + 1, i, pw, h => by
    rw [List.pairwise_cons] at pw
    have h' : ks[p]? = some i := by simpa using h
    have := asc_place pw.2 h'
    have := pw.1 i (List.mem_of_getElem? h')
    rw [List.countP_cons, if_neg (by simp; omega), List.length_cons]
    omega
/-! ### the cells of a plan by their lines -/
def gB (b : Bool) (cs : List Cell) (i : Nat) : Int := ((cs[i]?).map (pick b)).getD 0
theorem gB_at {b : Bool} {cs : List Cell} {i : Nat} {c : Cell} (h : cs[i]? = some c) : gB b cs i = pick b c := by
  unfold gB
  rw [h]
  rfl
theorem gB_bd {b : Bool} {cs : List Cell} (g : Good cs) {i : Nat} (h : i < cs.length) : 0 ≤ gB b cs i ∧ gB b cs i ≤ 7 := by
  have e : cs[i]? = some cs[i] := List.getElem?_eq_getElem h
  rw [gB_at e]
  have := g.grid _ (List.mem_of_getElem? e)
  unfold InGrid at this
  unfold pick
  split <;> omega
theorem gB_lt {b : Bool} {cs : List Cell} (g : Good cs) {i j : Nat} (hij : i < j) (hj : j < cs.length) (e : gB b cs i = gB b cs j) : gB (!b) cs i < gB (!b) cs j := by
  have hi : i < cs.length := by omega
  have ei : cs[i]? = some cs[i] := List.getElem?_eq_getElem hi
  have ej : cs[j]? = some cs[j] := List.getElem?_eq_getElem hj
  have lt := (List.pairwise_iff_getElem.mp g.asc) i j hi hj hij
  rw [gB_at ei, gB_at ej] at e ⊢
  unfold lt2 at lt
  cases b
  · have e' : cs[i].1 = cs[j].1 := e
    show cs[i].2 < cs[j].2
    omega
  · have e' : cs[i].2 = cs[j].2 := e
    show cs[i].1 < cs[j].1
    omega
theorem gB_le {b : Bool} {cs : List Cell} (g : Good cs) {i m : Nat} (hi : i < cs.length) (hm : m < cs.length) (e : gB b cs i = gB b cs m) : i ≤ m ↔ gB (!b) cs i ≤ gB (!b) cs m := by
  constructor
  · intro h
    rcases Nat.lt_or_ge i m with c | c
    · have := gB_lt g c hm e
      omega
    · have : i = m := by omega
      rw [this]
      omega
  · intro h
    rcases Nat.lt_or_ge m i with c | c
    · have := gB_lt g c hi e.symm
      omega
    · exact c
def lineN (b : Bool) (cs : List Cell) (r : Int) : List Nat := idxsN b cs cs.length r
theorem mem_lineN {b : Bool} {cs : List Cell} {r : Int} {i : Nat} : i ∈ lineN b cs r ↔ i < cs.length ∧ gB b cs i = r := by
  unfold lineN idxsN
  rw [List.mem_filter, List.mem_range]
  constructor
  · rintro ⟨h1, h2⟩
    have e : cs[i]? = some cs[i] := List.getElem?_eq_getElem h1
    have h2 := of_decide_eq_true h2
    rw [e] at h2
    exact ⟨h1, by rw [gB_at e]; exact Option.some.inj h2⟩
  · rintro ⟨h1, h2⟩
    have e : cs[i]? = some cs[i] := List.getElem?_eq_getElem h1
    refine ⟨h1, decide_eq_true ?_⟩
    rw [e]
    rw [gB_at e] at h2
    exact congrArg some h2
theorem lineN_asc (b : Bool) (cs : List Cell) (r : Int) : (lineN b cs r).Pairwise (· < ·) := List.pairwise_lt_range.sublist List.filter_sublist
theorem lineN_mem {b : Bool} {cs : List Cell} (g : Good cs) {i : Nat} (hi : i < cs.length) : lineN b cs (gB b cs i) ∈ lnsN b cs := by
  have bd := gB_bd (b := b) g hi
  unfold lnsN
  rw [List.mem_filter, List.mem_map]
  refine ⟨⟨(gB b cs i).toNat, List.mem_range.mpr (by omega), ?_⟩, decide_eq_true fun e => ?_⟩
  · rw [Int.toNat_of_nonneg bd.1]
    rfl
  · have : i ∈ lineN b cs (gB b cs i) := mem_lineN.mpr ⟨hi, rfl⟩
    rw [e] at this
    cases this
def vI (vs : List Int) (i : Nat) : Int := vs.getD i 0
theorem getN_vI (vs : List Int) (ks : List Nat) : getN vs ks = ks.map (vI vs) := rfl
theorem asc_mem {ks : List Nat} {R : Nat → Nat → Prop} (h : ks.Pairwise R) (a : ks.Pairwise (· < ·)) {i j : Nat} (hi : i ∈ ks) (hj : j ∈ ks) (hij : i < j) : R i j := by
  obtain ⟨p, hp⟩ := List.mem_iff_getElem?.mp hi
  obtain ⟨q, hq⟩ := List.mem_iff_getElem?.mp hj
  obtain ⟨l1, e1⟩ := List.getElem?_eq_some_iff.mp hp
  obtain ⟨l2, e2⟩ := List.getElem?_eq_some_iff.mp hq
  rcases Nat.lt_trichotomy p q with c | c | c
  · have := (List.pairwise_iff_getElem.mp h) p q l1 l2 c
    rw [e1, e2] at this
    exact this
  · subst c
    omega
  · have := (List.pairwise_iff_getElem.mp a) q p l2 l1 c
    rw [e1, e2] at this
    omega
/-- rising lines, pair by pair -/
theorem rises_pairs {b : Bool} {cs : List Cell} {vs : List Int} (g : Good cs) : rises b cs vs = true ↔ ∀ i j, i < j → j < cs.length → gB b cs i = gB b cs j → vI vs i ≤ vI vs j := by
  rw [rises_iff]
  constructor
  · intro h i j hij hj e
    have hi : i < cs.length := by omega
    have hk := h _ (lineN_mem (b := b) g hi)
    have pw : (getN vs (lineN b cs (gB b cs i))).Pairwise (· ≤ ·) := by
      rw [hk]
      exact sortI_asc _
    rw [getN_vI, List.pairwise_map] at pw
    exact asc_mem pw (lineN_asc _ _ _) (mem_lineN.mpr ⟨hi, rfl⟩) (mem_lineN.mpr ⟨hj, e.symm⟩) hij
  · intro h ks hks
    unfold lnsN at hks
    obtain ⟨r, _, rfl⟩ := List.mem_map.mp (List.mem_filter.mp hks).1
    refine sortI_eq (List.Perm.refl _) ?_
    rw [getN_vI, List.pairwise_map]
    refine (lineN_asc b cs (r : Int)).imp_of_mem fun {i j} hi hj hij => ?_
    obtain ⟨i1, i2⟩ := mem_lineN.mp hi
    obtain ⟨j1, j2⟩ := mem_lineN.mp hj
    exact h i j hij j1 (by omega)
/-- what stands in a cell after a sort -/
theorem srt_at {b : Bool} {cs : List Cell} {vs : List Int} (g : Good cs) (hv : vs.length = cs.length) {i : Nat} (hi : i < cs.length) : ∃ p : Nat, (lineN b cs (gB b cs i))[p]? = some i ∧ (sortI ((lineN b cs (gB b cs i)).map (vI vs)))[p]? = some (vI (srt b cs vs) i) := by
  obtain ⟨p, hp⟩ := List.mem_iff_getElem?.mp (show i ∈ lineN b cs (gB b cs i) from mem_lineN.mpr ⟨hi, rfl⟩)
  refine ⟨p, hp, ?_⟩
  have e := fold_get (vs := vs) (acc := vs) (ls := lnsN b cs) (by rw [hv]; exact lns_parts b cs) _ (lineN_mem (b := b) g hi)
  rw [← srt_up, getN_vI, getN_vI] at e
  rw [← e, List.getElem?_map, hp]
  rfl
/-- those of a line that are as great as what stands in a cell after the sort are as many as the cells from it on, at least -/
theorem many_ge {b : Bool} {cs : List Cell} {vs : List Int} (g : Good cs) (hv : vs.length = cs.length) {i : Nat} (hi : i < cs.length) {x : Int} (hx : x ≤ vI (srt b cs vs) i) :
    (lineN b cs (gB b cs i)).countP (fun m => decide (i ≤ m)) ≤ (lineN b cs (gB b cs i)).countP (fun m => decide (x ≤ vI vs m)) := by
  obtain ⟨p, h1, h2⟩ := srt_at (b := b) g hv hi
  have a := sorted_ge (sortI_asc _) h2
  have c := asc_place (lineN_asc _ _ _) h1
  rw [sortI_len, List.length_map, (sortI_perm _).countP_eq, List.countP_map] at a
  have m : (lineN b cs (gB b cs i)).countP ((fun v => decide (vI (srt b cs vs) i ≤ v)) ∘ vI vs) ≤ (lineN b cs (gB b cs i)).countP (fun m => decide (x ≤ vI vs m)) :=
    List.countP_mono_left fun k _ hk => decide_eq_true (by
      have : vI (srt b cs vs) i ≤ vI vs k := of_decide_eq_true hk
      omega)
  omega
theorem many_lt {b : Bool} {cs : List Cell} {vs : List Int} (g : Good cs) (hv : vs.length = cs.length) {i : Nat} (hi : i < cs.length) {x : Int} (hx : vI (srt b cs vs) i < x) :
    (lineN b cs (gB b cs i)).countP (fun m => decide (x ≤ vI vs m)) + 1 ≤ (lineN b cs (gB b cs i)).countP (fun m => decide (i ≤ m)) := by
  obtain ⟨p, h1, h2⟩ := srt_at (b := b) g hv hi
  have a := sorted_lt (sortI_asc _) h2 hx
  have c := asc_place (lineN_asc _ _ _) h1
  rw [sortI_len, List.length_map, (sortI_perm _).countP_eq, List.countP_map] at a
  have m : (lineN b cs (gB b cs i)).countP ((fun v => decide (x ≤ v)) ∘ vI vs) = (lineN b cs (gB b cs i)).countP (fun m => decide (x ≤ vI vs m)) := rfl
  omega
/-- whether some cell of line k (of the other kind) in line r satisfies p -/
def hit (b : Bool) (cs : List Cell) (k : Int) (p : Nat → Bool) (r : Nat) : Bool := (lineN (!b) cs k).any fun m => decide ((gB b cs m).toNat = r) && p m
theorem count_hit {b : Bool} {cs : List Cell} (g : Good cs) (k : Int) (p : Nat → Bool) : (lineN (!b) cs k).countP p = (List.range 8).countP (hit b cs k p) := by
  refine count_by (g := fun m => (gB b cs m).toNat) ?_ (fun m hm => ?_) p
  · refine (lineN_asc (!b) cs k).imp_of_mem fun {i j} hi hj hij => ?_
    obtain ⟨i1, i2⟩ := mem_lineN.mp hi
    obtain ⟨j1, j2⟩ := mem_lineN.mp hj
    have lt := gB_lt (b := !b) g hij j1 (by omega)
    rw [Bool.not_not] at lt
    have b1 := gB_bd (b := b) g i1
    have b2 := gB_bd (b := b) g j1
    omega
  · have := gB_bd (b := b) g (mem_lineN.mp hm).1
    omega
theorem hit_true {b : Bool} {cs : List Cell} (g : Good cs) {k : Int} {p : Nat → Bool} {r : Nat} : hit b cs k p r = true ↔ ∃ m, m < cs.length ∧ gB (!b) cs m = k ∧ gB b cs m = (r : Int) ∧ p m = true := by
  unfold hit
  rw [List.any_eq_true]
  constructor
  · rintro ⟨m, hm, h⟩
    rw [Bool.and_eq_true] at h
    obtain ⟨m1, m2⟩ := mem_lineN.mp hm
    have bd := gB_bd (b := b) g m1
    have := of_decide_eq_true h.1
    exact ⟨m, m1, m2, by omega, h.2⟩
  · rintro ⟨m, m1, m2, m3, h⟩
    refine ⟨m, mem_lineN.mpr ⟨m1, m2⟩, ?_⟩
    rw [h, Bool.and_true]
    exact decide_eq_true (by omega)
/-- the plan has a cell in line r of this kind and line k of the other one -/
def cellB (b : Bool) (cs : List Cell) (r k : Int) : Prop := ∃ m, m < cs.length ∧ gB b cs m = r ∧ gB (!b) cs m = k
theorem cell_uniq {b : Bool} {cs : List Cell} (g : Good cs) {m m' : Nat} (h : m < cs.length) (h' : m' < cs.length) (e1 : gB b cs m = gB b cs m') (e2 : gB (!b) cs m = gB (!b) cs m') : m = m' := by
  rcases Nat.lt_trichotomy m m' with c | c | c
  · have := gB_lt (b := b) g c h' e1
    omega
  · exact c
  · have := gB_lt (b := b) g c h e1.symm
    omega
/-- no four of which just one of the two is missing -/
def NoX (b : Bool) (cs : List Cell) : Prop := ∀ r1 r2 k1 k2 : Int, r1 < r2 → k1 < k2 → cellB b cs r1 k1 → cellB b cs r2 k2 → (cellB b cs r1 k2 ↔ cellB b cs r2 k1)
theorem toNat_le {p q s t : Bool} (h1 : p = true → s = true ∨ t = true) (h2 : q = true → s = true ∨ t = true) (h3 : p = true → q = true → s = true ∧ t = true) : p.toNat + q.toNat ≤ s.toNat + t.toNat := by
  cases p <;> cases q <;> cases s <;> cases t <;> simp at *
/-- MAIN: on a plan without such four, a sort of the other kind leaves rising lines rising -/
theorem kept {b : Bool} {cs : List Cell} {vs : List Int} (g : Good cs) (hv : vs.length = cs.length) (nx : NoX b cs) (h : rises b cs vs = true) : rises b cs (srt (!b) cs vs) = true := by
  rw [rises_pairs g] at h ⊢
  intro i j hij hj e
  have hi : i < cs.length := by omega
  rcases Int.lt_or_le (vI (srt (!b) cs vs) j) (vI (srt (!b) cs vs) i) with c | c
  · exfalso
    have kk := gB_lt (b := b) g hij hj e
    have a1 := many_ge (b := !b) g hv hi (Int.le_refl _)
    have a2 := many_lt (b := !b) g hv hj c
    rw [count_hit g, count_hit g] at a1 a2
    have key := countP_four (l := List.range 8) (p := hit b cs (gB (!b) cs i) fun m => decide (vI (srt (!b) cs vs) i ≤ vI vs m)) (q := hit b cs (gB (!b) cs j) fun m => decide (j ≤ m))
      (s := hit b cs (gB (!b) cs j) fun m => decide (vI (srt (!b) cs vs) i ≤ vI vs m)) (t := hit b cs (gB (!b) cs i) fun m => decide (i ≤ m)) (fun r _ => by
        -- a cell of the line of j from j on has a neighbour in the line of i
        have below : ∀ m, m < cs.length → gB (!b) cs m = gB (!b) cs j → j ≤ m → ∃ m', m' < cs.length ∧ gB (!b) cs m' = gB (!b) cs i ∧ gB b cs m' = gB b cs m ∧ i ≤ m' := fun m h1 h2 h3 => by
          have le := (gB_le (b := !b) g hj h1 h2.symm).mp h3
          rw [Bool.not_not] at le
          rcases Int.lt_or_eq_of_le le with c1 | c1
          · have := (nx (gB b cs i) (gB b cs m) (gB (!b) cs i) (gB (!b) cs j) (by omega) kk ⟨i, hi, rfl, rfl⟩ ⟨m, h1, rfl, h2⟩).mp ⟨j, hj, e.symm, rfl⟩
            obtain ⟨m', q1, q2, q3⟩ := this
            refine ⟨m', q1, q3, q2, (gB_le (b := !b) g hi q1 q3.symm).mpr ?_⟩
            rw [Bool.not_not]
            omega
          · exact ⟨i, hi, rfl, by omega, Nat.le_refl _⟩
        refine toNat_le (fun hp => ?_) (fun hq => ?_) (fun hp hq => ?_)
        · obtain ⟨m, m1, m2, m3, m4⟩ := (hit_true g).mp hp
          have m4 := of_decide_eq_true m4
          by_cases c1 : i ≤ m
          · exact .inr ((hit_true g).mpr ⟨m, m1, m2, m3, decide_eq_true c1⟩)
          · left
            have le := (gB_le (b := !b) g m1 hi m2).mp (by omega)
            rw [Bool.not_not] at le
            have ne : gB b cs m ≠ gB b cs i := fun z => by
              have := cell_uniq (b := b) g m1 hi z m2
              omega
            obtain ⟨m', q1, q2, q3⟩ := (nx (gB b cs m) (gB b cs i) (gB (!b) cs i) (gB (!b) cs j) (by omega) kk ⟨m, m1, rfl, m2⟩ ⟨j, hj, e.symm, rfl⟩).mpr ⟨i, hi, rfl, rfl⟩
            have lt : m < m' := by
              rcases Nat.lt_trichotomy m m' with z | z | z
              · exact z
              · rw [z] at m2
                omega
              · have := gB_lt (b := b) g z m1 q2
                omega
            have := h m m' lt q1 q2.symm
            exact (hit_true g).mpr ⟨m', q1, q3, by omega, decide_eq_true (by omega)⟩
        · obtain ⟨m, m1, m2, m3, m4⟩ := (hit_true g).mp hq
          obtain ⟨m', q1, q2, q3, q4⟩ := below m m1 m2 (of_decide_eq_true m4)
          exact .inr ((hit_true g).mpr ⟨m', q1, q2, by omega, decide_eq_true q4⟩)
        · obtain ⟨m, m1, m2, m3, m4⟩ := (hit_true g).mp hp
          have m4 := of_decide_eq_true m4
          obtain ⟨n, n1, n2, n3, n4⟩ := (hit_true g).mp hq
          obtain ⟨m', q1, q2, q3, q4⟩ := below n n1 n2 (of_decide_eq_true n4)
          refine ⟨(hit_true g).mpr ⟨n, n1, n2, n3, decide_eq_true ?_⟩, (hit_true g).mpr ⟨m', q1, q2, by omega, decide_eq_true q4⟩⟩
          have lt : m < n := by
            rcases Nat.lt_trichotomy m n with z | z | z
            · exact z
            · rw [z] at m2
              omega
            · have := gB_lt (b := b) g z m1 (by omega)
              omega
          have := h m n lt n1 (by omega)
          omega)
    omega
  · exact c
end KS
namespace KS
open PySem PySem.Spec PyProof.Rows L2
theorem count_eq_one : ∀ n, n < 8 → (List.range 8).countP (fun r => decide (r = n)) = 1 := by decide
theorem count_false (l : List Nat) : l.countP (fun _ => false) = 0 := by
  rw [List.countP_eq_zero]
  intro a _ h
  cases h
theorem cellB_bd {b : Bool} {cs : List Cell} (g : Good cs) {r k : Int} (h : cellB b cs r k) : (0 ≤ r ∧ r ≤ 7) ∧ 0 ≤ k ∧ k ≤ 7 := by
  obtain ⟨m, h1, rfl, rfl⟩ := h
  exact ⟨gB_bd g h1, gB_bd g h1⟩
/-- values that are great in the marked lines alone no longer rise behind a sort of the other kind -/
theorem breaks {b : Bool} {cs : List Cell} {vs : List Int} {x : Int} (g : Good cs) (hv : vs.length = cs.length) {r1 r2 k1 k2 br : Int} (hr : r1 < r2) (hk : k1 < k2) (c1 : cellB b cs r1 k1) (c2 : cellB b cs r2 k2)
    (hb : (cellB b cs r2 k1 ∧ ¬ cellB b cs r1 k2 ∧ br = r2) ∨ (¬ cellB b cs r2 k1 ∧ cellB b cs r1 k2 ∧ br = r1))
    (hM : ∀ m, m < cs.length → (x ≤ vI vs m ↔ (cellB b cs (gB b cs m) k1 ∧ (br < gB b cs m ∨ gB b cs m = r1)))) : rises b cs (srt (!b) cs vs) = false := by
  cases e : rises b cs (srt (!b) cs vs) with
  | false => rfl
  | true =>
    exfalso
    rw [rises_pairs g] at e
    have cA : cellB b cs br k1 := by
      rcases hb with ⟨h1, _, h3⟩ | ⟨_, _, h3⟩
      · rw [h3]
        exact h1
      · rw [h3]
        exact c1
    have cB : cellB b cs br k2 := by
      rcases hb with ⟨_, _, h3⟩ | ⟨_, h2, h3⟩
      · rw [h3]
        exact c2
      · rw [h3]
        exact h2
    obtain ⟨i, i1, i2, i3⟩ := cA
    obtain ⟨j, j1, j2, j3⟩ := cB
    have hij : i < j := by
      rcases Nat.lt_trichotomy i j with z | z | z
      · exact z
      · rw [z] at i3
        omega
      · have := gB_lt (b := b) g z i1 (by omega)
        omega
    have le := e i j hij j1 (by omega)
    have bd1 := cellB_bd g c1
    have bd2 := cellB_bd g c2
    have q1 := count_eq_one r1.toNat (by omega)
    have q2 := count_eq_one r2.toNat (by omega)
    have hx : x ≤ vI (srt (!b) cs vs) i := by
      rcases Int.lt_or_le (vI (srt (!b) cs vs) i) x with z | z
      · exfalso
        have a := many_lt (b := !b) g hv i1 z
        rw [count_hit g, count_hit g, i3] at a
        rcases hb with ⟨h1, h2, h3⟩ | ⟨h1, h2, h3⟩
        · have key := countP_four (l := List.range 8) (p := hit b cs k1 fun m => decide (i ≤ m)) (q := fun r => decide (r = r1.toNat)) (s := hit b cs k1 fun m => decide (x ≤ vI vs m)) (t := fun r => decide (r = r2.toNat)) (fun r _ => by
            refine toNat_le (fun hp => ?_) (fun hq => ?_) (fun hp hq => ?_)
            · obtain ⟨m, m1, m2, m3, m4⟩ := (hit_true g).mp hp
              have lm := (gB_le (b := !b) g i1 m1 (by omega)).mp (of_decide_eq_true m4)
              rw [Bool.not_not] at lm
              by_cases c : gB b cs m = r2
              · exact .inr (decide_eq_true (by omega))
              · exact .inl ((hit_true g).mpr ⟨m, m1, m2, m3, decide_eq_true ((hM m m1).mpr ⟨⟨m, m1, rfl, m2⟩, .inl (by omega)⟩)⟩)
            · have hq := of_decide_eq_true hq
              obtain ⟨m, m1, m2, m3⟩ := c1
              exact .inl ((hit_true g).mpr ⟨m, m1, m3, by omega, decide_eq_true ((hM m m1).mpr ⟨⟨m, m1, rfl, m3⟩, .inr m2⟩)⟩)
            · obtain ⟨m, m1, m2, m3, m4⟩ := (hit_true g).mp hp
              have hq := of_decide_eq_true hq
              have lm := (gB_le (b := !b) g i1 m1 (by omega)).mp (of_decide_eq_true m4)
              rw [Bool.not_not] at lm
              omega)
          omega
        · have key := countP_four (l := List.range 8) (p := hit b cs k1 fun m => decide (i ≤ m)) (q := fun _ => false) (s := hit b cs k1 fun m => decide (x ≤ vI vs m)) (t := fun _ => false) (fun r _ => by
            refine toNat_le (fun hp => ?_) (fun hq => absurd hq (by decide)) (fun hp hq => absurd hq (by decide))
            obtain ⟨m, m1, m2, m3, m4⟩ := (hit_true g).mp hp
            have lm := (gB_le (b := !b) g i1 m1 (by omega)).mp (of_decide_eq_true m4)
            rw [Bool.not_not] at lm
            exact .inl ((hit_true g).mpr ⟨m, m1, m2, m3, decide_eq_true ((hM m m1).mpr ⟨⟨m, m1, rfl, m2⟩, by omega⟩)⟩))
          rw [count_false] at key
          omega
      · exact z
    have a := many_ge (b := !b) g hv j1 (Int.le_trans hx le)
    rw [count_hit g, count_hit g, j3] at a
    have key := countP_four (l := List.range 8) (p := hit b cs k2 fun m => decide (x ≤ vI vs m)) (q := fun r => decide (r = r2.toNat)) (s := hit b cs k2 fun m => decide (j ≤ m)) (t := fun _ => false) (fun r _ => by
      have from_ : ∀ m, m < cs.length → gB (!b) cs m = k2 → br ≤ gB b cs m → j ≤ m := fun m m1 m2 h => by
        refine (gB_le (b := !b) g j1 m1 (by omega)).mpr ?_
        rw [Bool.not_not]
        omega
      refine toNat_le (fun hp => ?_) (fun hq => ?_) (fun hp hq => ?_)
      · obtain ⟨m, m1, m2, m3, m4⟩ := (hit_true g).mp hp
        obtain ⟨_, w⟩ := (hM m m1).mp (of_decide_eq_true m4)
        refine .inl ((hit_true g).mpr ⟨m, m1, m2, m3, decide_eq_true (from_ m m1 m2 ?_)⟩)
        rcases w with w | w
        · omega
        · rcases hb with ⟨_, h2, _⟩ | ⟨_, _, h3⟩
          · exact absurd ⟨m, m1, w, m2⟩ h2
          · omega
      · have hq := of_decide_eq_true hq
        obtain ⟨m, m1, m2, m3⟩ := c2
        refine .inl ((hit_true g).mpr ⟨m, m1, m3, by omega, decide_eq_true (from_ m m1 m3 ?_)⟩)
        rcases hb with ⟨_, _, h3⟩ | ⟨_, _, h3⟩ <;> omega
      · exfalso
        obtain ⟨m, m1, m2, m3, m4⟩ := (hit_true g).mp hp
        have hq := of_decide_eq_true hq
        obtain ⟨w1, w⟩ := (hM m m1).mp (of_decide_eq_true m4)
        have em : gB b cs m = r2 := by omega
        rcases hb with ⟨_, _, h3⟩ | ⟨h1, _, _⟩
        · omega
        · rw [em] at w1
          exact h1 w1)
    rw [count_false] at key
    omega
/-! ### obstacles and both kinds -/
theorem cellB_iff {b : Bool} {cs : List Cell} {r k : Int} : cellB b cs r k ↔ (if b = true then ((k, r) : Cell) else (r, k)) ∈ cs := by
  constructor
  · rintro ⟨m, h1, h2, h3⟩
    have e : cs[m]? = some cs[m] := List.getElem?_eq_getElem h1
    rw [gB_at e] at h2 h3
    have : (if b = true then ((k, r) : Cell) else (r, k)) = cs[m] := by
      cases b
      · exact Prod.ext h2.symm h3.symm
      · exact Prod.ext h3.symm h2.symm
    rw [this]
    exact List.getElem_mem h1
  · intro h
    obtain ⟨m, h1⟩ := List.mem_iff_getElem?.mp h
    refine ⟨m, (List.getElem?_eq_some_iff.mp h1).1, ?_, ?_⟩ <;> rw [gB_at h1] <;> cases b <;> rfl
theorem inC_iff {cs : List Cell} {r k : Nat} : inC cs r k = true ↔ ((r : Int), (k : Int)) ∈ cs := by
  unfold inC
  exact decide_eq_true_iff
theorem bool_iff {p q : Bool} : (p != q) = false ↔ (p = true ↔ q = true) := by
  cases p <;> cases q <;> decide
theorem nox_of_noobs {cs : List Cell} (g : Good cs) (h : NoObs cs) (b : Bool) : NoX b cs := by
  intro r1 r2 k1 k2 hr hk c1 c2
  have bd1 := cellB_bd g c1
  have bd2 := cellB_bd g c2
  have use : ∀ u l a c : Nat, u < l → l ≤ 7 → a < c → c ≤ 7 → ((u : Int), (a : Int)) ∈ cs → ((l : Int), (c : Int)) ∈ cs → (((u : Int), (c : Int)) ∈ cs ↔ ((l : Int), (a : Int)) ∈ cs) := fun u l a c h1 h2 h3 h4 m1 m2 => by
    have z := h (u, l, a, c) ⟨h1, h2, h3, h4⟩
    unfold obsQ obs at z
    dsimp only at z
    rw [inC_iff.mpr m1, inC_iff.mpr m2] at z
    have z' : (inC cs u c != inC cs l a) = false := z
    rw [bool_iff, inC_iff, inC_iff] at z'
    exact z'
  rw [cellB_iff] at c1 c2
  rw [cellB_iff, cellB_iff]
  have e1 : ((r1.toNat : Nat) : Int) = r1 := by omega
  have e2 : ((r2.toNat : Nat) : Int) = r2 := by omega
  have e3 : ((k1.toNat : Nat) : Int) = k1 := by omega
  have e4 : ((k2.toNat : Nat) : Int) = k2 := by omega
  cases b
  · have z := use r1.toNat r2.toNat k1.toNat k2.toNat (by omega) (by omega) (by omega) (by omega)
    rw [e1, e2, e3, e4] at z
    exact z c1 c2
  · have z := use k1.toNat k2.toNat r1.toNat r2.toNat (by omega) (by omega) (by omega) (by omega)
    rw [e1, e2, e3, e4] at z
    exact (z c1 c2).symm
/-- an obstacle, seen by this kind: two lines of it, two of the other kind -/
structure XAt (b : Bool) (cs : List Cell) (r1 r2 k1 k2 : Int) : Prop where
  hr : r1 < r2
  hk : k1 < k2
  c1 : cellB b cs r1 k1
  c2 : cellB b cs r2 k2
  x : (cellB b cs r2 k1 ∧ ¬ cellB b cs r1 k2) ∨ (¬ cellB b cs r2 k1 ∧ cellB b cs r1 k2)
theorem xat_of_obs {cs : List Cell} {q : Quad} (hq : okQ q) (h : obsQ cs q = true) : XAt false cs q.1 q.2.1 q.2.2.1 q.2.2.2 ∧ XAt true cs q.2.2.1 q.2.2.2 q.1 q.2.1 := by
  unfold obsQ obs at h
  rw [Bool.and_eq_true, Bool.and_eq_true, inC_iff, inC_iff] at h
  obtain ⟨⟨h1, h2⟩, h3⟩ := h
  have h4 : (((q.2.1 : Int), (q.2.2.1 : Int)) ∈ cs ∧ ¬ ((q.1 : Int), (q.2.2.2 : Int)) ∈ cs) ∨ (¬ ((q.2.1 : Int), (q.2.2.1 : Int)) ∈ cs ∧ ((q.1 : Int), (q.2.2.2 : Int)) ∈ cs) := by
    rw [← inC_iff, ← inC_iff]
    cases e1 : inC cs q.1 q.2.2.2 <;> cases e2 : inC cs q.2.1 q.2.2.1 <;> rw [e1, e2] at h3
    · exact absurd h3 (by decide)
    · exact .inl ⟨rfl, by decide⟩
    · exact .inr ⟨by decide, rfl⟩
    · exact absurd h3 (by decide)
  obtain ⟨o1, o2, o3, o4⟩ := hq
  refine ⟨⟨by omega, by omega, cellB_iff.mpr h1, cellB_iff.mpr h2, ?_⟩, ⟨by omega, by omega, cellB_iff.mpr h1, cellB_iff.mpr h2, ?_⟩⟩
  · rw [cellB_iff, cellB_iff]
    exact h4
  · rw [cellB_iff, cellB_iff]
    rcases h4 with ⟨a, c⟩ | ⟨a, c⟩
    · exact .inr ⟨c, a⟩
    · exact .inl ⟨c, a⟩
theorem noobs_of_nox {cs : List Cell} {b : Bool} (h : NoX b cs) : NoObs cs := by
  intro q hq
  cases e : obsQ cs q with
  | false => rfl
  | true =>
    exfalso
    obtain ⟨x1, x2⟩ := xat_of_obs hq e
    cases b
    · have := h _ _ _ _ x1.hr x1.hk x1.c1 x1.c2
      rcases x1.x with ⟨a, c⟩ | ⟨a, c⟩
      · exact c (this.mpr a)
      · exact a (this.mp c)
    · have := h _ _ _ _ x2.hr x2.hk x2.c1 x2.c2
      rcases x2.x with ⟨a, c⟩ | ⟨a, c⟩
      · exact c (this.mpr a)
      · exact a (this.mp c)
theorem nox_iff {cs : List Cell} (g : Good cs) (b : Bool) : NoX b cs ↔ NoObs cs := ⟨noobs_of_nox, fun h => nox_of_noobs g h b⟩
theorem ans_none {cs : List Cell} {o : Option Quad} (h : Ans cs o) : o = none ↔ NoObs cs := by
  constructor
  · rintro rfl
    exact h
  · intro n
    exact Ans.uniq h (show Ans cs none from n)
/-! ### all tables of 0 and 1 -/
def all01 : Nat → List (List Int)
  | 0 => [[]]
  | n + 1 => (all01 n).map (· ++ [0]) ++ (all01 n).map (· ++ [1])
theorem mem_all01 : ∀ {n : Nat} {l : List Int}, l ∈ all01 n ↔ l.length = n ∧ ∀ v ∈ l, v = 0 ∨ v = 1
  | 0, l => by
    show l ∈ [[]] ↔ _
    rw [List.mem_singleton]
    constructor
    · rintro rfl
      exact ⟨rfl, by simp⟩
    · rintro ⟨h, _⟩
      exact List.eq_nil_of_length_eq_zero h
  | n + 1, l => by
    show l ∈ (all01 n).map (· ++ [0]) ++ (all01 n).map (· ++ [1]) ↔ _
    rw [List.mem_append, List.mem_map, List.mem_map]
    constructor
    · rintro (⟨m, hm, rfl⟩ | ⟨m, hm, rfl⟩)
      · obtain ⟨h1, h2⟩ := mem_all01.mp hm
        refine ⟨by simp [h1], fun v hv => ?_⟩
        rcases List.mem_append.mp hv with z | z
        · exact h2 v z
        · exact .inl (by simpa using z)
      · obtain ⟨h1, h2⟩ := mem_all01.mp hm
        refine ⟨by simp [h1], fun v hv => ?_⟩
        rcases List.mem_append.mp hv with z | z
        · exact h2 v z
        · exact .inr (by simpa using z)
    · rintro ⟨h1, h2⟩
      have ne : l ≠ [] := fun e => by
        rw [e] at h1
        cases h1
      have el := List.dropLast_concat_getLast ne
      have hd : l.dropLast ∈ all01 n := mem_all01.mpr ⟨by simp [h1], fun v hv => h2 v ((List.dropLast_sublist l).subset hv)⟩
      rcases h2 _ (List.getLast_mem ne) with z | z
      · exact .inl ⟨l.dropLast, hd, by rw [z] at el; exact el⟩
      · exact .inr ⟨l.dropLast, hd, by rw [z] at el; exact el⟩
theorem len_all01 : ∀ n : Nat, (all01 n).length = 2 ^ n
  | 0 => rfl
  | n + 1 => by
    show ((all01 n).map (· ++ [0]) ++ (all01 n).map (· ++ [1])).length = _
    rw [List.length_append, List.length_map, List.length_map, len_all01 n, Nat.pow_succ]
    omega
/-- whether rising lines of the kind stay so behind a sort of the other one, in each table of 0 and 1 -/
def kept01 (b : Bool) (cs : List Cell) : Bool := (all01 cs.length).all fun vs => !(rises b cs vs && !rises b cs (srt (!b) cs vs))
theorem kept01_iff {b : Bool} {cs : List Cell} (g : Good cs) : kept01 b cs = true ↔ NoX b cs := by
  unfold kept01
  rw [List.all_eq_true]
  constructor
  · intro h
    rw [nox_iff g]
    intro q hq
    cases e : obsQ cs q with
    | false => rfl
    | true =>
      exfalso
      have xx : ∃ r1 r2 k1 k2 : Int, XAt b cs r1 r2 k1 k2 := by
        obtain ⟨x1, x2⟩ := xat_of_obs hq e
        cases b
        · exact ⟨_, _, _, _, x1⟩
        · exact ⟨_, _, _, _, x2⟩
      obtain ⟨r1, r2, k1, k2, X⟩ := xx
      obtain ⟨br, hbr⟩ : ∃ br : Int, (cellB b cs r2 k1 ∧ ¬ cellB b cs r1 k2 ∧ br = r2) ∨ (¬ cellB b cs r2 k1 ∧ cellB b cs r1 k2 ∧ br = r1) := by
        rcases X.x with ⟨a, c⟩ | ⟨a, c⟩
        · exact ⟨r2, .inl ⟨a, c, rfl⟩⟩
        · exact ⟨r1, .inr ⟨a, c, rfl⟩⟩
      classical
      let mk : Nat → Int := fun m => if cellB b cs (gB b cs m) k1 ∧ (br < gB b cs m ∨ gB b cs m = r1) then 1 else 0
      have hlen : ((List.range cs.length).map mk).length = cs.length := by rw [List.length_map, List.length_range]
      have hat : ∀ m, m < cs.length → vI ((List.range cs.length).map mk) m = mk m := fun m hm => by
        unfold vI
        rw [List.getD_eq_getElem?_getD, List.getElem?_map, List.getElem?_range hm]
        rfl
      have hmem : (List.range cs.length).map mk ∈ all01 cs.length := mem_all01.mpr ⟨hlen, fun v hv => by
        obtain ⟨m, _, rfl⟩ := List.mem_map.mp hv
        show mk m = 0 ∨ mk m = 1
        by_cases c : cellB b cs (gB b cs m) k1 ∧ (br < gB b cs m ∨ gB b cs m = r1)
        · exact .inr (if_pos c)
        · exact .inl (if_neg c)⟩
      have hz := h _ hmem
      have up : rises b cs ((List.range cs.length).map mk) = true := by
        rw [rises_pairs g]
        intro i j hij hj e'
        rw [hat i (by omega), hat j hj]
        show mk i ≤ mk j
        have : mk i = mk j := by
          show (if cellB b cs (gB b cs i) k1 ∧ (br < gB b cs i ∨ gB b cs i = r1) then (1 : Int) else 0) = (if cellB b cs (gB b cs j) k1 ∧ (br < gB b cs j ∨ gB b cs j = r1) then 1 else 0)
          rw [e']
        omega
      have dn := breaks (x := 1) g hlen X.hr X.hk X.c1 X.c2 hbr (fun m hm => by
        rw [hat m hm]
        by_cases c : cellB b cs (gB b cs m) k1 ∧ (br < gB b cs m ∨ gB b cs m = r1)
        · have : mk m = 1 := if_pos c
          rw [this]
          exact ⟨fun _ => c, fun _ => Int.le_refl _⟩
        · have : mk m = 0 := if_neg c
          rw [this]
          exact ⟨fun z => absurd z (by decide), fun z => absurd z c⟩)
      rw [up, dn] at hz
      exact absurd hz (by decide)
  · intro nx vs hvs
    obtain ⟨h1, _⟩ := mem_all01.mp hvs
    cases e : rises b cs vs with
    | false => rfl
    | true =>
      rw [kept g h1 nx e]
      rfl
end KS
namespace KS
open PySem PySem.Spec PyProof.Rows L2
/-! ### a filling whose marked cells get the great values -/
def isM (ms : List Bool) (i : Nat) : Bool := ms.getD i false
def smallM (ms : List Bool) : List Nat := (List.range ms.length).filter fun i => !isM ms i
def greatM (ms : List Bool) : List Nat := (List.range ms.length).filter fun i => isM ms i
def orderM (ms : List Bool) : List Nat := smallM ms ++ greatM ms
/-- the place of i in the order -/
def posM (ms : List Bool) (i : Nat) : Nat :=
  if isM ms i = true then (smallM ms).length + ((List.range i).filter fun j => isM ms j).length else ((List.range i).filter fun j => !isM ms j).length
def filM (ms : List Bool) : List Int := (List.range ms.length).map fun i => ((posM ms i : Nat) : Int) + 1
theorem range_split {n i : Nat} (h : i < n) : ∃ l, List.range n = List.range i ++ i :: l := by
  refine ⟨(List.range n).drop (i + 1), ?_⟩
  have e1 := (List.take_append_drop i (List.range n)).symm
  rw [List.take_range, Nat.min_eq_left (Nat.le_of_lt h)] at e1
  rw [List.drop_eq_getElem_cons (by rw [List.length_range]; exact h), List.getElem_range] at e1
  exact e1
theorem filter_at {n i : Nat} {p : Nat → Bool} (h : i < n) (hp : p i = true) : ((List.range n).filter p)[((List.range i).filter p).length]? = some i := by
  obtain ⟨l, e⟩ := range_split h
  rw [e, List.filter_append, List.filter_cons, if_pos hp, List.getElem?_append_right (Nat.le_refl _), Nat.sub_self]
  rfl
theorem order_at {ms : List Bool} {i : Nat} (h : i < ms.length) : (orderM ms)[posM ms i]? = some i := by
  unfold orderM posM
  by_cases c : isM ms i = true
  · rw [if_pos c, List.getElem?_append_right (Nat.le_add_right _ _), Nat.add_sub_cancel_left]
    exact filter_at h c
  · rw [if_neg c]
    have z := filter_at (p := fun j => !isM ms j) h (by simpa using c)
    rw [List.getElem?_append_left]
    · exact z
    · exact (List.getElem?_eq_some_iff.mp z).1
theorem order_nodup (ms : List Bool) : (orderM ms).Nodup := by
  unfold orderM smallM greatM
  rw [List.nodup_append]
  refine ⟨List.nodup_range.filter _, List.nodup_range.filter _, fun a ha b hb e => ?_⟩
  subst e
  have h1 := (List.mem_filter.mp ha).2
  have h2 := (List.mem_filter.mp hb).2
  rw [h2] at h1
  exact absurd h1 (by decide)
theorem order_first {ms : List Bool} {i m k : Nat} (h : i < ms.length) (hm : m < posM ms i) (e : (orderM ms)[m]? = some k) : k ≠ i := by
  intro z
  subst z
  have h1 := order_at h
  obtain ⟨l1, e1⟩ := List.getElem?_eq_some_iff.mp e
  obtain ⟨l2, e2⟩ := List.getElem?_eq_some_iff.mp h1
  have := (List.getElem_inj (order_nodup ms)).mp (e1.trans e2.symm)
  omega
theorem order_len (ms : List Bool) : (orderM ms).length = ms.length := by
  unfold orderM smallM greatM
  rw [List.length_append, ← List.countP_eq_length_filter, ← List.countP_eq_length_filter]
  have := List.length_eq_countP_add_countP (fun i => isM ms i) (l := List.range ms.length)
  rw [List.length_range] at this
  have e : List.countP (fun i => !isM ms i) (List.range ms.length) = List.countP (fun a => decide ¬ isM ms a = true) (List.range ms.length) := by
    refine List.countP_congr fun x _ => ?_
    simp
  omega
theorem pos_lt {ms : List Bool} {i : Nat} (h : i < ms.length) : posM ms i < ms.length := by
  have := (List.getElem?_eq_some_iff.mp (order_at h)).1
  rw [order_len] at this
  exact this
theorem fil_len (ms : List Bool) : (filM ms).length = ms.length := by
  unfold filM
  rw [List.length_map, List.length_range]
theorem fil_at {ms : List Bool} {i : Nat} (h : i < ms.length) : vI (filM ms) i = ((posM ms i : Nat) : Int) + 1 := by
  unfold vI filM
  rw [List.getD_eq_getElem?_getD, List.getElem?_map, List.getElem?_range h]
  rfl
theorem fil9 {ms : List Bool} (h : ms.length ≤ 24) : Vals9 ms.length (filM ms) := by
  refine ⟨fil_len ms, ?_, fun v hv => ?_⟩
  · unfold filM
    rw [List.nodup_iff_pairwise_ne, List.pairwise_map]
    refine List.pairwise_lt_range.imp_of_mem fun {a b} ha hb hab z => ?_
    have h1 := order_at (List.mem_range.mp ha)
    have h2 := order_at (List.mem_range.mp hb)
    have e : posM ms a = posM ms b := by omega
    rw [e, h2] at h1
    have := Option.some.inj h1
    omega
  · obtain ⟨i, hi, rfl⟩ := List.mem_map.mp hv
    have := pos_lt (List.mem_range.mp hi)
    omega
theorem filt_mono {p : Nat → Bool} {i j : Nat} (h : i ≤ j) : ((List.range i).filter p).length ≤ ((List.range j).filter p).length := by
  rw [← List.countP_eq_length_filter, ← List.countP_eq_length_filter]
  exact (List.range_sublist.mpr h).countP_le
theorem pos_mono {ms : List Bool} {i j : Nat} (h : i ≤ j) (e : isM ms i = isM ms j) : posM ms i ≤ posM ms j := by
  unfold posM
  rw [e]
  split
  · exact Nat.add_le_add_left (filt_mono h) _
  · exact filt_mono h
theorem pos_great {ms : List Bool} {i : Nat} (h : i < ms.length) : ((smallM ms).length : Int) + 1 ≤ vI (filM ms) i ↔ isM ms i = true := by
  rw [fil_at h]
  unfold posM
  by_cases c : isM ms i = true
  · rw [if_pos c]
    exact ⟨fun _ => c, fun _ => by omega⟩
  · rw [if_neg c]
    refine ⟨fun z => ?_, fun z => absurd z c⟩
    have z2 := (List.getElem?_eq_some_iff.mp (filter_at (p := fun j => !isM ms j) h (by simpa using c))).1
    unfold smallM at z
    omega
/-- marks that only look at the line: the filling's lines rise -/
theorem fil_rises {b : Bool} {cs : List Cell} {ms : List Bool} (g : Good cs) (hl : ms.length = cs.length) (hm : ∀ i j, i < cs.length → j < cs.length → gB b cs i = gB b cs j → isM ms i = isM ms j) : rises b cs (filM ms) = true := by
  rw [rises_pairs g]
  intro i j hij hj e
  rw [fil_at (by omega), fil_at (by omega)]
  have := pos_mono (ms := ms) (Nat.le_of_lt hij) (hm i j (by omega) hj e)
  omega
end KS
namespace KS
open PySem PySem.Spec PyProof.Rows L2
section
variable {K : PySem.W.Frag} {σ : L2.St} {H : Hp} {Q : VK} {ta : TA}
theorem catA_ok2 {a b : Addr} {xs ys : List V} (ha : SqT K H a xs) (hb : SqT K H b ys) (hl : xs.length + ys.length ≤ 64)
    (k : ∀ H' u, Same H H' → SqT K H' u (xs ++ ys) → Q (.ref u) H') : rCatA K (.ref a) (.ref b) H Q := by
  refine ⟨a, b, xs, ys, rfl, rfl, ha, hb, Nat.le_of_lt (small64 hl), fun e => ?_, fun _ e => ?_, fun _ _ p np => ?_⟩
  · subst e
    exact k H b (Same.refl _) hb
  · subst e
    exact k H a (Same.refl _) (by rw [List.append_nil]; exact ha)
  · exact k _ p (same_new np) (SqT.of upd_same)
theorem cut_to2 {xs : List V} {k : Nat} (h : k ≤ xs.length) : cutV xs none (some (k : Int)) = xs.take k := by
  unfold cutV
  rw [HT.sIx_none, HT.sIx_nat, Nat.min_eq_left h]
  simp
theorem cut_from2 {xs : List V} {k : Nat} (h : k ≤ xs.length) : cutV xs (some (k : Int)) none = xs.drop k := by
  unfold cutV
  rw [HT.sIx_none, HT.sIx_nat, Nat.min_eq_left h]
  exact List.take_of_length_le (by rw [List.length_drop]; exact Nat.le_refl _)
theorem slTo_ok2 {a : Addr} {xs : List V} {n : Nat} (ha : SqT K H a xs) (hn : n ≤ xs.length) (k : ∀ H' u, Same H H' → SqT K H' u (xs.take n) → Q (.ref u) H') : rSlA K (.ref a) none (some (n : Int)) H Q := by
  refine ⟨a, xs, rfl, ha, fun z => ?_, fun _ p np => ?_⟩
  · obtain ⟨_, z2⟩ := z
    rw [show HT.sIx xs.length xs.length (some (n : Int)) = min n xs.length from HT.sIx_nat _ _ n] at z2
    have e : n = xs.length := by omega
    refine k H a (Same.refl _) ?_
    rw [e, List.take_length]
    exact ha
  · refine k _ p (same_new np) (SqT.of ?_)
    rw [upd_same, cut_to2 hn]
theorem slFrom_ok2 {a : Addr} {xs : List V} {n : Nat} (ha : SqT K H a xs) (hn : n ≤ xs.length) (k : ∀ H' u, Same H H' → SqT K H' u (xs.drop n) → Q (.ref u) H') : rSlA K (.ref a) (some (n : Int)) none H Q := by
  refine ⟨a, xs, rfl, ha, fun z => ?_, fun _ p np => ?_⟩
  · obtain ⟨z1, _⟩ := z
    rw [show HT.sIx xs.length 0 (some (n : Int)) = min n xs.length from HT.sIx_nat _ _ n] at z1
    refine k H a (Same.refl _) ?_
    rcases Nat.eq_zero_or_pos n with e | e
    · subst e
      exact ha
    · have e2 : xs.length = 0 := by omega
      have e3 := List.eq_nil_of_length_eq_zero e2
      subst e3
      simpa using ha
  · refine k _ p (same_new np) (SqT.of ?_)
    rw [upd_same, cut_from2 hn]
end
end KS
namespace KS
open PySem PySem.Spec PyProof.Rows L2
/-! ### a tuple times a number from 1 on -/
theorem tup1_mul (l : Addr) (its : Array Value) (n : Nat) (dd : Option Addr) (sl : Array (Option Value)) (u : Tok) :
    Meets (Builtin.«tuple.__mul__» ⟨[.ref l, .int 1 u], []⟩) (fun _ R s => s.heap.get? l = some { cls := .type "tuple", dict := dd, data := .seq its n, slots := sl } ∧ R (.ok (.ret (Value.ref l))) s) :=
  .of_wp fun prog w A R s h => by
    obtain ⟨hp, g, d, tk, os⟩ := s
    obtain ⟨hl, h⟩ := h
    have f1 := AutoSeq1.idx_int
    wp_walk using wpAny_loadPart' hl
    repeat (first
      | (refine wpAny_ite_false (by decide) ?_; wp_walk using wpAny_loadPart' hl)
      | (refine wpAny_ite_true (by first | rfl | decide | simp) ?_; wp_walk using wpAny_loadPart' hl))
    exact ⟨_, rfl, h⟩
/-- (..) * n, not empty: for 1 the tuple itself -/
def rRep1 (K : PySem.W.Frag) : R2 := fun x y H Q => ∃ l k xs, x = .ref l ∧ y = .int k ∧ H l = some (.tup xs) ∧ 1 ≤ k ∧ k ≤ 1000 ∧ xs.length ≤ 1000 ∧ xs ≠ [] ∧ ∀ H' p, Same H H' → H' p = some (.tup (List.replicate k.toNat xs).flatten) → Q (.ref p) H'
theorem op_rep1 {X : Cx} : OpR X (binaryOp .Mult) (rRep1 X.K) := by
  intro pins s σ H x y v u Q I rx ry h
  obtain ⟨l, k, xs, rfl, rfl, hT, h1, h2, hz, hne, q⟩ := h
  by_cases he : k = 1
  · subst he
    cases rx
    obtain ⟨t, rfl⟩ := ry
    obtain ⟨its, r, ⟨⟨cls, dd, data, sl⟩, ho, hc, n, hd⟩, hs⟩ := I.tuple (SqT.of hT)
    simp only at hc hd
    subst hc hd
    refine wpAny_binaryOp_repeat_ref (T := "tuple") (U := "int") (by decide) ⟨_, ho, rfl⟩ (fun s' => typeIs_int s' 1 t) noFill_tuple_mul F.fills_int_mul F.slot_int_rmul repeat_tuple F.slot_int_index.lookup
      (call_meets F.slot_int_rmul (typeIs_int s 1 t) F.entry_int_rmul (F.args_int_rmul_2 _ _) (int_rmul_tuple 1 t l its.toArray n dd sl)
        ⟨ho, rfl, ⟨_, ho, rfl⟩, call_meets F.slot_tuple_mul ⟨_, ho, rfl⟩ F.entry_tuple_mul (F.args_tuple_mul_2 _ _) (tup1_mul l its.toArray n dd sl t) ⟨ho, .ref l, H, I, rfl, q H l (Same.refl _) ?_⟩⟩)
    rw [hT]
    simp
  · exact op_repT pins s σ H _ _ v u Q I rx ry ⟨l, k, xs, rfl, rfl, SqT.of hT, hne, by omega, h2, hz, fun p np => q _ p (same_new np) upd_same⟩
section
variable {K : PySem.W.Frag} {H : Hp} {Q : VK}
/-- a + b, b made at run time and not empty -/
theorem catL_ok {a b : Addr} {xs ys : List V} (ha : SqT K H a xs) (hb : H b = some (.tup ys)) (ne : ys ≠ []) (hl : xs.length + ys.length ≤ 64)
    (k : ∀ H' u, Same H H' → H' u = some (.tup (xs ++ ys)) → Q (.ref u) H') : rCatA K (.ref a) (.ref b) H Q := by
  refine ⟨a, b, xs, ys, rfl, rfl, ha, SqT.of hb, Nat.le_of_lt (small64 hl), fun e => ?_, fun _ e => absurd e ne, fun _ _ p np => ?_⟩
  · subst e
    exact k H b (Same.refl _) hb
  · exact k _ p (same_new np) upd_same
/-- a + b, a made at run time and not empty -/
theorem catR_ok {a b : Addr} {xs ys : List V} (ha : H a = some (.tup xs)) (hb : SqT K H b ys) (ne : xs ≠ []) (hl : xs.length + ys.length ≤ 64)
    (k : ∀ H' u, Same H H' → H' u = some (.tup (xs ++ ys)) → Q (.ref u) H') : rCatA K (.ref a) (.ref b) H Q := by
  refine ⟨a, b, xs, ys, rfl, rfl, SqT.of ha, hb, Nat.le_of_lt (small64 hl), fun e => absurd e ne, fun _ e => ?_, fun _ _ p np => ?_⟩
  · subst e
    exact k H a (Same.refl _) (by rw [List.append_nil]; exact ha)
  · exact k _ p (same_new np) upd_same
end
end KS
namespace KS
open PySem PySem.Spec PyProof.Rows L2
/-! ### lists of natural numbers as values -/
def natV (k : List Nat) : List V := k.map fun n : Nat => V.int (n : Int)
theorem natV_len (k : List Nat) : (natV k).length = k.length := List.length_map ..
theorem natV_take (k : List Nat) (i : Nat) : (natV k).take i = natV (k.take i) := (List.map_take ..).symm
theorem natV_drop (k : List Nat) (i : Nat) : (natV k).drop i = natV (k.drop i) := (List.map_drop ..).symm
theorem natV_app (a b : List Nat) : natV a ++ natV b = natV (a ++ b) := (List.map_append ..).symm
theorem natV_get {k : List Nat} {i : Nat} (h : i < k.length) : (natV k)[i]? = some (V.int ((k.getD i 0 : Nat) : Int)) := by
  unfold natV
  rw [List.getElem?_map, List.getElem?_eq_getElem h, List.getD_eq_getElem?_getD, List.getElem?_eq_getElem h]
  rfl
theorem natV_ints (k : List Nat) : natV k = (k.map fun n : Nat => (n : Int)).map V.int := by
  unfold natV
  rw [List.map_map]
  rfl
theorem natV_sum : ∀ k : List Nat, (k.map fun n : Nat => (n : Int)).sum = ((k.sum : Nat) : Int)
  | [] => rfl
  | x :: k => by
    rw [List.map_cons, List.sum_cons, natV_sum k, List.sum_cons]
    omega
end KS
namespace KS
open PySem PySem.Spec PyProof.Rows L2
section
variable {K : PySem.W.Frag} {H : Hp} {Q : VK}
/-- t[i:j] -/
theorem slMid_ok2 {a : Addr} {xs : List V} {i j : Nat} (ha : SqT K H a xs) (hj : j ≤ xs.length) (hij : i ≤ j) (k : ∀ H' u, Same H H' → SqT K H' u ((xs.take j).drop i) → Q (.ref u) H') : rSlA K (.ref a) (some (i : Int)) (some (j : Int)) H Q := by
  have e1 : HT.sIx xs.length 0 (some (i : Int)) = min i xs.length := HT.sIx_nat _ _ i
  have e2 : HT.sIx xs.length xs.length (some (j : Int)) = min j xs.length := HT.sIx_nat _ _ j
  refine ⟨a, xs, rfl, ha, fun z => ?_, fun _ p np => ?_⟩
  · rw [e1, e2] at z
    have a2 : j = xs.length := by omega
    refine k H a (Same.refl _) ?_
    rw [a2, List.take_length]
    rcases Nat.eq_zero_or_pos i with q | q
    · rw [q]
      exact ha
    · have e0 : xs = [] := List.eq_nil_of_length_eq_zero (by omega)
      subst e0
      simpa using ha
  · refine k _ p (same_new np) (SqT.of ?_)
    rw [upd_same]
    unfold cutV
    rw [e1, e2, Nat.min_eq_left hj, Nat.min_eq_left (Nat.le_trans hij hj), List.drop_take]
end
end KS
namespace KS
open PySem PySem.Spec PyProof.Rows L2
/-- a comprehension over enumerate of a list -/
theorem lc_enum {K : PySem.W.Frag} {a : Addr} {xs : List V} {g : TG} {tt : TT} {te : TE} {vs : List Nat} {σ : L2.St} {H1 : Hp} {D : Addr} {Qd : Hp → Prop} (Pv : Nat → Hp → Prop) (h0 : Pv 0 (upd H1 D (.lst []))) (hl : ∀ i H, i ≤ xs.length → Pv i H → SqL K H a xs)
    (hs : ∀ i x H T, xs[i]? = some x → Pv i H → H T = none → g (.ref T) (wipe σ vs) (upd H T (.tup [.int (i : Nat), x])) fun σ2 H2 => wipe σ2 vs = wipe σ vs ∧ tt σ2 H2 fun b H3 =>
      if b = true then te σ2 H3 fun y H4 => ∃ acc, H4 D = some (.lst acc) ∧ acc.length < sizeLine ∧ Pv (i + 1) (upd H4 D (.lst (acc ++ [y]))) else Pv (i + 1) H3) (hd : ∀ H, Pv xs.length H → Qd H) :
    ∃ W : Nat → Nat → Hp → Prop, (∃ m, W 0 m (upd H1 D (.lst []))) ∧ ∀ i m H, W i m H →
      ((Ite K a).stop i H ∧ Qd H) ∨ ((Ite K a).go i H ∧ ∃ Nx : Hp → Prop, (∀ H', Nx H' → ∃ m', m' < m ∧ W (i + 1) m' H') ∧ ∀ x H', (Ite K a).yld i H x H' → g x (wipe σ vs) H' fun σ2 H2 => wipe σ2 vs = wipe σ vs ∧ tt σ2 H2 fun b H3 =>
        if b = true then te σ2 H3 fun y H4 => ∃ acc, H4 D = some (.lst acc) ∧ acc.length < sizeLine ∧ Nx (upd H4 D (.lst (acc ++ [y]))) else Nx H3) := by
  refine ⟨fun i m H => m = xs.length - i ∧ i ≤ xs.length ∧ Pv i H, ⟨xs.length, by simp, Nat.zero_le _, h0⟩, ?_⟩
  rintro i m H ⟨rfl, hi, p⟩
  have q := hl i H hi p
  by_cases hlt : i < xs.length
  · refine .inr ⟨⟨xs, xs[i], q, by simp [hlt]⟩, Pv (i + 1), fun H' p' => ⟨xs.length - (i + 1), by omega, rfl, hlt, p'⟩, fun x H' y => ?_⟩
    obtain ⟨T, x1, rfl, nT, rfl, hx⟩ := y
    exact hs i x1 H T (hx _ q) p nT
  · have e : i = xs.length := by omega
    subst e
    exact .inl ⟨⟨xs, q, Nat.le_refl _⟩, hd H p⟩
/-- what filling_of_marks must keep -/
def spMarks (K : PySem.W.Frag) : Sp := fun xs H Q _ => ∃ (a : Addr) (ms : List Bool), xs = [.ref a] ∧ H a = some (.lst (ms.map V.bl)) ∧ ms.length ≤ 24 ∧ ∀ H' u, Same H H' → SqT K H' u ((filM ms).map V.int) → Q (.ref u) H'
theorem filt_succ {p : Nat → Bool} (i : Nat) : (List.range (i + 1)).filter p = (List.range i).filter p ++ (if p i = true then [i] else []) := by
  rw [List.range_succ, List.filter_append, List.filter_cons]
  rfl
theorem filt_len {p : Nat → Bool} {i : Nat} : ((List.range i).filter p).length ≤ i := by
  have := List.length_filter_le p (List.range i)
  rw [List.length_range] at this
  exact this
end KS
namespace KS
open PySem PySem.Spec PyProof.Rows L2
/-- t.index(x), t a tuple of plain data, x plain data -/
def rIndexD (K : PySem.W.Frag) : V → List V → Hp → VK → Prop := fun x xs H Q => ∃ (y : V) (d : PyData) (ds : List PyData) (j : Nat) (z : PyData), xs = [y] ∧ Dp K H y d ∧ Dp K H x (.tuple ds) ∧ SeqAt.shaped d = true ∧ SeqAt.shaped (.tuple ds) = true ∧
  ds[j]? = some z ∧ PyData.eqv z d = true ∧ (∀ (m : Nat) (z' : PyData), m < j → ds[m]? = some z' → PyData.eqv z' d = false) ∧ Q (.int (j : Nat)) H
theorem mt_indexD {X : Cx} (hu : X.A.units + 65 < cLine) : MtR X "tuple.index" (rIndexD X.K) := by
  intro pins s σ H x xs v us Q I rx rs h
  obtain ⟨y, d, ds, j, z, rfl, hd, he, sd, se, hz, hzd, hno, q⟩ := h
  cases rs with
  | cons ry rt =>
    rename_i uy ut
    cases rt
    obtain ⟨as, r1⟩ := Dp.reads I d y _ hd ry
    obtain ⟨bs, r2⟩ := Dp.reads I (.tuple ds) x v he rx
    cases r2 with
    | @tuple a o vs n ds' as' h1 h2 h3 h4 =>
      obtain ⟨cls, dd, dt, sl⟩ := o
      simp only at h2 h3
      subst h2
      subst h3
      have hm := SeqAt.readsAll_map ds _ _ (SeqAt.canLay_of_shaped se) h4
      have hat : ∀ (m : Nat) (hm' : m < vs.size), ds[m]? = some (SeqAt.readOf s.heap vs[m]) := fun m hm' => by
        rw [← hm, List.getElem?_map, Array.getElem?_toList, Array.getElem?_eq_getElem hm']
        rfl
      have hsz : vs.size = ds.length := by
        rw [← hm, List.length_map]
        simp
      have hj : j < vs.size := by
        rw [hsz]
        exact (List.getElem?_eq_some_iff.mp hz).1
      refine call_meets PySem.F.slot_tuple_index ⟨_, h1, rfl⟩ PySem.F.entry_tuple_index (PySem.F.args_tuple_index_2 _ _)
        (TI.tuple_indexAt a vs n dd sl uy (fun y => PyData.eqv (SeqAt.readOf s.heap y) d) j hj ?_ ?_)
        ⟨h1, SeqAt.items_eqAt h4 r1 (SeqAt.canLay_of_shaped se) (SeqAt.canLay_of_shaped sd) ?_, ⟨.int (j : Nat), H, I.tok _, ⟨_, rfl⟩, q⟩⟩
      · have e := hat j hj
        rw [hz] at e
        show PyData.eqv (SeqAt.readOf s.heap vs[j]) d = true
        rw [← Option.some.inj e]
        exact hzd
      · intro m hm' hmj
        exact hno m _ hmj (hat m hm')
      · have := SeqAt.depth_of_shaped sd
        have h2 : min (PyData.depthAll ds) d.depth ≤ d.depth := Nat.min_le_right _ _
        omega
end KS
namespace KS
open PySem PySem.Spec PyProof.Rows L2
/-- a tuple of xs that is known to have no dict of its own -/
def TupN (H : Hp) (p : Addr) (xs : List V) : Prop := ∃ ob : Obj, H p = some (.frz ob (.tup xs)) ∧ ob.cls = .type "tuple" ∧ ob.dict = none
theorem TupN.sq {K : PySem.W.Frag} {H : Hp} {p : Addr} {xs : List V} (h : TupN H p xs) : SqT K H p xs := by
  obtain ⟨ob, e, _⟩ := h
  exact .inl (.inr ⟨ob, e⟩)
theorem TupN.same {H H' : Hp} {p : Addr} {xs : List V} (s : Same H H') (h : TupN H p xs) : TupN H' p xs := by
  obtain ⟨ob, e, c⟩ := h
  exact ⟨ob, s _ _ e, c⟩
/-- tuple(list): the new tuple has no dict -/
def rTupFz (K : PySem.W.Frag) : List V → Hp → VK → Prop := fun xs H Q => ∃ p ys, xs = [.ref p] ∧ SqL K H p ys ∧ ∀ l ob, H l = none → ob.cls = Value.type "tuple" → ob.dict = none → Q (.ref l) (upd H l (.frz ob (.tup ys)))
theorem cr_tupFz {X : Cx} : CallR X (.type "tuple") (rTupFz X.K) := by
  rintro pins s σ H xs us Q I r ⟨p, ys, rfl, hq, q⟩
  obtain ⟨u, rfl, rx⟩ := vals1 r
  cases rx
  obtain ⟨its, r', pl, hz⟩ := I.list hq
  have hlen := r'.length
  refine call_tuple_list pl.isList (fun h' kp => ?_) (by simp only [List.size_toArray] <;> omega)
  have I1 : Inv X pins σ H { s with heap := h' } := I.kept (t' := s.toks) kp
  have new : ObjOk X.prog X.w (upd H h'.objs.size (.frz { cls := .type "tuple", data := .seq its.toArray } (.tup ys))) (h'.push { cls := .type "tuple", data := .seq its.toArray }) h'.objs.size (.frz { cls := .type "tuple", data := .seq its.toArray } (.tup ys)) :=
    ⟨Heap.get?_push_size _ rfl, hz, its, r', IsTup.new _ _⟩
  exact ⟨.ref h'.objs.size, _, I1.laid (t' := s.toks) (fun b o e => Heap.get?_push_of_some _ e) (Nat.le_refl _) new, rfl, q _ _ (I1.hok.fresh (Nat.le_refl _)) rfl rfl⟩
/-- t.m(..) of such a tuple -/
def tBMT (r : V → List V → Hp → VK → Prop) (to : TE) (t : TA) : TE := fun σ H Q => to σ H fun x H1 => (∃ p ys, x = .ref p ∧ TupN H1 p ys) ∧ t σ H1 fun xs H2 => r x xs H2 Q
theorem pe_bmT {X : Cx} {o e : Expr} {es : List Expr} {to : TE} {t : TA} {name : Str} {apos cpos : Pos} {id : String} {r : V → List V → Hp → VK → Prop} (pa : PlainAttrs "tuple") (slot : Slot "tuple" name id)
    (hty : typeOf (.builtin id) = pure (.type "method_descriptor")) (hm : MtR X id r) (ho : PE X o to) (ha : PA X (e :: es) t)
    (hbase : attributeBase o name X.env (eval o X.env) = eval o X.env := by rfl)
    (hfew : ((backTo cpos (starEach (e :: es) X.env)).all (fun x => !x.1) && (backToKw cpos (keywordEach [] X.env)).all (fun x => x.1.isSome) && decide ((e :: es).length + ([] : List Keyword).length + (if ([] : List Keyword).isEmpty then 0 else 1) < 30)) = true := by rfl)
    (hline : (apos.endLine == cpos.line) = true := by rfl) (hs : starEach (e :: es) X.env = (false, eval e X.env) :: starEach es X.env := by rfl) (hplain : (backTo cpos (starEach es X.env)).any (·.1) = false := by rfl) :
    PE X (.Call (.Attribute o name apos) (e :: es) [] cpos) (tBMT r to t) := by
  constructor
  intro pins s σ H Q I h
  refine wpAny_Call_method_late hbase hfew hline rfl (thn (ho.run pins s σ H _ I h) ?_)
  rintro v s1 ⟨x, H1, I1, r1, ⟨p, ys, rfl, ob, hp, hc, hd⟩, q1⟩
  cases r1
  have hob : s1.heap.get? p = some ob := (I1.hok p _ hp).1
  refine ⟨"tuple", id, pa, slot, hty, ⟨ob, hob, hc⟩, ?_, ?_⟩
  · intro a ea
    cases ea
    exact ⟨ob, hob, hd⟩
  have hA := ha.run cpos pins s1 σ H1 _ I1 q1
  rw [hs] at hA ⊢
  refine Calls.callWith_builtin (by show (false || (backTo cpos (starEach es X.env)).any (·.1)) = false; rw [hplain] <;> rfl) (Calls.evalArgs_plain (thn hA ?_))
  rintro us s2 ⟨vs, H2, I2, r2, q2⟩
  exact hm pins s2 σ H2 (.ref p) vs (.ref p) us Q I2 rfl r2 q2
end KS
namespace KS
open PySem PySem.Spec PyProof.Rows L2
abbrev sTrans : Stmt := topS 38
abbrev nTrans : List Str := ["plan", "row", "column"]
theorem scTrans : FnScope nTrans ["plan"] (defScope sTrans) := ⟨rfl, rfl, rfl, by decide +kernel, rfl, by decide +kernel, by decide +kernel⟩
def spTrans (K : PySem.W.Frag) : Sp := fun vs H Q _ => ∃ (a : Addr) (cs : List Cell), vs = [.ref a] ∧ PlanAt K H a cs ∧ Good cs ∧ cs.length ≤ 24 ∧
  ∀ H' p ds, Same H H' → PlanAt K H' p ds → (∃ ys, TupN H' p ys) → ds.Perm (cs.map swp) → ds.Pairwise lt2 → Q (.ref p) H'
section
variable {P : Program} {w : World} {K : PySem.W.Frag} {mg : Str → Option Value} {base : Heap}
theorem ok_trans {f fC : Addr} {fd fdC : FuncData} (F : Fun K "transposed" "transposed" sTrans f fd) (GC : FnOk P w K mg base CX0 5 fC fdC ["plan"] (spCheck K)) (bC : Binds K fdC ["plan"] []) (gC : mg "check_plan" = some (.ref fC)) (kC : PySem.W.keepIn K (.ref fC) = true)
    (mT : mg "tuple" = none) (mS : mg "sorted" = none) : FnOk P w K mg base CX0 6 f fd ["plan"] (spTrans K) := by
  refine F.ok scTrans (fun vs H Q E h => ?_) (fun cdv A outer s H vs Q E hr h => ?_)
  · obtain ⟨a, cs, rfl, _⟩ := h
    rfl
  · obtain ⟨a, cs, rfl, hpl, gd, hl, q⟩ := h
    have nd := scTrans.nd
    refine ⟨_, pss_cons (ps_expr (pe_call GC hr (by rfl) gC kC bC .nil pass0 (pa_cons (pv 0) pa_nil)))
      (pss_one (ps_ret (pe_callTy cr_tupFz (by rfl) mT (by decide +kernel) (pa_cons (pe_callB cr_sortedPO (by rfl) mS (by decide +kernel) (pa_cons
        (pe_lc (own := [("row", 1), ("column", 2)]) (g := gTup K 2 (gCons (gName 1) (gCons (gName 2) gNil))) (tt := tYes) rfl nd (pi_tup (pv 0)) (blkOk_by (N := nTrans) (sc := defScope sTrans) (by decide +kernel))
          (fun _ _ _ _ _ => pg_tup (by rfl) (pgs_cons (pg_name (i := 1) nd rfl (Or.inl rfl)) (pgs_cons (pg_name (i := 2) nd rfl (Or.inl rfl)) pgs_nil))) (fun _ _ _ _ _ => pts_nil)
          (fun _ _ _ _ _ => pe_tup (pa_cons (pv 2) (pa_cons (pv 1) pa_nil)))) pa_nil)) pa_nil)))), ?_⟩
    refine ⟨_, rfl, a, cs, rfl, hpl, gd, hl, fun H1 s1 => ?_⟩
    obtain ⟨xs, hx, hc⟩ := hpl.kt (.of_same s1)
    have hlen := Paired.length hc
    refine ⟨_, rfl, a, rfl, ⟨_, hx⟩, fun D nD => ?_⟩
    refine lc_tup (K := K) (a := a) (xs := xs) (fun j H3 => ∃ acc : List V, H3 D = some (.lst acc) ∧ NewCells H3 acc ((cs.take j).map swp) ∧ (∀ b o, b ≠ D → H1 b = some o → H3 b = some o)) ?_ ?_ ?_ ?_
    · exact ⟨[], upd_same, .nil, fun b o n e => by rw [upd_ne n]; exact e⟩
    · rintro j H3 _ ⟨acc, a1, a2, a3⟩
      exact same_seqT (fun b o e => a3 b o (ne_of_none e nD) e) hx
    · rintro j x H3 hj ⟨acc, a1, a2, a3⟩
      have sD : Same H1 H3 := fun b o e => a3 b o (ne_of_none e nD) e
      obtain ⟨c, hcj, t, rfl, ht⟩ := paired_get hc hj
      have hal : acc.length ≤ 24 := by
        rw [Paired.length a2, List.length_map, List.length_take]
        omega
      refine ⟨t, _, rfl, same_seqT sD ht, rfl, _, _, rfl, _, _, rfl, rfl, rfl, _, rfl, _, rfl, (by show 2 ≤ sizeLine; decide), fun z nz => ?_⟩
      have sz := same_new (o := .tup [.int c.2, .int c.1]) nz
      have nDz : D ≠ z := ne_of_none a1 nz
      refine ⟨acc, sz _ _ a1, small64 (by omega), acc ++ [.ref z], upd_same, ?_, fun b o n e => ?_⟩
      · rw [List.take_add_one, hcj, List.map_append]
        refine paired_append (newCells_mono (fun t' ys e2 => by
          rw [upd_ne (ne_of e2 a1 (by intro q; cases q))]
          exact sz _ _ e2) a2) (.cons ⟨z, rfl, ?_⟩ .nil)
        rw [upd_ne (Ne.symm nDz), upd_same]
        rfl
      · rw [upd_ne n]
        exact sz _ _ (a3 b o n e)
    · rintro H3 ⟨acc, a1, a2, a3⟩
      have sD : Same H1 H3 := fun b o e => a3 b o (ne_of_none e nD) e
      rw [hlen, List.take_length] at a2
      refine ⟨D, acc, keyOf H3, rfl, SqL.of a1, newCells_mem a2, fun ys pS srt stb npS => ?_⟩
      have sS := same_new (o := .lst ys) npS
      obtain ⟨c1, c2, c3⟩ := sorted_cells (K := K) a2 (nodup_swp (nodup_of_asc gd.asc)) srt stb.perm
      refine ⟨pS, ys, rfl, SqL.of upd_same, fun m2 ob nm2 oc od => ?_⟩
      have sM := same_new (o := .frz ob (.tup ys)) nm2
      have tn : TupN (upd (upd H3 pS (.lst ys)) m2 (.frz ob (.tup ys))) m2 ys := ⟨ob, upd_same, oc, od⟩
      exact q _ m2 _ ((s1.trans sD).trans (sS.trans sM)) ⟨ys, tn.sq, cells_kt (.of_same (sS.trans sM)) c1⟩ ⟨ys, tn⟩ c2 c3
end
end KS
namespace KS
open PySem PySem.Spec PyProof.Rows L2
abbrev sRect : Stmt := topS 39
abbrev nRect : List Str := ["plan", "rows", "columns", "height", "width", "row", "column"]
theorem scRect : FnScope nRect ["plan"] (defScope sRect) := ⟨rfl, rfl, rfl, by decide +kernel, rfl, by decide +kernel, by decide +kernel⟩
def spRect (K : PySem.W.Frag) : Sp := fun vs H Q _ => ∃ (a : Addr) (cs : List Cell), vs = [.ref a] ∧ PlanAt K H a cs ∧ Good cs ∧ cs.length ≤ 24 ∧ ∀ H', Same H H' → Q (.bl (rectB cs)) H'
section
variable {P : Program} {w : World} {K : PySem.W.Frag} {mg : Str → Option Value} {base : Heap}
theorem ok_rect {f fC : Addr} {fd fdC : FuncData} (F : Fun K "is_rectangle" "is_rectangle" sRect f fd) (GC : FnOk P w K mg base CX0 5 fC fdC ["plan"] (spCheck K)) (bC : Binds K fdC ["plan"] []) (gC : mg "check_plan" = some (.ref fC)) (kC : PySem.W.keepIn K (.ref fC) = true)
    (mx : mg "max" = none) (mn : mg "min" = none) (ml : mg "len" = none) : FnOk P w K mg base CX0 6 f fd ["plan"] (spRect K) := by
  refine F.ok scRect (fun vs H Q E h => ?_) (fun cdv A outer s H vs Q E hr h => ?_)
  · obtain ⟨a, cs, rfl, _⟩ := h
    rfl
  · obtain ⟨a, cs, rfl, hpl, gd, hl, q⟩ := h
    have nd := scRect.nd
    refine ⟨_, pss_cons (ps_expr (pe_call GC hr (by rfl) gC kC bC .nil pass0 (pa_cons (pv 0) pa_nil)))
      (pss_cons (ps_setLc (i := 1) (own := [("row", 5), ("column", 6)]) (g := gTup K 2 (gCons (gName 5) (gCons (gName 6) gNil))) (tt := tYes) rfl nd rfl rfl (sw_true rfl rfl rfl (by decide +kernel)) (pi_tup (pv 0)) (blkOk_by (N := nRect) (sc := defScope sRect) (by decide +kernel))
          (fun _ _ _ _ _ => pg_tup (by rfl) (pgs_cons (pg_name (i := 5) nd rfl (Or.inl rfl)) (pgs_cons (pg_name (i := 6) nd rfl (Or.inl rfl)) pgs_nil))) (fun _ _ _ _ _ => pts_nil) (fun _ _ _ _ _ => pv 5))
      (pss_cons (ps_setLc (i := 2) (own := [("row", 5), ("column", 6)]) (g := gTup K 2 (gCons (gName 5) (gCons (gName 6) gNil))) (tt := tYes) rfl nd rfl rfl (sw_true rfl rfl rfl (by decide +kernel)) (pi_tup (pv 0)) (blkOk_by (N := nRect) (sc := defScope sRect) (by decide +kernel))
          (fun _ _ _ _ _ => pg_tup (by rfl) (pgs_cons (pg_name (i := 5) nd rfl (Or.inl rfl)) (pgs_cons (pg_name (i := 6) nd rfl (Or.inl rfl)) pgs_nil))) (fun _ _ _ _ _ => pts_nil) (fun _ _ _ _ _ => pv 6))
      (pss_cons (ps_set (i := 3) nd rfl (.inl rfl) (pe_op op_add (pe_op op_sub (pe_callB (cr_max rfl) (by rfl) mx (by decide +kernel) (pa_cons (pv 1) pa_nil)) (pe_callB (cr_min rfl) (by rfl) mn (by decide +kernel) (pa_cons (pv 1) pa_nil))) pe_int))
      (pss_cons (ps_set (i := 4) nd rfl (.inl rfl) (pe_op op_add (pe_op op_sub (pe_callB (cr_max rfl) (by rfl) mx (by decide +kernel) (pa_cons (pv 2) pa_nil)) (pe_callB (cr_min rfl) (by rfl) mn (by decide +kernel) (pa_cons (pv 2) pa_nil))) pe_int))
      (pss_one (ps_ret (pe_cmpR op_eq (pe_callB call_len_seq (by rfl) ml PySem.boot_len (pa_cons (pv 0) pa_nil)) (pe_op op_mul (pv 3) (pv 4)) (nomark _)))))))), ?_⟩
    refine ⟨_, rfl, a, cs, rfl, hpl, gd, hl, fun H1 s1 => ?_⟩
    obtain ⟨xs, hx, hc⟩ := hpl.kt (.of_same s1)
    have hlen := Paired.length hc
    have hpos : 0 < cs.length := by
      rcases Nat.eq_zero_or_pos cs.length with z | z
      · exact absurd (List.eq_nil_of_length_eq_zero z) gd.ne
      · exact z
    refine ⟨_, rfl, a, rfl, ⟨_, hx⟩, fun D nD => ?_⟩
    refine lc_tup (K := K) (a := a) (xs := xs) (fun j H3 => H3 D = some (.lst (((cs.take j).map (·.1)).map V.int)) ∧ (∀ b o, b ≠ D → H1 b = some o → H3 b = some o)) ?_ ?_ ?_ ?_
    · exact ⟨upd_same, fun b o n e => by rw [upd_ne n]; exact e⟩
    · rintro j H3 _ ⟨a1, a3⟩
      exact same_seqT (fun b o e => a3 b o (ne_of_none e nD) e) hx
    · rintro j x H3 hj ⟨a1, a3⟩
      have sD : Same H1 H3 := fun b o e => a3 b o (ne_of_none e nD) e
      obtain ⟨c, hcj, t, rfl, ht⟩ := paired_get hc hj
      refine ⟨t, _, rfl, same_seqT sD ht, rfl, _, _, rfl, _, _, rfl, rfl, rfl, _, rfl, _, a1, ?_, ?_, fun b o n e => ?_⟩
      · rw [List.length_map, List.length_map, List.length_take]
        exact small64 (by omega)
      · rw [upd_same, List.take_add_one, hcj, List.map_append, List.map_append]
        rfl
      · rw [upd_ne n]
        exact a3 b o n e
    rintro H3 ⟨a1, a3⟩
    have sD : Same H1 H3 := fun b o e => a3 b o (ne_of_none e nD) e
    rw [hlen, List.take_length] at a1
    have hx3 := same_seqT sD hx
    refine ⟨_, rfl, a, rfl, ⟨_, hx3⟩, fun D2 nD2 => ?_⟩
    have nDD : D ≠ D2 := ne_of_none a1 nD2
    refine lc_tup (K := K) (a := a) (xs := xs) (fun j H4 => H4 D2 = some (.lst (((cs.take j).map (·.2)).map V.int)) ∧ (∀ b o, b ≠ D2 → H3 b = some o → H4 b = some o)) ?_ ?_ ?_ ?_
    · exact ⟨upd_same, fun b o n e => by rw [upd_ne n]; exact e⟩
    · rintro j H4 _ ⟨b1, b3⟩
      exact same_seqT (fun b o e => b3 b o (ne_of_none e nD2) e) hx3
    · rintro j x H4 hj ⟨b1, b3⟩
      have sD2 : Same H3 H4 := fun b o e => b3 b o (ne_of_none e nD2) e
      obtain ⟨c, hcj, t, rfl, ht⟩ := paired_get hc hj
      refine ⟨t, _, rfl, same_seqT (sD.trans sD2) ht, rfl, _, _, rfl, _, _, rfl, rfl, rfl, _, rfl, _, b1, ?_, ?_, fun b o n e => ?_⟩
      · rw [List.length_map, List.length_map, List.length_take]
        exact small64 (by omega)
      · rw [upd_same, List.take_add_one, hcj, List.map_append, List.map_append]
        rfl
      · rw [upd_ne n]
        exact b3 b o n e
    rintro H4 ⟨b1, b3⟩
    have sD2 : Same H3 H4 := fun b o e => b3 b o (ne_of_none e nD2) e
    rw [hlen, List.take_length] at b1
    have a1' := b3 _ _ nDD a1
    have p1 : 0 < (cs.map (·.1)).length := by rw [List.length_map]; exact hpos
    have p2 : 0 < (cs.map (·.2)).length := by rw [List.length_map]; exact hpos
    refine ⟨_, rfl, D, _, rfl, SqL.of a1', p1, fun b hb hb' => ⟨_, rfl, D, _, rfl, SqL.of a1', p1, fun aa ha ha' => ⟨_, _, rfl, rfl, _, _, rfl, rfl, ?_⟩⟩⟩
    refine ⟨_, rfl, D2, _, rfl, SqL.of b1, p2, fun d hd hd' => ⟨_, rfl, D2, _, rfl, SqL.of b1, p2, fun c hc1 hc' => ⟨_, _, rfl, rfl, _, _, rfl, rfl, ?_⟩⟩⟩
    have gr1 : ∀ x ∈ cs.map (·.1), 0 ≤ x ∧ x ≤ 7 := fun x hx => by
      obtain ⟨c, hc, rfl⟩ := List.mem_map.mp hx
      have := gd.grid c hc
      unfold InGrid at this
      omega
    have g1 := gr1 _ hb
    have g2 := gr1 _ ha
    refine ⟨_, rfl, a, xs, rfl, .inr (same_seqT sD2 hx3), _, rfl, _, rfl, _, _, rfl, rfl, .inl ⟨by omega, by omega⟩, rfl, ?_⟩
    have key := rect_count (nodup_of_asc gd.asc) ha ha' hb hb' hc1 hc' hd hd'
    have e1 : decide (V.int (xs.length : Int) = V.int ((b - aa + 1) * (d - c + 1))) = rectB cs := by
      rw [← key, hlen]
      by_cases z : (cs.length : Int) = (b - aa + 1) * (d - c + 1)
      · rw [decide_eq_true z, decide_eq_true (by rw [z])]
      · rw [decide_eq_false z, decide_eq_false fun y => z (V.int.inj y)]
    show Q (V.bl (decide (V.int (xs.length : Int) = V.int ((b - aa + 1) * (d - c + 1))))) H4
    rw [e1]
    exact q H4 (s1.trans (sD.trans sD2))
end
end KS
namespace KS
open PySem PySem.Spec PyProof.Rows L2
abbrev sIsObs : Stmt := topS 58
abbrev sObs : Stmt := topS 59
abbrev sKeeps : Stmt := topS 60
theorem scIsObs : FnScope ["plan", "upper", "lower", "left", "right"] ["plan", "upper", "lower", "left", "right"] (defScope sIsObs) := ⟨rfl, rfl, rfl, by decide +kernel, rfl, by decide +kernel, by decide +kernel⟩
theorem scObs : FnScope ["plan", "end", "upper", "lower", "left", "right"] ["plan"] (defScope sObs) := ⟨rfl, rfl, rfl, by decide +kernel, rfl, by decide +kernel, by decide +kernel⟩
theorem scKeeps : FnScope ["plan"] ["plan"] (defScope sKeeps) := ⟨rfl, rfl, rfl, by decide +kernel, rfl, by decide +kernel, by decide +kernel⟩
section
variable {P : Program} {w : World} {K : PySem.W.Frag} {mg : Str → Option Value} {base : Heap}
theorem ok_isObs {f : Addr} {fd : FuncData} (F : Fun K "is_obstacle" "is_obstacle" sIsObs f fd) : FnOk P w K mg base CX0 1 f fd ["plan", "upper", "lower", "left", "right"] (spIsObs K) := by
  refine F.ok scIsObs (fun vs H Q E h => ?_) (fun cdv A outer s H vs Q E hr h => ?_)
  · obtain ⟨p, cs, u, l, a, b, rfl, _⟩ := h
    rfl
  · obtain ⟨p, cs, u, l, a, b, rfl, hp, q⟩ := h
    have hu : (A.deeper (envOfC "is_obstacle" (defScope sIsObs) s.heap.objs.size f cdv)).units + 65 < cLine := by
      have := hr.un
      omega
    refine ⟨_, pss_cons (ps_if (PW.pt (pw_or (pt_cmpR (r := rNotInT K) (op_notInT hu) (pe_tup (pa_cons (pv 1) (pa_cons (pv 3) pa_nil))) (pv 0) (by rfl)) (pw_or1 (pt_cmpR (r := rNotInT K) (op_notInT hu) (pe_tup (pa_cons (pv 2) (pa_cons (pv 4) pa_nil))) (pv 0) (by rfl)))))
        (pss_one (ps_ret pe_bl)) pss_nil)
      (pss_one (ps_ret (pe_cmpR op_ne (pe_cmpR (r := rInT K) (op_inT hu) (pe_tup (pa_cons (pv 1) (pa_cons (pv 4) pa_nil))) (pv 0) (by rfl)) (pe_cmpR (r := rInT K) (op_inT hu) (pe_tup (pa_cons (pv 2) (pa_cons (pv 3) pa_nil))) (pv 0) (by rfl)) (nomark _)))), ?_⟩
    refine ⟨_, rfl, _, rfl, (by show 2 ≤ sizeLine; decide), fun T1 n1 => ?_⟩
    have s1 := same_new (o := .tup [.int (u : Nat), .int (a : Nat)]) n1
    refine ⟨_, rfl, notin_cell (SqT.of upd_same) (hp.kt (.of_same s1)) ⟨_, rfl, ?_⟩⟩
    cases e1 : inC cs u a with
    | false =>
      refine iteT (iteT ?_)
      have z := q _ s1
      unfold obs at z
      rw [e1] at z
      exact z
    | true =>
      refine iteF ?_
      refine ⟨_, rfl, _, rfl, (by show 2 ≤ sizeLine; decide), fun T2 n2 => ?_⟩
      have s2 := s1.trans (same_new (o := .tup [.int (l : Nat), .int (b : Nat)]) n2)
      refine ⟨_, rfl, notin_cell (SqT.of upd_same) (hp.kt (.of_same s2)) ⟨_, rfl, ?_⟩⟩
      cases e2 : inC cs l b with
      | false =>
        refine iteT ?_
        have z := q _ s2
        unfold obs at z
        rw [e1, e2] at z
        exact z
      | true =>
        refine iteF ?_
        refine ⟨_, rfl, _, rfl, (by show 2 ≤ sizeLine; decide), fun T3 n3 => ?_⟩
        have s3 := s2.trans (same_new (o := .tup [.int (u : Nat), .int (b : Nat)]) n3)
        refine ⟨_, rfl, in_cell (SqT.of upd_same) (hp.kt (.of_same s3)) ?_⟩
        refine ⟨_, rfl, _, rfl, (by show 2 ≤ sizeLine; decide), fun T4 n4 => ?_⟩
        have s4 := s3.trans (same_new (o := .tup [.int (l : Nat), .int (a : Nat)]) n4)
        refine ⟨_, rfl, in_cell (SqT.of upd_same) (hp.kt (.of_same s4)) ⟨rfl, ?_⟩⟩
        have z := q _ s4
        unfold obs at z
        rw [e1, e2] at z
        have ez : (!decide (V.bl (inC cs u b) = V.bl (inC cs l a))) = (true && true && (inC cs u b != inC cs l a)) := by
          cases inC cs u b <;> cases inC cs l a <;> decide
        rw [← ez] at z
        exact z
theorem ok_obs {f fC fI : Addr} {fd fdC fdI : FuncData} {tk : Tok} (F : Fun K "obstacle" "obstacle" sObs f fd)
    (GC : FnOk P w K mg base CX0 5 fC fdC ["plan"] (spCheck K)) (bC : Binds K fdC ["plan"] []) (gC : mg "check_plan" = some (.ref fC)) (kC : PySem.W.keepIn K (.ref fC) = true)
    (GI : FnOk P w K mg base CX0 1 fI fdI ["plan", "upper", "lower", "left", "right"] (spIsObs K)) (bI : Binds K fdI ["plan", "upper", "lower", "left", "right"] []) (gI : mg "is_obstacle" = some (.ref fI)) (kI : PySem.W.keepIn K (.ref fI) = true)
    (mr : mg "range" = none) (mM : mg "MOST_INDEX" = some (.int 7 tk)) : FnOk P w K mg base CX0 6 f fd ["plan"] (spObs K) := by
  refine F.ok scObs (fun vs H Q E h => ?_) (fun cdv A outer s H vs Q E hr h => ?_)
  · obtain ⟨p, cs, rfl, _⟩ := h
    rfl
  · obtain ⟨p, cs, rfl, hp, gd, hl, q⟩ := h
    have nd := scObs.nd
    have hr1 : Room 1 _ := hr.mono (by decide)
    refine ⟨_, pss_cons (ps_expr (pe_call GC hr (by rfl) gC kC bC .nil pass0 (pa_cons (pv 0) pa_nil)))
      (pss_cons (ps_set (i := 1) nd rfl (.inl rfl) (pe_op op_add (pe_glob (v := .int 7) (by rfl) mM ⟨_, rfl⟩) pe_int))
      (pss_cons (ps_for PassesOwn.never rfl (pi_range1 (by rfl) mr (pa_cons (pv 1) pa_nil)) (pg_name (i := 2) nd rfl (.inl rfl))
        (pss_one (ps_for PassesOwn.never rfl (pi_range2 (by rfl) mr (pa_cons (pe_op op_add (pv 2) pe_int) (pa_cons (pv 1) pa_nil))) (pg_name (i := 3) nd rfl (.inl rfl))
          (pss_one (ps_for PassesOwn.never rfl (pi_range1 (by rfl) mr (pa_cons (pv 1) pa_nil)) (pg_name (i := 4) nd rfl (.inl rfl))
            (pss_one (ps_for PassesOwn.never rfl (pi_range2 (by rfl) mr (pa_cons (pe_op op_add (pv 4) pe_int) (pa_cons (pv 1) pa_nil))) (pg_name (i := 5) nd rfl (.inl rfl))
              (pss_one (ps_if (pt_val (pe_call GI hr1 (by rfl) gI kI bI .nil pass0 (pa_cons (pv 0) (pa_cons (pv 2) (pa_cons (pv 3) (pa_cons (pv 4) (pa_cons (pv 5) pa_nil)))))))
                (pss_one (ps_ret (pe_tup (pa_cons (pv 2) (pa_cons (pv 3) (pa_cons (pv 4) (pa_cons (pv 5) pa_nil))))))) pss_nil)))))))))
      (pss_one (ps_ret pe_non)))), ?_⟩
    refine ⟨_, rfl, p, cs, rfl, hp, gd, hl, fun H1 s1 => ?_⟩
    refine ⟨_, _, rfl, rfl, ?_⟩
    refine ⟨_, rfl, 8, rfl, by decide, by decide, for_range (lo := 0) (n := 8) (fun i σ G => ∃ y2 y3 y4 y5 : Option V, σ = [some (.ref p), some (.int 8), y2, y3, y4, y5] ∧ Same H G ∧ (∀ r, okQ r → r.1 < i → obsQ cs r = false)) ?_ ?_ ?_⟩
    · exact ⟨none, none, none, none, rfl, s1, fun r _ h => absurd h (Nat.not_lt_zero _)⟩
    · rintro u σ G hu ⟨y2, y3, y4, y5, rfl, sG, c0⟩
      rw [Int.zero_add]
      refine ⟨_, rfl, _, _, rfl, rfl, _, rfl, (u : Int) + 1, 8, rfl, ⟨by omega, by omega, by omega, by omega⟩, for_range (lo := (u : Int) + 1) (n := (8 - ((u : Int) + 1)).toNat)
        (fun j σ G => ∃ y3 y4 y5 : Option V, σ = [some (.ref p), some (.int 8), some (.int (u : Nat)), y3, y4, y5] ∧ Same H G ∧ (∀ r, okQ r → r.1 = u → r.2.1 < u + 1 + j → obsQ cs r = false)) ?_ ?_ ?_⟩
      · refine ⟨y3, y4, y5, rfl, sG, fun r h1 h2 h3 => ?_⟩
        have := h1.1
        omega
      · rintro j σ G hj ⟨y3, y4, y5, rfl, sG, c1⟩
        have ej : ((u : Int) + 1 + (j : Int)) = ((u + 1 + j : Nat) : Int) := by omega
        rw [ej]
        refine ⟨_, rfl, 8, rfl, by decide, by decide, for_range (lo := 0) (n := 8)
          (fun i σ G => ∃ y4 y5 : Option V, σ = [some (.ref p), some (.int 8), some (.int (u : Nat)), some (.int ((u + 1 + j : Nat) : Int)), y4, y5] ∧ Same H G ∧ (∀ r, okQ r → r.1 = u → r.2.1 = u + 1 + j → r.2.2.1 < i → obsQ cs r = false)) ?_ ?_ ?_⟩
        · exact ⟨y4, y5, rfl, sG, fun r _ _ _ h => absurd h (Nat.not_lt_zero _)⟩
        · rintro a σ G ha ⟨y4, y5, rfl, sG, c2⟩
          rw [Int.zero_add]
          refine ⟨_, rfl, _, _, rfl, rfl, _, rfl, (a : Int) + 1, 8, rfl, ⟨by omega, by omega, by omega, by omega⟩, for_range (lo := (a : Int) + 1) (n := (8 - ((a : Int) + 1)).toNat)
            (fun k σ G => ∃ y5 : Option V, σ = [some (.ref p), some (.int 8), some (.int (u : Nat)), some (.int ((u + 1 + j : Nat) : Int)), some (.int (a : Nat)), y5] ∧ Same H G ∧ (∀ r, okQ r → r.1 = u → r.2.1 = u + 1 + j → r.2.2.1 = a → r.2.2.2 < a + 1 + k → obsQ cs r = false)) ?_ ?_ ?_⟩
          · refine ⟨y5, rfl, sG, fun r h1 h2 h3 h4 h5 => ?_⟩
            have := h1.2.2.1
            omega
          · rintro k σ G hk ⟨y5, rfl, sG, c3⟩
            have ek : ((a : Int) + 1 + (k : Int)) = ((a + 1 + k : Nat) : Int) := by omega
            rw [ek]
            refine ⟨_, rfl, _, rfl, _, rfl, _, rfl, _, rfl, p, cs, u, u + 1 + j, a, a + 1 + k, rfl, hp.kt (.of_same sG), fun G2 s2 => ⟨_, rfl, ite2 (fun e => ?_) (fun e => ?_)⟩⟩
            · refine ⟨_, rfl, _, rfl, _, rfl, _, rfl, (by show 4 ≤ sizeLine; decide), fun T nT => ?_⟩
              have sT := same_new (o := .tup (quadV (u, u + 1 + j, a, a + 1 + k))) nT
              refine q _ _ (some (u, u + 1 + j, a, a + 1 + k)) ((sG.trans s2).trans sT) ⟨⟨by show u < u + 1 + j; omega, by show u + 1 + j ≤ 7; omega, by show a < a + 1 + k; omega, by show a + 1 + k ≤ 7; omega⟩, e, fun r hr hlt => ?_⟩ ⟨T, rfl, SqT.of upd_same⟩
              rcases hlt with h1 | ⟨h1, h2 | ⟨h2, h3 | ⟨h3, h4⟩⟩⟩
              · exact c0 r hr h1
              · exact c1 r hr h1 h2
              · exact c2 r hr h1 h2 h3
              · exact c3 r hr h1 h2 h3 h4
            · refine ⟨_, rfl, sG.trans s2, fun r h1 h2 h3 h4 h5 => ?_⟩
              by_cases c : r.2.2.2 < a + 1 + k
              · exact c3 r h1 h2 h3 h4 c
              · have e' : obs cs u (u + 1 + j) a (a + 1 + k) = false := by simpa using e
                have h6 : r.2.2.2 = a + 1 + k := by omega
                unfold obsQ
                rw [h2, h3, h4, h6]
                exact e'
          · rintro σ G ⟨y5, rfl, sG, c3⟩
            refine ⟨_, _, rfl, sG, fun r h1 h2 h3 h4 => ?_⟩
            by_cases c : r.2.2.1 < a
            · exact c2 r h1 h2 h3 c
            · have := h1.2.2.2
              exact c3 r h1 h2 h3 (by omega) (by omega)
        · rintro σ G ⟨y4, y5, rfl, sG, c2⟩
          refine ⟨_, _, _, rfl, sG, fun r h1 h2 h3 => ?_⟩
          by_cases c : r.2.1 < u + 1 + j
          · exact c1 r h1 h2 c
          · have := h1.2.2
            exact c2 r h1 h2 (by omega) (by omega)
      · rintro σ G ⟨y3, y4, y5, rfl, sG, c1⟩
        refine ⟨_, _, _, _, rfl, sG, fun r h1 h2 => ?_⟩
        by_cases c : r.1 < u
        · exact c0 r h1 c
        · have := h1.2.1
          exact c1 r h1 (by omega) (by omega)
    · rintro σ G ⟨y2, y3, y4, y5, rfl, sG, c0⟩
      refine q G .non none sG (fun r hr => c0 r hr ?_) rfl
      have h1 := hr.1
      have h2 := hr.2.1
      omega
theorem ok_keeps {f fO : Addr} {fd fdO : FuncData} (F : Fun K "keeps" "keeps" sKeeps f fd)
    (GO : FnOk P w K mg base CX0 6 fO fdO ["plan"] (spObs K)) (bO : Binds K fdO ["plan"] []) (gO : mg "obstacle" = some (.ref fO)) (kO : PySem.W.keepIn K (.ref fO) = true) : FnOk P w K mg base CX0 7 f fd ["plan"] (spKeeps K) := by
  refine F.ok scKeeps (fun vs H Q E h => ?_) (fun cdv A outer s H vs Q E hr h => ?_)
  · obtain ⟨p, cs, rfl, _⟩ := h
    rfl
  · obtain ⟨p, cs, rfl, hp, gd, hl, q⟩ := h
    refine ⟨_, pss_one (ps_ret (pe_cmpR op_isN (pe_call GO hr (by rfl) gO kO bO .nil pass0 (pa_cons (pv 0) pa_nil)) pe_non (nomark _))), ?_⟩
    refine ⟨_, rfl, p, cs, rfl, hp, gd, hl, fun H1 v o s1 an hv => ⟨rfl, ?_⟩⟩
    have z := q H1 o s1 an
    cases o with
    | none =>
      have hv : v = .non := hv
      subst hv
      exact z
    | some r =>
      obtain ⟨t, rfl, _⟩ := hv
      exact z
end
end KS
namespace KS
open PySem PySem.Spec PyProof.Rows L2
abbrev sMarks : Stmt := topS 44
abbrev nMarks : List Str := ["marks", "small", "great", "order", "index", "is_marked"]
theorem scMarks : FnScope nMarks ["marks"] (defScope sMarks) := ⟨rfl, rfl, rfl, by decide +kernel, rfl, by decide +kernel, by decide +kernel⟩
section
variable {P : Program} {w : World} {K : PySem.W.Frag} {mg : Str → Option Value} {base : Heap}
theorem ok_marks {f : Addr} {fd : FuncData} (F : Fun K "filling_of_marks" "filling_of_marks" sMarks f fd) (me : mg "enumerate" = none) (mT : mg "tuple" = none) (mr : mg "range" = none) (ml : mg "len" = none) :
    FnOk P w K mg base CX0 1 f fd ["marks"] (spMarks K) := by
  refine F.ok scMarks (fun vs H Q E h => ?_) (fun cdv A outer s H vs Q E hr h => ?_)
  · obtain ⟨a, ms, rfl, _⟩ := h
    rfl
  · obtain ⟨a, ms, rfl, ha, hl, q⟩ := h
    have nd := scMarks.nd
    refine ⟨_, pss_cons (ps_setLc (i := 1) (own := [("index", 4), ("is_marked", 5)]) rfl nd rfl rfl (sw_true rfl rfl rfl (by decide +kernel)) (pi_enum (by rfl) me (pa_cons (pv 0) pa_nil)) (blkOk_by (N := nMarks) (sc := defScope sMarks) (by decide +kernel))
          (fun _ _ _ _ _ => pg_tupK (K := K) (n := 2) rfl (by rfl) (pgs_cons (pg_name (i := 4) nd rfl (Or.inl rfl)) (pgs_cons (pg_name (i := 5) nd rfl (Or.inl rfl)) pgs_nil)))
          (fun _ _ _ _ _ => pts_one (pt_not (pt_val (pv 5)))) (fun _ _ _ _ _ => pv 4))
      (pss_cons (ps_setLc (i := 2) (own := [("index", 4), ("is_marked", 5)]) rfl nd rfl rfl (sw_true rfl rfl rfl (by decide +kernel)) (pi_enum (by rfl) me (pa_cons (pv 0) pa_nil)) (blkOk_by (N := nMarks) (sc := defScope sMarks) (by decide +kernel))
          (fun _ _ _ _ _ => pg_tupK (K := K) (n := 2) rfl (by rfl) (pgs_cons (pg_name (i := 4) nd rfl (Or.inl rfl)) (pgs_cons (pg_name (i := 5) nd rfl (Or.inl rfl)) pgs_nil)))
          (fun _ _ _ _ _ => pts_one (pt_val (pv 5))) (fun _ _ _ _ _ => pv 4))
      (pss_cons (ps_set (i := 3) nd rfl (.inr rfl) (pe_op op_cat (pv 1) (pv 2)))
      (pss_one (ps_ret (pe_callTy call_tuple_of (by rfl) mT (by decide +kernel) (pa_cons
        (pe_lc (own := [("index", 4)]) (g := gName 4) (tt := tYes) rfl nd (pi_range1 (by rfl) mr (pa_cons (pe_callB call_len_seq (by rfl) ml PySem.boot_len (pa_cons (pv 0) pa_nil)) pa_nil)) (blkOk_by (N := nMarks) (sc := defScope sMarks) (by decide +kernel))
          (fun _ _ _ _ _ => pg_name (i := 4) nd rfl (Or.inl rfl)) (fun _ _ _ _ _ => pts_nil)
          (fun _ _ _ _ _ => pe_op op_add (pe_bmK (K := K) (r := rIndex K) rfl PySem.F.plainAttrs_list PySem.F.slot_list_index PySem.F.type_list_index mt_index (pv 3) (pa_cons (pv 4) pa_nil)) pe_int)) pa_nil)))))), ?_⟩
    have hml : (ms.map V.bl).length = ms.length := List.length_map ..
    have bit : ∀ {i : Nat} {x : V}, (ms.map V.bl)[i]? = some x → i < ms.length ∧ x = .bl (isM ms i) := fun {i x} hi => by
      rw [List.getElem?_map] at hi
      cases e : ms[i]? with
      | none =>
        rw [e] at hi
        cases hi
      | some b =>
        rw [e] at hi
        cases hi
        refine ⟨(List.getElem?_eq_some_iff.mp e).1, ?_⟩
        unfold isM
        rw [List.getD_eq_getElem?_getD, e]
        rfl
    refine ⟨_, rfl, a, _, rfl, SqL.of ha, fun S nS => ?_⟩
    have naS : a ≠ S := ne_of_none ha nS
    refine lc_enum (K := K) (a := a) (xs := ms.map V.bl) (fun i G => G S = some (.lst (natV ((List.range i).filter fun j => !isM ms j))) ∧ (∀ b o, b ≠ S → H b = some o → G b = some o)) ?_ ?_ ?_ ?_
    · exact ⟨upd_same, fun b o n e => by rw [upd_ne n]; exact e⟩
    · rintro i G _ ⟨a1, a2⟩
      exact SqL.of (a2 _ _ naS ha)
    · rintro i x G T hi ⟨a1, a2⟩ nT
      obtain ⟨hil, rfl⟩ := bit hi
      have sT := same_new (o := .tup [.int (i : Nat), .bl (isM ms i)]) nT
      refine ⟨T, _, rfl, SqT.of upd_same, rfl, _, _, rfl, _, _, rfl, rfl, rfl, ?_⟩
      refine ⟨_, rfl, _, rfl, ?_⟩
      have k2 : ∀ b o, b ≠ S → H b = some o → upd G T (.tup [.int (i : Nat), .bl (isM ms i)]) b = some o := fun b o n e => sT _ _ (a2 b o n e)
      cases c : isM ms i with
      | true =>
        refine iteF ?_
        show _ ∧ _
        constructor
        · rw [filt_succ, c]
          rw [c] at sT
          show _ = some (HO.lst (natV (_ ++ [])))
          rw [List.append_nil]
          exact sT _ _ a1
        · rw [c] at k2
          exact k2
      | false =>
        refine iteT ?_
        rw [c] at sT k2
        refine ⟨_, rfl, _, sT _ _ a1, ?_, ?_, fun b o n e => ?_⟩
        · unfold natV
          rw [List.length_map]
          have := filt_len (p := fun j => !isM ms j) (i := i)
          exact small64 (by omega)
        · rw [upd_same, filt_succ, c]
          unfold natV
          rw [List.map_append]
          rfl
        · rw [upd_ne n]
          exact k2 b o n e
    · rintro G ⟨a1, a2⟩
      rw [hml] at a1
      have sG : Same H G := fun b o e => a2 b o (ne_of_none e nS) e
      have ha2 := sG _ _ ha
      refine ⟨_, rfl, a, _, rfl, SqL.of ha2, fun R nR => ?_⟩
      have naR : a ≠ R := ne_of_none ha2 nR
      have nSR : S ≠ R := ne_of_none a1 nR
      refine lc_enum (K := K) (a := a) (xs := ms.map V.bl) (fun i G' => G' R = some (.lst (natV ((List.range i).filter fun j => isM ms j))) ∧ (∀ b o, b ≠ R → G b = some o → G' b = some o)) ?_ ?_ ?_ ?_
      · exact ⟨upd_same, fun b o n e => by rw [upd_ne n]; exact e⟩
      · rintro i G' _ ⟨b1, b2⟩
        exact SqL.of (b2 _ _ naR ha2)
      · rintro i x G' T hi ⟨b1, b2⟩ nT
        obtain ⟨hil, rfl⟩ := bit hi
        have sT := same_new (o := .tup [.int (i : Nat), .bl (isM ms i)]) nT
        refine ⟨T, _, rfl, SqT.of upd_same, rfl, _, _, rfl, _, _, rfl, rfl, rfl, ?_⟩
        refine ⟨_, rfl, _, rfl, ?_⟩
        have k2 : ∀ b o, b ≠ R → G b = some o → upd G' T (.tup [.int (i : Nat), .bl (isM ms i)]) b = some o := fun b o n e => sT _ _ (b2 b o n e)
        cases c : isM ms i with
        | false =>
          refine iteF ?_
          show _ ∧ _
          constructor
          · rw [filt_succ, c]
            rw [c] at sT
            show _ = some (HO.lst (natV (_ ++ [])))
            rw [List.append_nil]
            exact sT _ _ b1
          · rw [c] at k2
            exact k2
        | true =>
          refine iteT ?_
          rw [c] at sT k2
          refine ⟨_, rfl, _, sT _ _ b1, ?_, ?_, fun b o n e => ?_⟩
          · unfold natV
            rw [List.length_map]
            have := filt_len (p := fun j => isM ms j) (i := i)
            exact small64 (by omega)
          · rw [upd_same, filt_succ, c]
            unfold natV
            rw [List.map_append]
            rfl
          · rw [upd_ne n]
            exact k2 b o n e
      · rintro G' ⟨b1, b2⟩
        rw [hml] at b1
        have sG' : Same G G' := fun b o e => b2 b o (ne_of_none e nR) e
        have ol := order_len ms
        refine ⟨_, rfl, _, rfl, S, R, _, _, rfl, rfl, sG' _ _ a1, b1, ?_, fun O nO => ?_⟩
        · have := filt_len (p := fun j => !isM ms j) (i := ms.length)
          have := filt_len (p := fun j => isM ms j) (i := ms.length)
          have z : (natV ((List.range ms.length).filter fun j => !isM ms j)).length + (natV ((List.range ms.length).filter fun j => isM ms j)).length < 64 := by
            unfold natV
            rw [List.length_map, List.length_map]
            omega
          exact Nat.le_of_lt (small64 (Nat.le_of_lt z))
        have sO := same_new (o := .lst (natV ((List.range ms.length).filter fun j => !isM ms j) ++ natV ((List.range ms.length).filter fun j => isM ms j))) nO
        have hO : upd G' O (.lst (natV ((List.range ms.length).filter fun j => !isM ms j) ++ natV ((List.range ms.length).filter fun j => isM ms j))) O = some (.lst (natV (orderM ms))) := by
          rw [upd_same]
          unfold orderM smallM greatM natV
          rw [List.map_append]
        have sH := (sG.trans sG').trans sO
        have ha3 := sH _ _ ha
        generalize upd G' O (.lst (natV ((List.range ms.length).filter fun j => !isM ms j) ++ natV ((List.range ms.length).filter fun j => isM ms j))) = H3 at sO hO sH ha3
        refine ⟨_, rfl, a, _, rfl, .inl (SqL.of ha3), _, rfl, by rw [hml]; omega, by rw [hml]; omega, fun D nD => ?_⟩
        have nOD : O ≠ D := ne_of_none hO nD
        rw [hml, Int.toNat_natCast]
        refine lc_range (lo := 0) (n := ms.length) (fun k G2 => G2 = upd H3 D (.lst (((List.range k).map fun j => ((posM ms j : Nat) : Int) + 1).map V.int))) ?_ ?_ ?_
        · rfl
        · rintro k G2 hk rfl
          have hO2 : upd H3 D (.lst (((List.range k).map fun j => ((posM ms j : Nat) : Int) + 1).map V.int)) O = some (.lst (natV (orderM ms))) := by
            rw [upd_ne nOD]
            exact hO
          rw [Int.zero_add]
          refine ⟨rfl, _, rfl, .inl ⟨rfl, _, SqL.of hO2⟩, _, rfl, O, _, _, posM ms k, .int (k : Nat), rfl, rfl, SqL.of hO2, rfl, ?_, ?_, ?_, fun m z' hm hz => ?_, ?_⟩
          · unfold natV
            rw [List.all_map]
            exact List.all_eq_true.mpr fun _ _ => rfl
          · unfold natV
            rw [List.getElem?_map, order_at hk]
            rfl
          · show ((k : Int) == (k : Int)) = true
            simp
          · unfold natV at hz
            rw [List.getElem?_map] at hz
            cases em : (orderM ms)[m]? with
            | none =>
              rw [em] at hz
              cases hz
            | some y =>
              rw [em] at hz
              cases hz
              have := order_first hk hm em
              show ((y : Int) == (k : Int)) = false
              rw [beq_eq_false_iff_ne]
              omega
          · refine ⟨_, _, rfl, rfl, _, upd_same, ?_, ?_⟩
            · rw [List.length_map, List.length_map, List.length_range]
              exact small64 (by omega)
            · rw [upd_upd, List.range_succ, List.map_append, List.map_append]
              rfl
        · rintro G2 rfl
          refine ⟨D, _, rfl, .inl ⟨SqL.of upd_same, fun U nU => ?_⟩⟩
          exact q _ U ((sH.trans (same_new nD)).trans (same_new nU)) (SqT.of upd_same)
end
end KS
namespace KS
open PySem PySem.Spec PyProof.Rows L2
theorem in_cellZ {K : PySem.W.Frag} {H : Hp} {T p : Addr} {cs : List Cell} {r c : Int} (hT : SqT K H T [.int r, .int c]) (hp : PlanAt K H p cs) {Q : VK} (k : Q (.bl (decide ((r, c) ∈ cs))) H) : rInT K (.ref T) (.ref p) H Q := by
  refine ⟨cellD (r, c), cs.map cellD, dp_cell hT, hp.dp, cell_shaped _, plan_shaped _, ?_⟩
  rw [in_plan]
  exact k
end KS
namespace KS
open PySem PySem.Spec PyProof.Rows L2
/-! ### all orders of 1 to n -/
def insAt (l : List Int) (v : Int) (k : Nat) : List Int := l.take k ++ [v] ++ l.drop k
def insAll (v : Int) (l : List Int) : List (List Int) := (List.range (l.length + 1)).map (insAt l v)
def ordI : Nat → List (List Int)
  | 0 => [[]]
  | n + 1 => (ordI n).flatMap (insAll (1 + (n : Int)))
theorem ins_len (l : List Int) (v : Int) (k : Nat) : (insAt l v k).length = l.length + 1 := by
  unfold insAt
  rw [List.length_append, List.length_append, List.length_take, List.length_drop]
  show min k l.length + 1 + (l.length - k) = _
  omega
theorem ord_len : ∀ {n : Nat} {l : List Int}, l ∈ ordI n → l.length = n
  | 0, l, h => by
    have : l = [] := by simpa [ordI] using h
    rw [this]
    rfl
  | n + 1, l, h => by
    obtain ⟨m, hm, hl⟩ := List.mem_flatMap.mp h
    obtain ⟨k, _, rfl⟩ := List.mem_map.mp hl
    rw [ins_len, ord_len hm]
theorem flat_len {n : Nat} {v : Int} : ∀ {L : List (List Int)}, (∀ l ∈ L, l.length = n) → (L.flatMap (insAll v)).length = L.length * (n + 1)
  | [], _ => by simp
  | l :: L, h => by
    rw [List.flatMap_cons, List.length_append, flat_len fun m hm => h m (List.mem_cons_of_mem _ hm), List.length_cons, Nat.succ_mul]
    unfold insAll
    rw [List.length_map, List.length_range, h l List.mem_cons_self]
    omega
def facN : Nat → Nat
  | 0 => 1
  | n + 1 => facN n * (n + 1)
theorem len_ord : ∀ n : Nat, (ordI n).length = facN n
  | 0 => rfl
  | n + 1 => by
    show ((ordI n).flatMap (insAll (1 + (n : Int)))).length = facN n * (n + 1)
    rw [flat_len (fun l h => ord_len h), len_ord n]
theorem fac_le {n : Nat} (h : n ≤ 6) : facN n ≤ 720 := by
  have : n = 0 ∨ n = 1 ∨ n = 2 ∨ n = 3 ∨ n = 4 ∨ n = 5 ∨ n = 6 := by omega
  rcases this with e | e | e | e | e | e | e <;> subst e <;> decide
/-- different numbers from 1 to n, n of them, are an order -/
theorem mem_ord : ∀ {n : Nat} {l : List Int}, l.length = n → l.Nodup → (∀ v ∈ l, 1 ≤ v ∧ v ≤ (n : Int)) → l ∈ ordI n
  | 0, l, h, _, _ => by
    rw [List.eq_nil_of_length_eq_zero h]
    exact List.mem_singleton.mpr rfl
  | n + 1, l, h, nd, bd => by
    have hm : (1 + (n : Int)) ∈ l := by
      by_cases c : (1 + (n : Int)) ∈ l
      · exact c
      · exfalso
        have nd2 : (l.map Int.toNat).Nodup := by
          rw [List.nodup_iff_pairwise_ne, List.pairwise_map]
          refine (List.nodup_iff_pairwise_ne.mp nd).imp_of_mem fun {a b} ha hb q e => q ?_
          have := bd a ha
          have := bd b hb
          omega
        have := nodup_len_le nd2 (m := (List.range n).map (· + 1)) fun x hx => by
          obtain ⟨v, hv, rfl⟩ := List.mem_map.mp hx
          have b := bd v hv
          have ne : v ≠ 1 + (n : Int) := fun e => c (e ▸ hv)
          exact List.mem_map.mpr ⟨v.toNat - 1, List.mem_range.mpr (by omega), by omega⟩
        rw [List.length_map, List.length_map, List.length_range] at this
        omega
    obtain ⟨a, b, e⟩ := List.append_of_mem hm
    subst e
    have ndc := List.nodup_append.mp nd
    have ndb := List.nodup_cons.mp ndc.2.1
    have hl : (a ++ b).length = n := by
      rw [List.length_append] at h ⊢
      rw [List.length_cons] at h
      omega
    have ndab : (a ++ b).Nodup := by
      rw [List.nodup_append]
      exact ⟨ndc.1, ndb.2, fun x hx y hy => ndc.2.2 x hx y (List.mem_cons_of_mem _ hy)⟩
    have ih := mem_ord (n := n) (l := a ++ b) hl ndab fun v hv => by
      have mv : v ∈ a ++ (1 + (n : Int)) :: b := by
        rcases List.mem_append.mp hv with z | z
        · exact List.mem_append_left _ z
        · exact List.mem_append_right _ (List.mem_cons_of_mem _ z)
      have bv := bd v mv
      have ne : v ≠ 1 + (n : Int) := fun e => by
        rcases List.mem_append.mp hv with z | z
        · exact ndc.2.2 v z (1 + (n : Int)) List.mem_cons_self e
        · rw [e] at z
          exact ndb.1 z
      omega
    refine List.mem_flatMap.mpr ⟨a ++ b, ih, List.mem_map.mpr ⟨a.length, List.mem_range.mpr (by rw [List.length_append]; omega), ?_⟩⟩
    unfold insAt
    rw [List.take_left, List.drop_left, List.append_assoc]
    rfl
theorem rks_ord {n : Nat} {vs : List Int} (h : Vals9 n vs) (hn : n ≤ 24) : rks vs ∈ ordI n := by
  have r := rks9 h hn
  refine mem_ord r.len r.nd fun v hv => ?_
  obtain ⟨u, hu, rfl⟩ := List.mem_map.mp hv
  have := rkI_bd hu
  have := h.len
  omega
/-- whether each order whose rows rise still does behind a sort of the columns -/
def okO (cs : List Cell) (vs : List Int) : Bool := !(rises false cs vs) || rises false cs (srt true cs vs)
def keptP (cs : List Cell) : Bool := (ordI cs.length).all (okO cs)
theorem ord9 {n : Nat} {l : List Int} (h : l ∈ ordI n) : l.length = n := ord_len h
theorem keptP_iff {cs : List Cell} (g : Good cs) (hl : cs.length ≤ 24) : keptP cs = true ↔ NoX false cs := by
  unfold keptP
  rw [List.all_eq_true]
  constructor
  · intro h
    rw [nox_iff g]
    intro q hq
    cases e : obsQ cs q with
    | false => rfl
    | true =>
      exfalso
      obtain ⟨X, _⟩ := xat_of_obs hq e
      obtain ⟨br, hbr⟩ : ∃ br : Int, (cellB false cs q.2.1 q.2.2.1 ∧ ¬ cellB false cs q.1 q.2.2.2 ∧ br = (q.2.1 : Int)) ∨ (¬ cellB false cs q.2.1 q.2.2.1 ∧ cellB false cs q.1 q.2.2.2 ∧ br = (q.1 : Int)) := by
        rcases X.x with ⟨a, c⟩ | ⟨a, c⟩
        · exact ⟨_, .inl ⟨a, c, rfl⟩⟩
        · exact ⟨_, .inr ⟨a, c, rfl⟩⟩
      classical
      let mk : Nat → Int := fun m => (if cellB false cs (gB false cs m) q.2.2.1 ∧ (br < gB false cs m ∨ gB false cs m = q.1) then 1000 else 0) + ((m : Int) + 1)
      have mkT : ∀ m, (cellB false cs (gB false cs m) q.2.2.1 ∧ (br < gB false cs m ∨ gB false cs m = q.1)) → mk m = 1000 + ((m : Int) + 1) := fun m c => by
        show (if _ then (1000 : Int) else 0) + _ = _
        rw [if_pos c]
      have mkF : ∀ m, ¬ (cellB false cs (gB false cs m) q.2.2.1 ∧ (br < gB false cs m ∨ gB false cs m = q.1)) → mk m = 0 + ((m : Int) + 1) := fun m c => by
        show (if _ then (1000 : Int) else 0) + _ = _
        rw [if_neg c]
      have hlen : ((List.range cs.length).map mk).length = cs.length := by rw [List.length_map, List.length_range]
      have hat : ∀ m, m < cs.length → vI ((List.range cs.length).map mk) m = mk m := fun m hm => by
        unfold vI
        rw [List.getD_eq_getElem?_getD, List.getElem?_map, List.getElem?_range hm]
        rfl
      have mkd : ∀ m, mk m = 1000 + ((m : Int) + 1) ∨ mk m = 0 + ((m : Int) + 1) := fun m => by
        by_cases c : cellB false cs (gB false cs m) q.2.2.1 ∧ (br < gB false cs m ∨ gB false cs m = q.1)
        · exact .inl (mkT m c)
        · exact .inr (mkF m c)
      have v9 : Vals9 cs.length ((List.range cs.length).map mk) := by
        refine ⟨hlen, ?_, fun v hv => ?_⟩
        · rw [List.nodup_iff_pairwise_ne, List.pairwise_map]
          refine List.pairwise_lt_range.imp_of_mem fun {a b} ha hb hab z => ?_
          have ha := List.mem_range.mp ha
          have hb := List.mem_range.mp hb
          rcases mkd a with e1 | e1 <;> rcases mkd b with e2 | e2 <;> rw [e1, e2] at z <;> omega
        · obtain ⟨m, hm, rfl⟩ := List.mem_map.mp hv
          have hm := List.mem_range.mp hm
          rcases mkd m with e1 | e1 <;> rw [e1] <;> omega
      have hz := h _ (rks_ord v9 hl)
      have up : rises false cs ((List.range cs.length).map mk) = true := by
        rw [rises_pairs g]
        intro i j hij hj e'
        rw [hat i (by omega), hat j hj]
        by_cases c : cellB false cs (gB false cs i) q.2.2.1 ∧ (br < gB false cs i ∨ gB false cs i = q.1)
        · have c2 := c
          rw [e'] at c2
          rw [mkT i c, mkT j c2]
          omega
        · have c2 : ¬ (cellB false cs (gB false cs j) q.2.2.1 ∧ (br < gB false cs j ∨ gB false cs j = q.1)) := by
            rw [← e']
            exact c
          rw [mkF i c, mkF j c2]
          omega
      have dn := breaks (b := false) (x := 1000) g hlen X.hr X.hk X.c1 X.c2 hbr (fun m hm => by
        rw [hat m hm]
        by_cases c : cellB false cs (gB false cs m) q.2.2.1 ∧ (br < gB false cs m ∨ gB false cs m = q.1)
        · rw [mkT m c]
          exact ⟨fun _ => c, fun _ => by omega⟩
        · rw [mkF m c]
          exact ⟨fun z => by omega, fun z => absurd z c⟩)
      have dn' : rises false cs (srt true cs ((List.range cs.length).map mk)) = false := dn
      unfold okO at hz
      rw [rises_rks hlen, up, ← rks_srt hlen, rises_rks (by rw [srt_len]; exact hlen), dn'] at hz
      exact absurd hz (by decide)
  · intro nx vs hvs
    have h1 := ord_len hvs
    unfold okO
    cases e : rises false cs vs with
    | false => rfl
    | true =>
      have := kept (b := false) g h1 nx e
      rw [show rises false cs (srt true cs vs) = true from this]
      rfl
def sq4 : List Cell := [(0, 0), (0, 1), (1, 0), (1, 1)]
theorem sq_ans : ∀ k, k < 4 → ∀ o, Ans (sq4.eraseIdx k) o → decide (o = none) = [true, false, false, true].getD k true := by
  intro k hk o an
  have e := Ans.uniq an (ans_of_filter (sq4.eraseIdx k))
  rw [e]
  have : k = 0 ∨ k = 1 ∨ k = 2 ∨ k = 3 := by omega
  rcases this with z | z | z | z <;> subst z <;> decide +kernel
theorem sq_good : ∀ k, k < 4 → Good (sq4.eraseIdx k) := by
  intro k hk
  have : k = 0 ∨ k = 1 ∨ k = 2 ∨ k = 3 := by omega
  rcases this with z | z | z | z <;> subst z <;> refine ⟨?_, ?_, by decide⟩ <;> simp [sq4, lt2, InGrid]
end KS
namespace KS
open PySem PySem.Spec PyProof.Rows L2
/-- the row from which on the great values stand, and the marks -/
def brkQ (cs : List Cell) (q : Quad) : Int := if inC cs q.1 q.2.2.2 = true then (q.1 : Int) else (q.2.1 : Int)
def markQ (cs : List Cell) (q : Quad) (c : Cell) : Bool := decide ((c.1, (q.2.2.1 : Int)) ∈ cs) && (decide (brkQ cs q < c.1) || decide (c.1 = (q.1 : Int)))
def marksQ (cs : List Cell) (q : Quad) : List Bool := cs.map (markQ cs q)
theorem marks_len (cs : List Cell) (q : Quad) : (marksQ cs q).length = cs.length := List.length_map ..
theorem marks_at {cs : List Cell} {q : Quad} {i : Nat} {c : Cell} (h : cs[i]? = some c) : isM (marksQ cs q) i = markQ cs q c := by
  unfold isM marksQ
  rw [List.getD_eq_getElem?_getD, List.getElem?_map, h]
  rfl
theorem mark_iff {cs : List Cell} {q : Quad} {c : Cell} : markQ cs q c = true ↔ (cellB false cs c.1 q.2.2.1 ∧ (brkQ cs q < c.1 ∨ c.1 = (q.1 : Int))) := by
  unfold markQ
  rw [Bool.and_eq_true, Bool.or_eq_true, decide_eq_true_iff, decide_eq_true_iff, decide_eq_true_iff, cellB_iff]
  exact Iff.rfl
theorem brk_or {cs : List Cell} {q : Quad} (X : XAt false cs q.1 q.2.1 q.2.2.1 q.2.2.2) :
    (cellB false cs q.2.1 q.2.2.1 ∧ ¬ cellB false cs q.1 q.2.2.2 ∧ brkQ cs q = (q.2.1 : Int)) ∨ (¬ cellB false cs q.2.1 q.2.2.1 ∧ cellB false cs q.1 q.2.2.2 ∧ brkQ cs q = (q.1 : Int)) := by
  have hi : inC cs q.1 q.2.2.2 = true ↔ cellB false cs q.1 q.2.2.2 := by
    rw [inC_iff, cellB_iff]
    exact Iff.rfl
  rcases X.x with ⟨a, c⟩ | ⟨a, c⟩
  · refine .inl ⟨a, c, ?_⟩
    unfold brkQ
    rw [if_neg fun z => c (hi.mp z)]
  · refine .inr ⟨a, c, ?_⟩
    unfold brkQ
    rw [if_pos (hi.mpr c)]
/-- what a breaking filling is -/
structure BreakF (b : Bool) (cs : List Cell) (fs : List Int) : Prop where
  v : Vals9 cs.length fs
  up : rises b cs fs = true
  dn : rises b cs (srt (!b) cs fs) = false
theorem break_rows {cs : List Cell} (g : Good cs) (hl : cs.length ≤ 24) {q : Quad} (hq : okQ q) (ho : obsQ cs q = true) : BreakF false cs (filM (marksQ cs q)) := by
  obtain ⟨X, _⟩ := xat_of_obs hq ho
  have ml := marks_len cs q
  have hg : ∀ i, i < cs.length → ∃ c, cs[i]? = some c ∧ gB false cs i = c.1 := fun i hi => ⟨cs[i], List.getElem?_eq_getElem hi, gB_at (List.getElem?_eq_getElem hi)⟩
  refine ⟨by have := fil9 (ms := marksQ cs q) (by omega); rw [ml] at this; exact this, fil_rises g ml fun i j hi hj e => ?_, ?_⟩
  · obtain ⟨c, e1, g1⟩ := hg i hi
    obtain ⟨d, e2, g2⟩ := hg j hj
    rw [marks_at e1, marks_at e2]
    have : c.1 = d.1 := by rw [← g1, ← g2, e]
    unfold markQ
    rw [this]
  · refine breaks (b := false) (x := ((smallM (marksQ cs q)).length : Int) + 1) g (by rw [fil_len, ml]) X.hr X.hk X.c1 X.c2 (brk_or X) fun m hm => ?_
    obtain ⟨c, e1, g1⟩ := hg m hm
    rw [pos_great (by omega), marks_at e1, mark_iff, g1]
theorem break_cols {cs ds : List Cell} (g : Good cs) (gd : Good ds) (p : ds.Perm (cs.map swp)) (hl : cs.length ≤ 24) {q : Quad} (hq : okQ q) (ho : obsQ ds q = true) {fs : List Int} (hf : fs.length = cs.length)
    (hat : ∀ i c j, cs[i]? = some c → ds[j]? = some (swp c) → vI fs i = vI (filM (marksQ ds q)) j) : BreakF true cs fs := by
  obtain ⟨X, _⟩ := xat_of_obs hq ho
  have ml := marks_len ds q
  have dl : ds.length = cs.length := by rw [p.length_eq, List.length_map]
  have sw : ∀ r k : Int, cellB true cs r k ↔ cellB false ds r k := fun r k => by
    rw [cellB_iff, cellB_iff]
    show ((k, r) : Cell) ∈ cs ↔ ((r, k) : Cell) ∈ ds
    rw [p.mem_iff, List.mem_map]
    constructor
    · intro h
      exact ⟨_, h, rfl⟩
    · rintro ⟨c, h, e⟩
      have e1 : c.2 = r := congrArg Prod.fst e
      have e2 : c.1 = k := congrArg Prod.snd e
      rw [← e1, ← e2]
      exact h
  have at' : ∀ i, i < cs.length → ∃ c j, cs[i]? = some c ∧ j < ds.length ∧ ds[j]? = some (swp c) ∧ vI fs i = vI (filM (marksQ ds q)) j ∧ gB true cs i = c.2 := fun i hi => by
    have e1 : cs[i]? = some cs[i] := List.getElem?_eq_getElem hi
    have : swp cs[i] ∈ ds := p.mem_iff.mpr (List.mem_map.mpr ⟨_, List.getElem_mem hi, rfl⟩)
    obtain ⟨j, hj⟩ := List.mem_iff_getElem?.mp this
    exact ⟨cs[i], j, e1, (List.getElem?_eq_some_iff.mp hj).1, hj, hat i _ j e1 hj, gB_at e1⟩
  refine ⟨⟨hf, ?_, ?_⟩, ?_, ?_⟩
  · rw [List.nodup_iff_pairwise_ne, List.pairwise_iff_getElem]
    intro i j hi hj hij e
    obtain ⟨c, i', a1, a2, a3, a4, _⟩ := at' i (by omega)
    obtain ⟨d, j', b1, b2, b3, b4, _⟩ := at' j (by omega)
    have v1 : vI fs i = fs[i] := by
      unfold vI
      rw [List.getD_eq_getElem?_getD, List.getElem?_eq_getElem hi]
      rfl
    have v2 : vI fs j = fs[j] := by
      unfold vI
      rw [List.getD_eq_getElem?_getD, List.getElem?_eq_getElem hj]
      rfl
    have e' : vI (filM (marksQ ds q)) i' = vI (filM (marksQ ds q)) j' := by rw [← a4, ← b4, v1, v2, e]
    rw [fil_at (by omega), fil_at (by omega)] at e'
    have o1 := order_at (ms := marksQ ds q) (i := i') (by omega)
    have o2 := order_at (ms := marksQ ds q) (i := j') (by omega)
    have ep : posM (marksQ ds q) i' = posM (marksQ ds q) j' := by omega
    rw [ep, o2] at o1
    have ej : j' = i' := Option.some.inj o1
    rw [ej, a3] at b3
    have es : swp c = swp d := Option.some.inj b3
    have ec : c = d := Prod.ext (congrArg Prod.snd es) (congrArg Prod.fst es)
    have lt := (List.pairwise_iff_getElem.mp g.asc) i j (by omega) (by omega) hij
    have x1 := (List.getElem?_eq_some_iff.mp a1).2
    have x2 := (List.getElem?_eq_some_iff.mp b1).2
    rw [x1, x2, ec] at lt
    rcases lt with z | ⟨_, z⟩ <;> omega
  · intro v hv
    obtain ⟨i, hi⟩ := List.mem_iff_getElem?.mp hv
    have hil := (List.getElem?_eq_some_iff.mp hi).1
    obtain ⟨c, i', a1, a2, a3, a4, _⟩ := at' i (by omega)
    have v1 : vI fs i = v := by
      unfold vI
      rw [List.getD_eq_getElem?_getD, hi]
      rfl
    have := pos_lt (ms := marksQ ds q) (i := i') (by omega)
    rw [← v1, a4, fil_at (by omega)]
    omega
  · rw [rises_pairs g]
    intro i j hij hj e
    obtain ⟨c, i', a1, a2, a3, a4, a5⟩ := at' i (by omega)
    obtain ⟨d, j', b1, b2, b3, b4, b5⟩ := at' j hj
    have e2 : c.2 = d.2 := by rw [← a5, ← b5, e]
    have l2 := gB_lt g hij hj e
    rw [gB_at a1, gB_at b1] at l2
    have l2 : c.1 < d.1 := l2
    have hij' : i' ≤ j' := by
      by_cases z : i' ≤ j'
      · exact z
      · exfalso
        have lt := (List.pairwise_iff_getElem.mp gd.asc) j' i' b2 a2 (by omega)
        have x1 := (List.getElem?_eq_some_iff.mp a3).2
        have x2 := (List.getElem?_eq_some_iff.mp b3).2
        rw [x1, x2] at lt
        have lt : d.2 < c.2 ∨ (d.2 = c.2 ∧ d.1 < c.1) := lt
        omega
    have em : isM (marksQ ds q) i' = isM (marksQ ds q) j' := by
      rw [marks_at a3, marks_at b3]
      unfold markQ
      show (decide ((c.2, _) ∈ ds) && _) = (decide ((d.2, _) ∈ ds) && _)
      rw [show (swp c).1 = (swp d).1 from e2, e2]
    have := pos_mono hij' em
    rw [a4, b4, fil_at (by omega), fil_at (by omega)]
    omega
  · have hb := brk_or X
    rw [← sw, ← sw] at hb
    refine breaks (b := true) (x := ((smallM (marksQ ds q)).length : Int) + 1) g hf X.hr X.hk ((sw _ _).mpr X.c1) ((sw _ _).mpr X.c2) hb fun m hm => ?_
    obtain ⟨c, j, a1, a2, a3, a4, a5⟩ := at' m hm
    rw [a4, pos_great (by omega), marks_at a3, mark_iff, a5, sw]
    exact Iff.rfl
end KS
namespace KS
open PySem PySem.Spec PyProof.Rows L2
def spBfr (K : PySem.W.Frag) : Sp := fun xs H Q _ => ∃ (p t : Addr) (cs : List Cell) (q : Quad), xs = [.ref p, .ref t] ∧ PlanAt K H p cs ∧ cs.length ≤ 24 ∧ SqT K H t (quadV q) ∧ ∀ H' u, Same H H' → SqT K H' u ((filM (marksQ cs q)).map V.int) → Q (.ref u) H'
abbrev sBfr : Stmt := topS 61
abbrev nBfr : List Str := ["plan", "found", "upper", "lower", "left", "right", "broken", "row", "column"]
theorem scBfr : FnScope nBfr ["plan", "found"] (defScope sBfr) := ⟨rfl, rfl, rfl, by decide +kernel, rfl, by decide +kernel, by decide +kernel⟩
section
variable {P : Program} {w : World} {K : PySem.W.Frag} {mg : Str → Option Value} {base : Heap}
theorem ok_bfr {f fM : Addr} {fd fdM : FuncData} (F : Fun K "breaks_for_rows" "breaks_for_rows" sBfr f fd)
    (GM : FnOk P w K mg base CX0 1 fM fdM ["marks"] (spMarks K)) (bM : Binds K fdM ["marks"] []) (gM : mg "filling_of_marks" = some (.ref fM)) (kM : PySem.W.keepIn K (.ref fM) = true) :
    FnOk P w K mg base CX0 2 f fd ["plan", "found"] (spBfr K) := by
  refine F.ok scBfr (fun vs H Q E h => ?_) (fun cdv A outer s H vs Q E hr h => ?_)
  · obtain ⟨p, t, cs, q, rfl, _⟩ := h
    rfl
  · obtain ⟨p, t, cs, z, rfl, hp, hl, ht, q⟩ := h
    have nd := scBfr.nd
    have hu : (A.deeper (envOfC "breaks_for_rows" (defScope sBfr) s.heap.objs.size f cdv)).units + 65 < cLine := by
      have := hr.un
      omega
    refine ⟨_, pss_cons (ps_asg (pv 1) (pg_tup (by rfl) (pgs_cons (pg_name (i := 2) nd rfl (.inr rfl)) (pgs_cons (pg_name (i := 3) nd rfl (.inl rfl)) (pgs_cons (pg_name (i := 4) nd rfl (.inr rfl)) (pgs_cons (pg_name (i := 5) nd rfl (.inl rfl)) pgs_nil))))))
      (pss_cons (ps_set (i := 6) nd rfl (.inr rfl) (pe_ifExp (pt_cmpR (r := rNotInT K) (op_notInT hu) (pe_tup (pa_cons (pv 2) (pa_cons (pv 5) pa_nil))) (pv 0) (by rfl)) (pv 3) (pv 2)))
      (pss_one (ps_ret (pe_call GM hr (by rfl) gM kM bM .nil pass0 (pa_cons
        (pe_lc (own := [("row", 7), ("column", 8)]) (tt := tYes) rfl nd (pi_tup (pv 0)) (blkOk_by (N := nBfr) (sc := defScope sBfr) (by decide +kernel))
          (fun _ _ _ _ _ => pg_tupK (K := K) (n := 2) rfl (by rfl) (pgs_cons (pg_name (i := 7) nd rfl (Or.inl rfl)) (pgs_cons (pg_name (i := 8) nd rfl (Or.inl rfl)) pgs_nil))) (fun _ _ _ _ _ => pts_nil)
          (fun _ _ _ _ _ => pe_and (pe_cmpR (r := rInT K) (op_inT hu) (pe_tup (pa_cons (pv 7) (pa_cons (pv 4) pa_nil))) (pv 0) (by rfl))
            (pe_one (pe_or (pe_cmpR op_gt (pv 7) (pv 6) (nomark _)) (pe_one (pe_cmpR op_eq (pv 7) (pv 2) (nomark _))))))) pa_nil))))), ?_⟩
    refine ⟨_, rfl, t, _, rfl, ht, rfl, _, _, rfl, _, _, rfl, _, _, rfl, _, _, rfl, rfl, ?_⟩
    refine ⟨_, rfl, _, rfl, (by show 2 ≤ sizeLine; decide), fun T nT => ?_⟩
    have sT := same_new (o := .tup [.int (z.1 : Nat), .int (z.2.2.2 : Nat)]) nT
    refine ⟨_, rfl, notin_cell (SqT.of upd_same) (hp.kt (.of_same sT)) ⟨_, rfl, ?_⟩⟩
    obtain ⟨xs, hx, hc⟩ := id hp
    cases e6 : inC cs z.1 z.2.2.2 with
    | false =>
      have hB : brkQ cs z = (z.2.1 : Int) := by
        unfold brkQ
        rw [e6]
        rfl
      refine iteT ?_
      refine ⟨_, rfl, ?_⟩
      refine ⟨_, rfl, p, rfl, ⟨_, same_seqT sT hx⟩, fun D nD => ?_⟩
      refine lc_tup (K := K) (a := p) (xs := xs) (fun j G => G D = some (.lst (((cs.take j).map (markQ cs z)).map V.bl)) ∧ (∀ b o, b ≠ D → H b = some o → G b = some o)) ?_ ?_ ?_ ?_
      · exact ⟨upd_same, fun b o n e => by rw [upd_ne n]; exact sT _ _ e⟩
      · rintro j G _ ⟨a1, a2⟩
        exact same_seqT (fun b o e => a2 b o (ne_of_none (sT _ _ e) nD) e) hx
      · rintro j x G hj ⟨a1, a2⟩
        have sG : Same H G := fun b o e => a2 b o (ne_of_none (sT _ _ e) nD) e
        obtain ⟨c, hcj, t', rfl, ht'⟩ := paired_get hc hj
        have hjl := (List.getElem?_eq_some_iff.mp hcj).1
        refine ⟨t', _, rfl, same_seqT sG ht', rfl, _, _, rfl, _, _, rfl, rfl, rfl, ?_⟩
        refine ⟨_, rfl, _, rfl, (by show 2 ≤ sizeLine; decide), fun U nU => ?_⟩
        have sU := same_new (o := .tup [.int c.1, .int (z.2.2.1 : Nat)]) nU
        refine ⟨_, rfl, in_cellZ (SqT.of upd_same) (hp.kt (.of_same (sG.trans sU))) ⟨_, rfl, ?_⟩⟩
        have fin : ∀ bb : Bool, bb = markQ cs z c → ∃ acc, upd G U (.tup [.int c.1, .int (z.2.2.1 : Nat)]) D = some (.lst acc) ∧ acc.length < sizeLine ∧
            (upd (upd G U (.tup [.int c.1, .int (z.2.2.1 : Nat)])) D (.lst (acc ++ [.bl bb])) D = some (.lst (((cs.take (j + 1)).map (markQ cs z)).map V.bl)) ∧ (∀ b o, b ≠ D → H b = some o → upd (upd G U (.tup [.int c.1, .int (z.2.2.1 : Nat)])) D (.lst (acc ++ [.bl bb])) b = some o)) := by
          rintro bb rfl
          refine ⟨_, sU _ _ a1, ?_, ?_, fun b o n e => ?_⟩
          · rw [List.length_map, List.length_map, List.length_take]
            exact small64 (by omega)
          · rw [upd_same, List.take_add_one, hcj, List.map_append, List.map_append]
            rfl
          · rw [upd_ne n]
            exact sU _ _ (a2 b o n e)
        cases e1 : decide ((c.1, (z.2.2.1 : Int)) ∈ cs) with
        | false =>
          refine iteF ?_
          exact fin false (by unfold markQ; rw [e1]; rfl)
        | true =>
          refine iteT ?_
          refine ⟨_, rfl, _, rfl, _, _, rfl, rfl, _, rfl, ?_⟩
          cases e2 : decide ((z.2.1 : Int) < c.1) with
          | true =>
            refine iteT ?_
            exact fin true (by unfold markQ; rw [e1, hB, e2]; rfl)
          | false =>
            refine iteF ?_
            refine ⟨_, rfl, _, rfl, rfl, ?_⟩
            refine fin _ ?_
            unfold markQ
            rw [e1, hB, e2]
            show decide (V.int c.1 = V.int (z.1 : Int)) = decide (c.1 = (z.1 : Int))
            by_cases ce : c.1 = (z.1 : Int)
            · rw [ce]
              simp
            · rw [decide_eq_false ce, decide_eq_false (fun w => ce (V.int.inj w))]
      · rintro G ⟨a1, a2⟩
        have sG : Same H G := fun b o e => a2 b o (ne_of_none (sT _ _ e) nD) e
        rw [Paired.length hc, List.take_length] at a1
        exact ⟨D, marksQ cs z, rfl, a1, by unfold marksQ; rw [List.length_map]; exact hl, fun H' u s' hu' => q H' u (sG.trans s') hu'⟩
    | true =>
      have hB : brkQ cs z = (z.1 : Int) := by
        unfold brkQ
        rw [e6]
        rfl
      refine iteF ?_
      refine ⟨_, rfl, ?_⟩
      refine ⟨_, rfl, p, rfl, ⟨_, same_seqT sT hx⟩, fun D nD => ?_⟩
      refine lc_tup (K := K) (a := p) (xs := xs) (fun j G => G D = some (.lst (((cs.take j).map (markQ cs z)).map V.bl)) ∧ (∀ b o, b ≠ D → H b = some o → G b = some o)) ?_ ?_ ?_ ?_
      · exact ⟨upd_same, fun b o n e => by rw [upd_ne n]; exact sT _ _ e⟩
      · rintro j G _ ⟨a1, a2⟩
        exact same_seqT (fun b o e => a2 b o (ne_of_none (sT _ _ e) nD) e) hx
      · rintro j x G hj ⟨a1, a2⟩
        have sG : Same H G := fun b o e => a2 b o (ne_of_none (sT _ _ e) nD) e
        obtain ⟨c, hcj, t', rfl, ht'⟩ := paired_get hc hj
        have hjl := (List.getElem?_eq_some_iff.mp hcj).1
        refine ⟨t', _, rfl, same_seqT sG ht', rfl, _, _, rfl, _, _, rfl, rfl, rfl, ?_⟩
        refine ⟨_, rfl, _, rfl, (by show 2 ≤ sizeLine; decide), fun U nU => ?_⟩
        have sU := same_new (o := .tup [.int c.1, .int (z.2.2.1 : Nat)]) nU
        refine ⟨_, rfl, in_cellZ (SqT.of upd_same) (hp.kt (.of_same (sG.trans sU))) ⟨_, rfl, ?_⟩⟩
        have fin : ∀ bb : Bool, bb = markQ cs z c → ∃ acc, upd G U (.tup [.int c.1, .int (z.2.2.1 : Nat)]) D = some (.lst acc) ∧ acc.length < sizeLine ∧
            (upd (upd G U (.tup [.int c.1, .int (z.2.2.1 : Nat)])) D (.lst (acc ++ [.bl bb])) D = some (.lst (((cs.take (j + 1)).map (markQ cs z)).map V.bl)) ∧ (∀ b o, b ≠ D → H b = some o → upd (upd G U (.tup [.int c.1, .int (z.2.2.1 : Nat)])) D (.lst (acc ++ [.bl bb])) b = some o)) := by
          rintro bb rfl
          refine ⟨_, sU _ _ a1, ?_, ?_, fun b o n e => ?_⟩
          · rw [List.length_map, List.length_map, List.length_take]
            exact small64 (by omega)
          · rw [upd_same, List.take_add_one, hcj, List.map_append, List.map_append]
            rfl
          · rw [upd_ne n]
            exact sU _ _ (a2 b o n e)
        cases e1 : decide ((c.1, (z.2.2.1 : Int)) ∈ cs) with
        | false =>
          refine iteF ?_
          exact fin false (by unfold markQ; rw [e1]; rfl)
        | true =>
          refine iteT ?_
          refine ⟨_, rfl, _, rfl, _, _, rfl, rfl, _, rfl, ?_⟩
          cases e2 : decide ((z.1 : Int) < c.1) with
          | true =>
            refine iteT ?_
            exact fin true (by unfold markQ; rw [e1, hB, e2]; rfl)
          | false =>
            refine iteF ?_
            refine ⟨_, rfl, _, rfl, rfl, ?_⟩
            refine fin _ ?_
            unfold markQ
            rw [e1, hB, e2]
            show decide (V.int c.1 = V.int (z.1 : Int)) = decide (c.1 = (z.1 : Int))
            by_cases ce : c.1 = (z.1 : Int)
            · rw [ce]
              simp
            · rw [decide_eq_false ce, decide_eq_false (fun w => ce (V.int.inj w))]
      · rintro G ⟨a1, a2⟩
        have sG : Same H G := fun b o e => a2 b o (ne_of_none (sT _ _ e) nD) e
        rw [Paired.length hc, List.take_length] at a1
        exact ⟨D, marksQ cs z, rfl, a1, by unfold marksQ; rw [List.length_map]; exact hl, fun H' u s' hu' => q H' u (sG.trans s') hu'⟩
end
end KS
namespace KS
open PySem PySem.Spec PyProof.Rows L2
theorem noobs_swp {cs ds : List Cell} (g : Good cs) (gd : Good ds) (p : ds.Perm (cs.map swp)) : NoObs cs ↔ NoObs ds := by
  have mem : ∀ r k : Nat, inC ds r k = inC cs k r := fun r k => by
    unfold inC
    refine decide_eq_decide.mpr ?_
    rw [p.mem_iff, List.mem_map]
    constructor
    · rintro ⟨c, h, e⟩
      have e1 : c.2 = (r : Int) := congrArg Prod.fst e
      have e2 : c.1 = (k : Int) := congrArg Prod.snd e
      rw [← e1, ← e2]
      exact h
    · intro h
      exact ⟨_, h, rfl⟩
  have key : ∀ u l a b : Nat, obs ds a b u l = obs cs u l a b := fun u l a b => by
    unfold obs
    rw [mem, mem, mem, mem]
    cases inC cs u a <;> cases inC cs l b <;> cases inC cs u b <;> cases inC cs l a <;> rfl
  constructor
  · rintro h ⟨u, l, a, b⟩ ⟨h1, h2, h3, h4⟩
    have := h (a, b, u, l) ⟨h3, h4, h1, h2⟩
    show obs ds u l a b = false
    rw [key]
    exact this
  · rintro h ⟨u, l, a, b⟩ ⟨h1, h2, h3, h4⟩
    have := h (a, b, u, l) ⟨h3, h4, h1, h2⟩
    show obs cs u l a b = false
    rw [← key]
    exact this
theorem asc_uniq {l l' : List Cell} (a : l.Pairwise lt2) (a' : l'.Pairwise lt2) (p : l.Perm l') : l = l' :=
  List.Perm.eq_of_pairwise (fun x y _ _ h1 h2 => by
    rcases h1 with h1 | ⟨h1, h1'⟩ <;> rcases h2 with h2 | ⟨h2, h2'⟩ <;> omega) a a' p
/-- what breaking_filling is to answer: nothing, or values -/
def Bf : Bool → List Cell → Option (List Int) → Prop
  | false, cs, r => ∃ o, Ans cs o ∧ r = o.map fun q => filM (marksQ cs q)
  | true, cs, r => ∃ (ds : List Cell) (o : Option Quad), ds.Perm (cs.map swp) ∧ ds.Pairwise lt2 ∧ Ans ds o ∧ r = o.map fun q => cs.map fun c => vI (filM (marksQ ds q)) (ds.idxOf (swp c))
def FilAt (K : PySem.W.Frag) (H : Hp) (v : V) : Option (List Int) → Prop
  | none => v = .non
  | some fs => ∃ u, v = .ref u ∧ SqT K H u (fs.map V.int)
theorem FilAt.same {K : PySem.W.Frag} {H H' : Hp} {v : V} : ∀ {r : Option (List Int)}, Same H H' → FilAt K H v r → FilAt K H' v r
  | none, _, h => h
  | some _, s, ⟨u, e, h⟩ => ⟨u, e, same_seqT s h⟩
def spBf (K : PySem.W.Frag) : Sp := fun xs H Q _ => ∃ (p : Addr) (b : Bool) (cs : List Cell), xs = [.ref p, .str (if b = true then "C" else "R")] ∧ PlanAt K H p cs ∧ Good cs ∧ cs.length ≤ 24 ∧ ∀ H' v r, Same H H' → Bf b cs r → FilAt K H' v r → Q v H'
theorem Bf.uniq {b : Bool} {cs : List Cell} {r r' : Option (List Int)} (h : Bf b cs r) (h' : Bf b cs r') : r = r' := by
  cases b with
  | false =>
    obtain ⟨o, a, rfl⟩ := h
    obtain ⟨o', a', rfl⟩ := h'
    rw [a.uniq a']
  | true =>
    obtain ⟨ds, o, p, s, a, rfl⟩ := h
    obtain ⟨ds', o', p', s', a', rfl⟩ := h'
    have e := asc_uniq s s' (p.trans p'.symm)
    subst e
    rw [a.uniq a']
theorem Bf.isNone {b : Bool} {cs : List Cell} {r : Option (List Int)} (g : Good cs) (h : Bf b cs r) : r = none ↔ NoObs cs := by
  have key : ∀ (ds : List Cell) (o : Option Quad), Ans ds o → (o = none ↔ NoObs ds) := fun ds o a => by
    cases o with
    | none => exact ⟨fun _ => a, fun _ => rfl⟩
    | some q =>
      refine ⟨fun z => (by cases z), fun n => ?_⟩
      have := n q a.ok
      rw [a.hit] at this
      cases this
  cases b with
  | false =>
    obtain ⟨o, a, rfl⟩ := h
    rw [← key cs o a]
    cases o <;> simp
  | true =>
    obtain ⟨ds, o, p, s, a, rfl⟩ := h
    rw [noobs_swp g (good_swp g p s).1 p, ← key ds o a]
    cases o <;> simp
theorem idx_swp {cs ds : List Cell} (p : ds.Perm (cs.map swp)) (asc : ds.Pairwise lt2) {c : Cell} (hc : c ∈ cs) {j : Nat} : ds[j]? = some (swp c) ↔ j = ds.idxOf (swp c) := by
  have hm : swp c ∈ ds := p.mem_iff.mpr (List.mem_map.mpr ⟨_, hc, rfl⟩)
  have l := List.idxOf_lt_length_of_mem hm
  have hk : ds[ds.idxOf (swp c)]? = some (swp c) := by rw [List.getElem?_eq_getElem l, List.getElem_idxOf]
  constructor
  · intro hj
    obtain ⟨l1, e1⟩ := List.getElem?_eq_some_iff.mp hj
    obtain ⟨l2, e2⟩ := List.getElem?_eq_some_iff.mp hk
    rcases Nat.lt_trichotomy j (ds.idxOf (swp c)) with y | y | y
    · have lt := (List.pairwise_iff_getElem.mp asc) j _ l1 l2 y
      rw [e1, e2] at lt
      rcases lt with y | ⟨_, y⟩ <;> omega
    · exact y
    · have lt := (List.pairwise_iff_getElem.mp asc) _ j l2 l1 y
      rw [e1, e2] at lt
      rcases lt with y | ⟨_, y⟩ <;> omega
  · intro e
    rw [e]
    exact hk
theorem Bf.brk {b : Bool} {cs : List Cell} {fs : List Int} (g : Good cs) (hl : cs.length ≤ 24) (h : Bf b cs (some fs)) : BreakF b cs fs := by
  cases b with
  | false =>
    obtain ⟨o, a, e⟩ := h
    cases o with
    | none => cases e
    | some q =>
      cases e
      exact break_rows g hl a.ok a.hit
  | true =>
    obtain ⟨ds, o, p, s, a, e⟩ := h
    cases o with
    | none => cases e
    | some q =>
      cases e
      refine break_cols g (good_swp g p s).1 p hl a.ok a.hit (by rw [List.length_map]) fun i c j hi hj => ?_
      rw [(idx_swp p s (List.mem_of_getElem? hi)).mp hj]
      unfold vI
      rw [List.getD_eq_getElem?_getD, List.getElem?_map, hi]
      rfl
end KS
namespace KS
open PySem PySem.Spec PyProof.Rows L2
abbrev sBf : Stmt := topS 62
abbrev nBf : List Str := ["plan", "kind", "turned", "found", "filling", "row", "column"]
theorem scBf : FnScope nBf ["plan", "kind"] (defScope sBf) := ⟨rfl, rfl, rfl, by decide +kernel, rfl, by decide +kernel, by decide +kernel⟩
theorem kindR {b : Bool} : decide (V.str (if b = true then "C" else "R") = V.str "R") = !b := by cases b <;> decide +kernel
section
variable {P : Program} {w : World} {K : PySem.W.Frag} {mg : Str → Option Value} {base : Heap}
theorem ok_bf {f fC fK fT fO fB : Addr} {fd fdC fdK fdT fdO fdB : FuncData} (F : Fun K "breaking_filling" "breaking_filling" sBf f fd)
    (GC : FnOk P w K mg base CX0 5 fC fdC ["plan"] (spCheck K)) (bC : Binds K fdC ["plan"] []) (gC : mg "check_plan" = some (.ref fC)) (kC : PySem.W.keepIn K (.ref fC) = true)
    (GK : FnOk P w K mg base CX0 2 fK fdK ["kind"] spKind) (bK : Binds K fdK ["kind"] []) (gK : mg "check_kind" = some (.ref fK)) (kK : PySem.W.keepIn K (.ref fK) = true)
    (GT : FnOk P w K mg base CX0 6 fT fdT ["plan"] (spTrans K)) (bT : Binds K fdT ["plan"] []) (gT : mg "transposed" = some (.ref fT)) (kT : PySem.W.keepIn K (.ref fT) = true)
    (GO : FnOk P w K mg base CX0 6 fO fdO ["plan"] (spObs K)) (bO : Binds K fdO ["plan"] []) (gO : mg "obstacle" = some (.ref fO)) (kO : PySem.W.keepIn K (.ref fO) = true)
    (GB : FnOk P w K mg base CX0 2 fB fdB ["plan", "found"] (spBfr K)) (bB : Binds K fdB ["plan", "found"] []) (gB : mg "breaks_for_rows" = some (.ref fB)) (kB : PySem.W.keepIn K (.ref fB) = true)
    (mT : mg "tuple" = none) : FnOk P w K mg base CX0 7 f fd ["plan", "kind"] (spBf K) := by
  refine F.ok scBf (fun vs H Q E h => ?_) (fun cdv A outer s H vs Q E hr h => ?_)
  · obtain ⟨p, b, cs, rfl, _⟩ := h
    rfl
  · obtain ⟨p, b, cs, rfl, hp, gd, hl, q⟩ := h
    have nd := scBf.nd
    have hu : (A.deeper (envOfC "breaking_filling" (defScope sBf) s.heap.objs.size f cdv)).units + 65 < cLine := by
      have := hr.un
      omega
    refine ⟨_, pss_cons (ps_expr (pe_call GC (hr.mono (by decide)) (by rfl) gC kC bC .nil pass0 (pa_cons (pv 0) pa_nil)))
      (pss_cons (ps_expr (pe_call GK (hr.mono (by decide)) (by rfl) gK kK bK .nil pass0 (pa_cons (pv 1) pa_nil)))
      (pss_cons (ps_set (i := 2) nd rfl (.inr rfl) (pe_ifExp (pt_cmpR op_eq (pv 1) pe_str (nomark _)) (pv 0) (pe_call GT hr (by rfl) gT kT bT .nil pass0 (pa_cons (pv 0) pa_nil))))
      (pss_cons (ps_set (i := 3) nd rfl (.inl rfl) (pe_call GO hr (by rfl) gO kO bO .nil pass0 (pa_cons (pv 2) pa_nil)))
      (pss_cons (ps_if (pt_cmpR op_isN (pv 3) pe_non (nomark _)) (pss_one (ps_ret pe_non)) pss_nil)
      (pss_cons (ps_set (i := 4) nd rfl (.inr rfl) (pe_call GB (hr.mono (by decide)) (by rfl) gB kB bB .nil pass0 (pa_cons (pv 2) (pa_cons (pv 3) pa_nil))))
      (pss_cons (ps_if (pt_cmpR op_eq (pv 1) pe_str (nomark _)) (pss_one (ps_ret (pv 4))) pss_nil)
      (pss_one (ps_ret (pe_callTy cr_tupOf (by rfl) mT (by decide +kernel) (pa_cons
        (pe_lc (own := [("row", 5), ("column", 6)]) (tt := tYes) rfl nd (pi_tup (pv 0)) (blkOk_by (N := nBf) (sc := defScope sBf) (by decide +kernel))
          (fun _ _ _ _ _ => pg_tupK (K := K) (n := 2) rfl (by rfl) (pgs_cons (pg_name (i := 5) nd rfl (Or.inl rfl)) (pgs_cons (pg_name (i := 6) nd rfl (Or.inl rfl)) pgs_nil))) (fun _ _ _ _ _ => pts_nil)
          (fun _ _ _ _ _ => pe_ix (r := rIxT K) ix_tup (pv 4) (pe_bmT (r := rIndexD K) PySem.F.plainAttrs_tuple PySem.F.slot_tuple_index PySem.F.type_tuple_index (mt_indexD hu) (pv 2) (pa_cons (pe_tup (pa_cons (pv 6) (pa_cons (pv 5) pa_nil))) pa_nil)) (fun _ _ => rfl))) pa_nil)))))))))), ?_⟩
    refine ⟨_, rfl, p, cs, rfl, hp, gd, hl, fun H1 s1 => ?_⟩
    refine ⟨_, rfl, b, rfl, fun H2 s2 => ?_⟩
    have s12 := s1.trans s2
    refine ⟨_, rfl, by cases b <;> rfl, _, rfl, ?_⟩
    rw [kindR]
    cases b with
    | false =>
      refine iteT ?_
      refine ⟨_, rfl, ?_⟩
      refine ⟨_, rfl, p, cs, rfl, hp.kt (.of_same s12), gd, hl, fun H3 v o s3 an hv => ?_⟩
      have s13 := s12.trans s3
      refine ⟨_, rfl, rfl, _, rfl, ?_⟩
      cases o with
      | none =>
        cases (show v = .non from hv)
        refine iteT ?_
        exact q H3 .non none s13 ⟨none, an, rfl⟩ rfl
      | some z =>
        obtain ⟨t, rfl, ht⟩ := hv
        refine iteF ?_
        refine ⟨_, rfl, _, rfl, p, t, cs, z, rfl, hp.kt (.of_same s13), hl, ht, fun H4 u s4 hu4 => ?_⟩
        refine ⟨_, rfl, by rfl, _, rfl, ?_⟩
        rw [kindR]
        refine iteT ?_
        refine ⟨_, rfl, ?_⟩
        exact q H4 _ _ (s13.trans s4) ⟨some z, an, rfl⟩ ⟨u, rfl, hu4⟩
    | true =>
      refine iteF ?_
      refine ⟨_, rfl, p, cs, rfl, hp.kt (.of_same s12), gd, hl, fun H3 m ds s3 hm tn perm asc => ?_⟩
      have s13 := s12.trans s3
      have gds := (good_swp gd perm asc).1
      have dl : ds.length = cs.length := by rw [perm.length_eq, List.length_map]
      refine ⟨_, rfl, m, ds, rfl, hm, gds, by omega, fun H4 v o s4 an hv => ?_⟩
      have s14 := s13.trans s4
      refine ⟨_, rfl, rfl, _, rfl, ?_⟩
      cases o with
      | none =>
        cases (show v = .non from hv)
        refine iteT ?_
        exact q H4 .non none s14 ⟨ds, none, perm, asc, an, rfl⟩ rfl
      | some z =>
        obtain ⟨t, rfl, ht⟩ := hv
        refine iteF ?_
        refine ⟨_, rfl, _, rfl, m, t, ds, z, rfl, hm.kt (.of_same s4), by omega, ht, fun H5 u s5 hu5 => ?_⟩
        have s15 := s14.trans s5
        refine ⟨_, rfl, by rfl, _, rfl, ?_⟩
        rw [kindR]
        refine iteF ?_
        obtain ⟨xs, hx, hc⟩ := id hp
        have hlen := Paired.length hc
        obtain ⟨ms, tn⟩ := tn
        have hm5 := hm.kt (.of_same (s4.trans s5))
        have fl : (filM (marksQ ds z)).length = cs.length := by rw [fil_len, marks_len, dl]
        have pjs : ∀ c ∈ cs, ds[ds.idxOf (swp c)]? = some (swp c) := fun c hcm => (idx_swp perm asc hcm).mpr rfl
        let fv : Cell → Int := fun c => vI (filM (marksQ ds z)) (ds.idxOf (swp c))
        refine ⟨_, rfl, p, rfl, ⟨_, same_seqT s15 hx⟩, fun D nD => ?_⟩
        refine lc_tup (K := K) (a := p) (xs := xs) (fun j G => G D = some (.lst (((cs.take j).map fv).map V.int)) ∧ (∀ b o, b ≠ D → H5 b = some o → G b = some o)) ?_ ?_ ?_ ?_
        · exact ⟨upd_same, fun b o n e => by rw [upd_ne n]; exact e⟩
        · rintro j G _ ⟨a1, a2⟩
          exact same_seqT (fun b o e => a2 b o (ne_of_none (s15 _ _ e) nD) (s15 _ _ e)) hx
        · rintro j x G hj ⟨a1, a2⟩
          have sG : Same H5 G := fun b o e => a2 b o (ne_of_none e nD) e
          obtain ⟨c, hcj, t', rfl, ht'⟩ := paired_get hc hj
          have hjl := (List.getElem?_eq_some_iff.mp hcj).1
          have hcm := List.mem_of_getElem? hcj
          refine ⟨t', _, rfl, same_seqT (s15.trans sG) ht', rfl, _, _, rfl, _, _, rfl, rfl, rfl, ?_⟩
          refine ⟨_, rfl, _, rfl, ⟨m, ms, rfl, (tn.same (s4.trans s5)).same sG⟩, _, rfl, _, rfl, (by show 2 ≤ sizeLine; decide), fun U nU => ?_⟩
          have sU := same_new (o := .tup [.int c.2, .int c.1]) nU
          refine ⟨.ref U, cellD (swp c), ds.map cellD, ds.idxOf (swp c), cellD (swp c), rfl, dp_cell (SqT.of upd_same), (hm5.kt (.of_same (sG.trans sU))).dp, cell_shaped _, plan_shaped _, by rw [List.getElem?_map, pjs c hcm]; rfl, ?_, ?_, ?_⟩
          · rw [cell_eqv]
            simp
          · intro m' z' hm' e
            rw [List.getElem?_map] at e
            cases ed : ds[m']? with
            | none =>
              rw [ed] at e
              cases e
            | some d =>
              rw [ed] at e
              cases e
              rw [cell_eqv]
              refine decide_eq_false fun y => ?_
              have := (idx_swp perm asc hcm).mp (show ds[m']? = some (swp c) by rw [ed, y])
              omega
          · have fj : (filM (marksQ ds z))[ds.idxOf (swp c)]? = some (fv c) := by
              have l := (List.getElem?_eq_some_iff.mp (pjs c hcm)).1
              show _ = some (vI (filM (marksQ ds z)) (ds.idxOf (swp c)))
              unfold vI
              rw [List.getD_eq_getElem?_getD, List.getElem?_eq_getElem (by omega)]
              rfl
            refine ⟨u, _, _, .int (fv c), rfl, rfl, same_seqT (sG.trans sU) hu5, atI_nat (by rw [List.getElem?_map, fj]; rfl), ?_⟩
            refine ⟨_, sU _ _ a1, ?_, ?_, fun b o n e => ?_⟩
            · rw [List.length_map, List.length_map, List.length_take]
              exact small64 (by omega)
            · rw [upd_same, List.take_add_one, hcj, List.map_append, List.map_append]
              rfl
            · rw [upd_ne n]
              exact sU _ _ (a2 b o n e)
        · rintro G ⟨a1, a2⟩
          have sG : Same H5 G := fun b o e => a2 b o (ne_of_none e nD) e
          rw [hlen, List.take_length] at a1
          refine ⟨D, _, rfl, .inl ⟨SqL.of a1, fun m2 nm2 => ?_⟩⟩
          have sM := same_new (o := .tup ((cs.map fv).map V.int)) nm2
          exact q _ _ _ ((s15.trans sG).trans sM) ⟨ds, some z, perm, asc, an, rfl⟩ ⟨m2, rfl, SqT.of upd_same⟩
end
end KS
namespace KS
open PySem PySem.Spec PyProof.Rows L2
def spRanks (K : PySem.W.Frag) : Sp := fun xs H Q _ => ∃ (a t : Addr) (cs : List Cell) (vs : List Int), xs = [.ref a, .ref t] ∧ PlanAt K H a cs ∧ Good cs ∧ cs.length ≤ 24 ∧
  SqT K H t (vs.map V.int) ∧ Vals9 cs.length vs ∧ ∀ H' u, Same H H' → SqT K H' u ((rks vs).map V.int) → Q (.ref u) H'
abbrev sRanks : Stmt := topS 45
abbrev nRanks : List Str := ["plan", "filling", "ordered", "value"]
theorem scRanks : FnScope nRanks ["plan", "filling"] (defScope sRanks) := ⟨rfl, rfl, rfl, by decide +kernel, rfl, by decide +kernel, by decide +kernel⟩
section
variable {P : Program} {w : World} {K : PySem.W.Frag} {mg : Str → Option Value} {base : Heap}
theorem ok_ranks {f fC fF : Addr} {fd fdC fdF : FuncData} (F : Fun K "ranks" "ranks" sRanks f fd)
    (GC : FnOk P w K mg base CX0 5 fC fdC ["plan"] (spCheck K)) (bC : Binds K fdC ["plan"] []) (gC : mg "check_plan" = some (.ref fC)) (kC : PySem.W.keepIn K (.ref fC) = true)
    (GF : FnOk P w K mg base CX0 4 fF fdF ["size", "filling"] (spCheckF K)) (bF : Binds K fdF ["size", "filling"] []) (gF : mg "check_filling" = some (.ref fF)) (kF : PySem.W.keepIn K (.ref fF) = true)
    (ml : mg "len" = none) (mS : mg "sorted" = none) (mT : mg "tuple" = none) : FnOk P w K mg base CX0 6 f fd ["plan", "filling"] (spRanks K) := by
  refine F.ok scRanks (fun vs H Q E h => ?_) (fun cdv A outer s H vs Q E hr h => ?_)
  · obtain ⟨a, t, cs, vs, rfl, _⟩ := h
    rfl
  · obtain ⟨a, t, cs, vs, rfl, hp, gd, hl, ht, v9, q⟩ := h
    have nd := scRanks.nd
    refine ⟨_, pss_cons (ps_expr (pe_call GC hr (by rfl) gC kC bC .nil pass0 (pa_cons (pv 0) pa_nil)))
      (pss_cons (ps_expr (pe_call GF (hr.mono (by decide)) (by rfl) gF kF bF .nil pass0 (pa_cons (pe_callB call_len_seq (by rfl) ml PySem.boot_len (pa_cons (pv 0) pa_nil)) (pa_cons (pv 1) pa_nil))))
      (pss_cons (ps_set (i := 2) nd rfl (.inr rfl) (pe_callB cr_sortedTI (by rfl) mS (by decide +kernel) (pa_cons (pv 1) pa_nil)))
      (pss_one (ps_ret (pe_callTy call_tuple_of (by rfl) mT (by decide +kernel) (pa_cons
        (pe_lc (own := [("value", 3)]) (g := gName 3) (tt := tYes) rfl nd (pi_tup (pv 1)) (blkOk_by (N := nRanks) (sc := defScope sRanks) (by decide +kernel))
          (fun _ _ _ _ _ => pg_name (i := 3) nd rfl (Or.inl rfl)) (fun _ _ _ _ _ => pts_nil)
          (fun _ _ _ _ _ => pe_op op_add (pe_bmK (K := K) (r := rIndex K) rfl PySem.F.plainAttrs_list PySem.F.slot_list_index PySem.F.type_list_index mt_index (pv 2) (pa_cons (pv 3) pa_nil)) pe_int)) pa_nil)))))), ?_⟩
    obtain ⟨xs, hx, hc⟩ := id hp
    have hlen := Paired.length hc
    refine ⟨_, rfl, a, cs, rfl, hp, gd, hl, fun H1 s1 => ?_⟩
    refine ⟨_, rfl, a, xs, rfl, .inr (same_seqT s1 hx), _, rfl, xs.length, t, vs, rfl, same_seqT s1 ht, by rw [hlen]; exact v9, by omega, fun H2 s2 => ?_⟩
    have s12 := s1.trans s2
    refine ⟨_, rfl, t, vs, rfl, same_seqT s12 ht, fun ns o H3 perm asc no e3 => ?_⟩
    subst e3
    have s3 := s12.trans (same_new (o := .lst (ns.map V.int)) no)
    have nn : ns.Pairwise (· < ·) := strict_of asc (perm.nodup_iff.mpr v9.nd)
    have ho : upd H2 o (.lst (ns.map V.int)) o = some (.lst (ns.map V.int)) := upd_same
    generalize upd H2 o (.lst (ns.map V.int)) = H3 at s3 ho
    refine ⟨_, rfl, t, rfl, ⟨_, same_seqT s3 ht⟩, fun D nD => ?_⟩
    have noD : o ≠ D := ne_of_none ho nD
    refine lc_tup (K := K) (a := t) (xs := vs.map V.int) (fun j G => G = upd H3 D (.lst (((vs.take j).map (rkI vs)).map V.int))) ?_ ?_ ?_ ?_
    · rfl
    · rintro j G _ rfl
      exact same_seqT (s3.trans (same_new nD)) ht
    · rintro j x G hj rfl
      rw [List.getElem?_map] at hj
      cases ev : vs[j]? with
      | none =>
        rw [ev] at hj
        cases hj
      | some v =>
        rw [ev] at hj
        cases hj
        have hv : v ∈ ns := perm.mem_iff.mpr (List.mem_of_getElem? ev)
        obtain ⟨i, hi⟩ := List.mem_iff_getElem?.mp hv
        have hjl := (List.getElem?_eq_some_iff.mp ev).1
        have vlen := v9.len
        refine ⟨rfl, _, rfl, .inl ⟨rfl, _, SqL.of (by rw [upd_ne noD]; exact ho)⟩, _, rfl, o, _, _, i, .int v, rfl, rfl, SqL.of (by rw [upd_ne noD]; exact ho), rfl, flat_ints _, by rw [List.getElem?_map, hi]; rfl, by show (v == v) = true; simp, fun m z' hm hz => ?_, ?_⟩
        · rw [List.getElem?_map] at hz
          cases em : ns[m]? with
          | none =>
            rw [em] at hz
            cases hz
          | some y =>
            rw [em] at hz
            cases hz
            obtain ⟨l1, e1⟩ := List.getElem?_eq_some_iff.mp hi
            obtain ⟨l2, e2⟩ := List.getElem?_eq_some_iff.mp em
            have := (List.pairwise_iff_getElem.mp nn) m i l2 l1 hm
            rw [e1, e2] at this
            show (y == v) = false
            rw [beq_eq_false_iff_ne]
            omega
        · have er : (i : Int) + 1 = rkI vs v := by
            have := idx_asc nn hi
            rw [← rkI_perm perm]
            unfold rkI
            omega
          refine ⟨_, _, rfl, rfl, _, upd_same, ?_, ?_⟩
          · rw [List.length_map, List.length_map, List.length_take]
            exact small64 (by omega)
          · show _ = upd _ _ _
            rw [upd_upd, List.take_add_one, ev, List.map_append, List.map_append]
            show _ = upd H3 D (.lst (_ ++ [V.int (rkI vs v)]))
            rw [← er]
    · rintro G rfl
      rw [List.length_map, List.take_length]
      refine ⟨D, _, rfl, .inl ⟨SqL.of upd_same, fun u nu => ?_⟩⟩
      exact q _ u ((s3.trans (same_new nD)).trans (same_new nu)) (SqT.of upd_same)
end
end KS
namespace KS
open PySem PySem.Spec PyProof.Rows L2
/-! ### signs: texts and tuples of the letters 0 and 1 -/
def chN (v : Int) : Nat := if v = 1 then 49 else 48
def chS (v : Int) : Str := ⟨#[chN v]⟩
def sgS (bs : List Int) : Str := ⟨(bs.map chN).toArray⟩
def chV (bs : List Int) : List V := bs.map fun v => V.str (chS v)
theorem sgS_len (bs : List Int) : (sgS bs).length = bs.length := by
  show (bs.map chN).toArray.size = _
  rw [List.size_toArray, List.length_map]
/-- list(x), x a tuple of letters, or a text of letters -/
def rListSg (K : PySem.W.Frag) : List V → Hp → VK → Prop := fun xs H Q => (∃ p ys, xs = [.ref p] ∧ SqT K H p ys ∧ ∀ l, H l = none → Q (.ref l) (upd H l (.lst ys))) ∨
  ∃ bs : List Int, xs = [.str (sgS bs)] ∧ bs.length ≤ 64 ∧ ∀ l, H l = none → Q (.ref l) (upd H l (.lst (chV bs)))
theorem cr_listSg {X : Cx} (hc : X.calm = true) : CallR X (.type "list") (rListSg X.K) := by
  intro pins s σ H xs us Q I r h
  rcases h with ⟨p, ys, e, ht, q⟩ | ⟨bs, rfl, hl, q⟩
  · exact call_list_of pins s σ H xs us Q I r ⟨p, ys, e, .inr ht, q⟩
  · obtain ⟨u, rfl, rx⟩ := vals1 r
    obtain ⟨t, rfl⟩ := rx
    have hlen := sgS_len bs
    refine call_list_str (I.ok.hd hc) (sgS bs) t (fun h' tk acc c' hk e hi => ?_) (by show (sgS bs).length ≤ sizeLine; rw [hlen, sizeLine_eq]; omega)
    have ea : acc.toList.length = bs.length := by
      rw [Array.length_toList, hi.1]
      exact hlen
    have rv : Vals (chV bs) acc.toList := by
      have e0 : chV bs = (List.range acc.toList.length).map fun j => V.str (chS (bs.getD j 0)) := by
        rw [ea]
        apply List.ext_getElem?
        intro i
        unfold chV
        rw [List.getElem?_map, List.getElem?_map]
        by_cases c : i < bs.length
        · rw [List.getElem?_eq_getElem c, List.getElem?_range c]
          show some (V.str (chS bs[i])) = some (V.str (chS (bs.getD i 0)))
          rw [List.getD_eq_getElem?_getD, List.getElem?_eq_getElem c]
          rfl
        · rw [List.getElem?_eq_none (by omega), List.getElem?_eq_none (by rw [List.length_range]; omega)]
          rfl
      rw [e0]
      refine vals_of_get acc.toList _ fun j u hj => ?_
      obtain ⟨c, t', hc', rfl⟩ := hi.2 j u (by rw [← hj, Array.getElem?_toList])
      refine ⟨t', ?_⟩
      have h2 : (bs.map chN)[j]? = some c := by
        have : (bs.map chN).toArray[j]? = some c := hc'
        rw [List.getElem?_toArray] at this
        exact this
      rw [List.getElem?_map] at h2
      cases ev : bs[j]? with
      | none =>
        rw [ev] at h2
        cases h2
      | some v =>
        rw [ev] at h2
        cases h2
        rw [List.getD_eq_getElem?_getD, ev]
        rfl
    refine ⟨.ref s.heap.objs.size, _, I.laid (t' := tk) hk (Nat.le_refl _) (show ObjOk X.prog X.w _ h' _ (.lst (chV bs)) from ⟨?_, acc.toList, c', rv, by rw [Array.toArray_toList]; exact e⟩), rfl, q _ (I.hok.fresh (Nat.le_refl _))⟩
    unfold chV
    rw [List.length_map, sizeLine_eq]
    omega
/-- x[i], x a tuple or a text -/
def rIxTS (K : PySem.W.Frag) : R2 := fun x y H Q => rIxT K x y H Q ∨ rIxS x y H Q
theorem ix_tupS {X : Cx} : IxR X (rIxTS X.K) := by
  intro value slice pins s σ H x y v u Q I rx ry h hs
  rcases h with h | h
  · exact ix_tup value slice pins s σ H x y v u Q I rx ry h hs
  · exact ix_str value slice pins s σ H x y v u Q I rx ry h hs
/-- "".join(x), x a tuple of letters, or a text of letters -/
def rJoinSg (K : PySem.W.Frag) : V → List V → Hp → VK → Prop := fun x xs H Q => x = .str "" ∧ ∃ bs : List Int, bs.length ≤ 64 ∧ (xs = [.str (sgS bs)] ∨ (∃ p, xs = [.ref p] ∧ SqT K H p (chV bs)) ∨ (∃ p, xs = [.ref p] ∧ SqL K H p (chV bs))) ∧ Q (.str (sgS bs)) H
theorem sg_app (a b : List Int) : sgS a ++ sgS b = sgS (a ++ b) := by
  show (⟨(a.map chN).toArray ++ (b.map chN).toArray⟩ : Str) = ⟨((a ++ b).map chN).toArray⟩
  rw [List.map_append]
  simp
theorem join_sg : ∀ bs : List Int, Str.join "" (bs.map chS) = sgS bs
  | [] => by decide +kernel
  | [b] => rfl
  | b :: c :: r => by
    have h := join_sg (c :: r)
    show chS b ++ "" ++ Str.join "" ((c :: r).map chS) = _
    rw [h, show ("" : Str) = sgS [] from by decide +kernel, show chS b = sgS [b] from rfl, sg_app, sg_app]
    rfl
theorem join_sgT (bs : List Int) : Txt.join "" (bs.map chS) = sgS bs := by
  show Builtin.Str.glued "" (bs.map chS) = _
  rw [StrLaws.glued_eq_join, join_sg]
theorem signs_sg (bs : List Int) : PyProof.Rows.signs (sgS bs) = bs.map chS := by
  show ((bs.map chN).toArray.toList).map (fun n => (⟨#[n]⟩ : Str)) = _
  rw [List.toList_toArray, List.map_map]
  rfl
theorem sg_sum : ∀ bs : List Int, ((bs.map chS).map (·.length)).sum = bs.length
  | [] => rfl
  | b :: bs => by
    show 1 + ((bs.map chS).map (·.length)).sum = _
    rw [sg_sum bs, List.length_cons]
    omega
theorem mt_joinSg {X : Cx} (hc : X.calm = true) : MtR X "str.join" (rJoinSg X.K) := by
  intro pins s σ H x xs v us Q I rx rs h
  obtain ⟨rfl, bs, hl, hx, q⟩ := h
  have e0 : ("" : Str).length = 0 := by decide +kernel
  have sm := sg_sum bs
  have hz : ((bs.map chS).map (·.length)).sum + (bs.map chS).length * ("" : Str).length ≤ 16777216 := by
    rw [sm, e0]
    omega
  have q' : Q (.str (Txt.join "" (bs.map chS))) H := by
    rw [join_sgT]
    exact q
  have ev : chV bs = (bs.map chS).map V.str := by
    unfold chV
    rw [List.map_map]
    rfl
  rcases hx with rfl | ⟨p, rfl, hp⟩ | ⟨p, rfl, hp⟩
  · obtain ⟨t, rfl⟩ := rx
    cases rs with
    | cons r1 rs =>
      cases rs
      obtain ⟨t2, rfl⟩ := r1
      refine SC.joinStr (I.ok.hd hc) (joinOk_signsN (N := 64) (S := 0) (by rw [sgS_len]; exact hl) (by rw [e0]; exact Nat.le_refl _) (by decide)) fun h' k t' hk => ⟨.str _, H, I.kept hk, ⟨t', rfl⟩, ?_⟩
      rw [signs_sg]
      exact q'
  · exact mt_join pins s σ H _ _ v us Q I rx rs ⟨"", p, bs.map chS, rfl, rfl, .inr (by rw [← ev]; exact hp), hz, q'⟩
  · exact mt_join pins s σ H _ _ v us Q I rx rs ⟨"", p, bs.map chS, rfl, rfl, .inl (by rw [← ev]; exact hp), hz, q'⟩
/-! ### letters in order -/
def Zo (bs : List Int) : Prop := ∀ v ∈ bs, v = 0 ∨ v = 1
def unS (x : Str) : Int := if x = chS 1 then 1 else 0
theorem un_ch {v : Int} (h : v = 0 ∨ v = 1) : unS (chS v) = v := by
  rcases h with rfl | rfl <;> decide +kernel
theorem ch_un {x : Str} (h : x = chS 0 ∨ x = chS 1) : chS (unS x) = x := by
  rcases h with rfl | rfl <;> decide +kernel
theorem rising_le : ∀ {ys : List Str} {p : Str}, (∀ x ∈ p :: ys, x = chS 0 ∨ x = chS 1) → risingS p ys = true → ((p :: ys).map unS).Pairwise (· ≤ ·)
  | [], p, _, _ => by simp
  | y :: ys, p, hm, h => by
    have h' : (!ltCps y.cps.toList p.cps.toList && risingS y ys) = true := h
    rw [Bool.and_eq_true] at h'
    have ih := rising_le (fun x hx => hm x (List.mem_cons_of_mem _ hx)) h'.2
    have hp := hm p List.mem_cons_self
    have hy := hm y (List.mem_cons_of_mem _ List.mem_cons_self)
    have le : unS p ≤ unS y := by
      rcases hp with rfl | rfl <;> rcases hy with rfl | rfl
      · decide +kernel
      · decide +kernel
      · exact absurd h'.1 (by decide +kernel)
      · decide +kernel
    rw [List.map_cons, List.pairwise_cons]
    refine ⟨fun z hz => ?_, ih⟩
    have ih2 := List.pairwise_cons.mp (by rw [List.map_cons] at ih; exact ih)
    rw [List.map_cons] at hz
    rcases List.mem_cons.mp hz with e | e
    · omega
    · have := ih2.1 z e
      omega
theorem sortedS_ch {bs : List Int} (hz : Zo bs) {ys : List Str} (p : ys.Perm (bs.map chS)) (h : sortedS ys = true) : ys = (sortI bs).map chS := by
  have hm : ∀ x ∈ ys, x = chS 0 ∨ x = chS 1 := fun x hx => by
    obtain ⟨v, hv, rfl⟩ := List.mem_map.mp (p.mem_iff.mp hx)
    rcases hz v hv with rfl | rfl
    · exact .inl rfl
    · exact .inr rfl
  have e1 : (ys.map unS).map chS = ys := by
    rw [List.map_map]
    conv => rhs; rw [← List.map_id ys]
    exact List.map_congr_left fun x hx => ch_un (hm x hx)
  have p1 : (ys.map unS).Perm bs := by
    have := p.map unS
    rw [List.map_map] at this
    have e : bs.map (unS ∘ chS) = bs := by
      conv => rhs; rw [← List.map_id bs]
      exact List.map_congr_left fun v hv => un_ch (hz v hv)
    rw [e] at this
    exact this
  have a1 : (ys.map unS).Pairwise (· ≤ ·) := by
    cases ys with
    | nil => exact List.Pairwise.nil
    | cons y ys => exact rising_le hm h
  rw [← e1, sortI_eq p1 a1]
theorem Zo.perm {a b : List Int} (h : Zo a) (p : b.Perm a) : Zo b := fun v hv => h v (p.mem_iff.mp hv)
theorem srt_Zo {b : Bool} {cs : List Cell} {bs : List Int} (hl : bs.length = cs.length) (h : Zo bs) : Zo (srt b cs bs) := h.perm (srt_perm hl)
theorem aft_Zo {cs : List Cell} (w : List Bool) {bs : List Int} (hl : bs.length = cs.length) (h : Zo bs) : Zo (aft cs w bs) := h.perm (aft_perm w hl)
/-- 1 for each value of at least the limit -/
def sg (e : Int) (v : Int) : Int := if e ≤ v then 1 else 0
theorem sg_mono (e : Int) : ∀ a b, a ≤ b → sg e a ≤ sg e b := fun a b h => by
  unfold sg
  split <;> split <;> omega
theorem sg_Zo (e : Int) (vs : List Int) : Zo (vs.map (sg e)) := fun v hv => by
  obtain ⟨u, _, rfl⟩ := List.mem_map.mp hv
  unfold sg
  split
  · exact .inr rfl
  · exact .inl rfl
theorem aft_sg {cs : List Cell} (w : List Bool) {vs : List Int} (hv : vs.length = cs.length) (e : Int) : aft cs w (vs.map (sg e)) = (aft cs w vs).map (sg e) := aft_map (sg_mono e) w hv
/-- a tuple of letters, or a text of letters -/
def SgAt (K : PySem.W.Frag) (H : Hp) (x : V) (bs : List Int) : Prop := x = .str (sgS bs) ∨ ∃ t, x = .ref t ∧ SqT K H t (chV bs)
theorem SgAt.kt {K : PySem.W.Frag} {H H' : Hp} {x : V} {bs : List Int} (k : KT K H H') (h : SgAt K H x bs) : SgAt K H' x bs := by
  rcases h with h | ⟨t, e, h⟩
  · exact .inl h
  · exact .inr ⟨t, e, k _ _ h⟩
theorem sg_at {bs : List Int} {j : Nat} (h : j < bs.length) : (chV bs)[j]? = some (.str (chS (getI bs (j : Int)))) := by
  unfold chV getI
  rw [List.getElem?_map, Int.toNat_natCast, List.getD_eq_getElem?_getD, List.getElem?_eq_getElem h]
  rfl
theorem sg_ix {K : PySem.W.Frag} {H : Hp} {x : V} {bs : List Int} {j : Nat} {Q : VK} (h : SgAt K H x bs) (hj : j < bs.length) (hl : bs.length ≤ 64) (k : Q (.str (chS (getI bs (j : Int)))) H) : rIxTS K x (.int (j : Nat)) H Q := by
  rcases h with rfl | ⟨t, rfl, ht⟩
  · refine .inr ⟨_, _, chN (getI bs (j : Int)), rfl, rfl, by rw [sgS_len, sizeLine_eq]; omega, ?_, k⟩
    refine atI_nat ?_
    show (bs.map chN).toArray.toList[j]? = _
    unfold getI
    rw [List.toList_toArray, List.getElem?_map, Int.toNat_natCast, List.getD_eq_getElem?_getD, List.getElem?_eq_getElem hj]
    rfl
  · exact .inl ⟨t, _, _, _, rfl, rfl, ht, atI_nat (sg_at hj), k⟩
def spLSortedG (K : PySem.W.Frag) : Sp := fun xs H Q _ => ∃ (a : Addr) (x : V) (b : Bool) (cs : List Cell) (bs : List Int), xs = [.ref a, x, .str (if b = true then "C" else "R")] ∧ PlanAt K H a cs ∧ cs.length ≤ 24 ∧
  SgAt K H x bs ∧ bs.length = cs.length ∧ Zo bs ∧ ∀ H' u, Same H H' → SqT K H' u (chV (srt b cs bs)) → Q (.ref u) H'
def spLAfterG (K : PySem.W.Frag) : Sp := fun xs H Q _ => ∃ (a : Addr) (x : V) (w : List Bool) (cs : List Cell) (bs : List Int), xs = [.ref a, x, .str (wS w)] ∧ PlanAt K H a cs ∧ cs.length ≤ 24 ∧
  SgAt K H x bs ∧ bs.length = cs.length ∧ Zo bs ∧ ∀ H' u, Same H H' → SgAt K H' u (aft cs w bs) → Q u H'
def spSigns (K : PySem.W.Frag) : Sp := fun xs H Q _ => ∃ (a t : Addr) (e : Int) (cs : List Cell) (vs : List Int), xs = [.ref a, .ref t, .int e] ∧ PlanAt K H a cs ∧ Good cs ∧ cs.length ≤ 24 ∧
  SqT K H t (vs.map V.int) ∧ Vals9 cs.length vs ∧ ∀ H', Same H H' → Q (.str (sgS (vs.map (sg e)))) H'
theorem asg_listSg {K : PySem.W.Frag} {i j : Nat} {σ : L2.St} {H : Hp} {D : Ends} {x : V} {bs : List Int} (h1 : σ[i]? = some (some x)) (h : SgAt K H x bs) (hl : bs.length ≤ 64)
    (k : ∀ o, H o = none → D.nx (σ.set j (some (.ref o))) (upd H o (.lst (chV bs)))) : tAsg (tCB (rListSg K) (tCons (tVar i) tNil)) (gName j) D σ H := by
  rcases h with rfl | ⟨t, rfl, ht⟩
  · exact ⟨_, h1, .inr ⟨bs, rfl, hl, k⟩⟩
  · exact ⟨_, h1, .inl ⟨t, _, rfl, ht, k⟩⟩
theorem join_at {K : PySem.W.Frag} {H : Hp} {x : V} {bs : List Int} {Q : VK} (h : SgAt K H x bs) (hl : bs.length ≤ 64) (k : Q (.str (sgS bs)) H) : rJoinSg K (.str "") [x] H Q := by
  refine ⟨rfl, bs, hl, ?_, k⟩
  rcases h with rfl | ⟨t, rfl, ht⟩
  · exact .inl rfl
  · exact .inr (.inl ⟨t, rfl, ht⟩)
end KS
namespace KS
open PySem PySem.Spec PyProof.Rows L2
abbrev sSigns : Stmt := topS 46
abbrev nSigns : List Str := ["plan", "filling", "limit", "value"]
theorem scSigns : FnScope nSigns ["plan", "filling", "limit"] (defScope sSigns) := ⟨rfl, rfl, rfl, by decide +kernel, rfl, by decide +kernel, by decide +kernel⟩
section
variable {P : Program} {w : World} {K : PySem.W.Frag} {mg : Str → Option Value} {base : Heap}
theorem ok_signs {f fC fF fW : Addr} {fd fdC fdF fdW : FuncData} (F : Fun K "signs" "signs" sSigns f fd)
    (GC : FnOk P w K mg base CX0 5 fC fdC ["plan"] (spCheck K)) (bC : Binds K fdC ["plan"] []) (gC : mg "check_plan" = some (.ref fC)) (kC : PySem.W.keepIn K (.ref fC) = true)
    (GF : FnOk P w K mg base CX0 4 fF fdF ["size", "filling"] (spCheckF K)) (bF : Binds K fdF ["size", "filling"] []) (gF : mg "check_filling" = some (.ref fF)) (kF : PySem.W.keepIn K (.ref fF) = true)
    (GW : FnOk P w K mg base CX0 1 fW fdW ["value"] spWhole) (bW : Binds K fdW ["value"] []) (gW : mg "is_whole" = some (.ref fW)) (kW : PySem.W.keepIn K (.ref fW) = true)
    (ml : mg "len" = none) : FnOk P w K mg base CX0 6 f fd ["plan", "filling", "limit"] (spSigns K) := by
  refine F.ok scSigns (fun vs H Q E h => ?_) (fun cdv A outer s H vs Q E hr h => ?_)
  · obtain ⟨a, t, e, cs, vs, rfl, _⟩ := h
    rfl
  · obtain ⟨a, t, ed, cs, vs, rfl, hp, gd, hl, ht, v9, q⟩ := h
    have nd := scSigns.nd
    refine ⟨_, pss_cons (ps_expr (pe_call GC hr (by rfl) gC kC bC .nil pass0 (pa_cons (pv 0) pa_nil)))
      (pss_cons (ps_expr (pe_call GF (hr.mono (by decide)) (by rfl) gF kF bF .nil pass0 (pa_cons (pe_callB call_len_seq (by rfl) ml PySem.boot_len (pa_cons (pv 0) pa_nil)) (pa_cons (pv 1) pa_nil))))
      (pss_cons (ps_if (pt_not (pt_val (pe_call GW (hr.mono (by decide)) (by rfl) gW kW bW .nil pass0 (pa_cons (pv 2) pa_nil)))) (pss_one ps_never) pss_nil)
      (pss_one (ps_ret (pe_m1 PySem.F.slot_str_join PySem.F.type_str_join (mt_joinSg rfl) pe_str
        (pe_lc (own := [("value", 3)]) (g := gName 3) (tt := tYes) rfl nd (pi_tup (pv 1)) (blkOk_by (N := nSigns) (sc := defScope sSigns) (by decide +kernel))
          (fun _ _ _ _ _ => pg_name (i := 3) nd rfl (Or.inl rfl)) (fun _ _ _ _ _ => pts_nil)
          (fun _ _ _ _ _ => pe_ifExp (pt_cmpR op_ge (pv 3) (pv 2) (nomark _)) pe_str pe_str))))))), ?_⟩
    obtain ⟨xs, hx, hc⟩ := id hp
    have hlen := Paired.length hc
    have vlen := v9.len
    refine ⟨_, rfl, a, cs, rfl, hp, gd, hl, fun H1 s1 => ?_⟩
    refine ⟨_, rfl, a, xs, rfl, .inr (same_seqT s1 hx), _, rfl, xs.length, t, vs, rfl, same_seqT s1 ht, by rw [hlen]; exact v9, by omega, fun H2 s2 => ?_⟩
    have s12 := s1.trans s2
    refine ⟨_, rfl, ed, rfl, true, rfl, ?_⟩
    refine ⟨⟨_, rfl⟩, _, rfl, t, rfl, ⟨_, same_seqT s12 ht⟩, fun D nD => ?_⟩
    refine lc_tup (K := K) (a := t) (xs := vs.map V.int) (fun j G => G = upd H2 D (.lst (chV ((vs.take j).map (sg ed))))) ?_ ?_ ?_ ?_
    · rfl
    · rintro j G _ rfl
      exact same_seqT (s12.trans (same_new nD)) ht
    · rintro j x G hj rfl
      rw [List.getElem?_map] at hj
      cases ev : vs[j]? with
      | none =>
        rw [ev] at hj
        cases hj
      | some v =>
        rw [ev] at hj
        cases hj
        have hjl := (List.getElem?_eq_some_iff.mp ev).1
        have fin : ∀ x : V, x = .str (chS (sg ed v)) → ∃ acc, upd H2 D (.lst (chV ((vs.take j).map (sg ed)))) D = some (.lst acc) ∧ acc.length < sizeLine ∧ upd (upd H2 D (.lst (chV ((vs.take j).map (sg ed))))) D (.lst (acc ++ [x])) = upd H2 D (.lst (chV ((vs.take (j + 1)).map (sg ed)))) := fun x e => by
          subst e
          refine ⟨_, upd_same, ?_, ?_⟩
          · unfold chV
            rw [List.length_map, List.length_map, List.length_take]
            exact small64 (by omega)
          · rw [upd_upd, List.take_add_one, ev, List.map_append]
            unfold chV
            rw [List.map_append]
            rfl
        refine ⟨rfl, _, rfl, _, rfl, _, _, rfl, rfl, _, rfl, ite2 (fun c => ?_) (fun c => ?_)⟩
        · have c' : v ≥ ed := of_decide_eq_true c
          refine fin _ ?_
          unfold sg
          rw [if_pos c']
          decide +kernel
        · have c' : ¬ v ≥ ed := fun z => c (decide_eq_true z)
          refine fin _ ?_
          unfold sg
          rw [if_neg c']
          decide +kernel
    · rintro G rfl
      rw [List.length_map, List.take_length]
      refine ⟨rfl, vs.map (sg ed), by rw [List.length_map]; omega, .inr (.inr ⟨D, rfl, SqL.of upd_same⟩), ?_⟩
      exact q _ (s12.trans (same_new nD))
end
end KS
namespace KS
open PySem PySem.Spec PyProof.Rows L2 RZ
abbrev sSortLines : Stmt := topS 52
theorem scSortLines : FnScope ["plan", "filling", "kind"] ["plan", "filling", "kind"] (defScope sSortLines) := ⟨rfl, rfl, rfl, by decide +kernel, rfl, by decide +kernel, by decide +kernel⟩
section
variable {P : Program} {w : World} {K : PySem.W.Frag} {mg : Str → Option Value} {base : Heap}
theorem ok_sortLines {f fC fF fL fA : Addr} {fd fdC fdF fdL fdA : FuncData} (F : Fun K "sort_lines" "sort_lines" sSortLines f fd)
    (GC : FnOk P w K mg base CX0 5 fC fdC ["plan"] (spCheck K)) (bC : Binds K fdC ["plan"] []) (gC : mg "check_plan" = some (.ref fC)) (kC : PySem.W.keepIn K (.ref fC) = true)
    (GF : FnOk P w K mg base CX0 4 fF fdF ["size", "filling"] (spCheckF K)) (bF : Binds K fdF ["size", "filling"] []) (gF : mg "check_filling" = some (.ref fF)) (kF : PySem.W.keepIn K (.ref fF) = true)
    (GL : FnOk P w K mg base CX0 6 fL fdL ["plan", "kind"] (spLines K)) (bL : Binds K fdL ["plan", "kind"] []) (gL : mg "lines" = some (.ref fL)) (kL : PySem.W.keepIn K (.ref fL) = true)
    (GA : FnOk P w K mg base CX0 1 fA fdA ["groups", "filling"] (spAlong K)) (bA : Binds K fdA ["groups", "filling"] []) (gA : mg "sorted_along" = some (.ref fA)) (kA : PySem.W.keepIn K (.ref fA) = true)
    (ml : mg "len" = none) : FnOk P w K mg base CX0 7 f fd ["plan", "filling", "kind"] (spSortL K) := by
  refine F.ok scSortLines (fun vs H Q E h => ?_) (fun cdv A outer s H vs Q E hr h => ?_)
  · obtain ⟨a, t, b, cs, vs, rfl, _⟩ := h
    rfl
  · obtain ⟨a, t, b, cs, vs, rfl, hp, gd, hl, ht, v9, q⟩ := h
    refine ⟨_, pss_cons (ps_expr (pe_call GC (hr.mono (by decide)) (by rfl) gC kC bC .nil pass0 (pa_cons (pv 0) pa_nil)))
      (pss_cons (ps_expr (pe_call GF (hr.mono (by decide)) (by rfl) gF kF bF .nil pass0 (pa_cons (pe_callB call_len_seq (by rfl) ml PySem.boot_len (pa_cons (pv 0) pa_nil)) (pa_cons (pv 1) pa_nil))))
      (pss_one (ps_ret (pe_call GA (hr.mono (by decide)) (by rfl) gA kA bA .nil pass0 (pa_cons (pe_call GL hr (by rfl) gL kL bL .nil pass0 (pa_cons (pv 0) (pa_cons (pv 2) pa_nil))) (pa_cons (pv 1) pa_nil)))))), ?_⟩
    obtain ⟨xs, hx, hc⟩ := id hp
    have hlen := Paired.length hc
    refine ⟨_, rfl, a, cs, rfl, hp, gd, hl, fun H1 s1 => ?_⟩
    refine ⟨_, rfl, a, xs, rfl, .inr (same_seqT s1 hx), _, rfl, xs.length, t, vs, rfl, same_seqT s1 ht, by rw [hlen]; exact v9, by omega, fun H2 s2 => ?_⟩
    have s12 := s1.trans s2
    refine ⟨_, rfl, _, rfl, a, b, cs, rfl, hp.kt (.of_same s12), gd, hl, fun H3 p ys s3 hp3 hy => ?_⟩
    refine ⟨_, rfl, p, t, ys, _, vs, rfl, hp3, hy, lns_ok hl v9.len, same_seqT (s12.trans s3) ht, fun H4 u s4 hu _ => ?_⟩
    exact q H4 u ((s12.trans s3).trans s4) hu
end
end KS
namespace KS
open PySem PySem.Spec PyProof.Rows L2 RZ
abbrev sIsSorted : Stmt := topS 54
theorem scIsSorted : FnScope ["plan", "filling", "kind"] ["plan", "filling", "kind"] (defScope sIsSorted) := ⟨rfl, rfl, rfl, by decide +kernel, rfl, by decide +kernel, by decide +kernel⟩
section
variable {P : Program} {w : World} {K : PySem.W.Frag} {mg : Str → Option Value} {base : Heap}
theorem ok_isSorted {f fS : Addr} {fd fdS : FuncData} (F : Fun K "is_sorted" "is_sorted" sIsSorted f fd)
    (GS : FnOk P w K mg base CX0 7 fS fdS ["plan", "filling", "kind"] (spSortL K)) (bS : Binds K fdS ["plan", "filling", "kind"] []) (gS : mg "sort_lines" = some (.ref fS)) (kS : PySem.W.keepIn K (.ref fS) = true) :
    FnOk P w K mg base CX0 8 f fd ["plan", "filling", "kind"] (spIsSorted K) := by
  refine F.ok scIsSorted (fun vs H Q E h => ?_) (fun cdv A outer s H vs Q E hr h => ?_)
  · obtain ⟨a, t, b, cs, vs, rfl, _⟩ := h
    rfl
  · obtain ⟨a, t, b, cs, vs, rfl, hp, gd, hl, ht, v9, q⟩ := h
    refine ⟨_, pss_one (ps_ret (pe_cmpR (op_eqD hr.units) (pe_call GS hr (by rfl) gS kS bS .nil pass0 (pa_cons (pv 0) (pa_cons (pv 1) (pa_cons (pv 2) pa_nil)))) (pv 1) (nomark _))), ?_⟩
    refine ⟨_, rfl, _, rfl, _, rfl, a, t, b, cs, vs, rfl, hp, gd, hl, ht, v9, fun H1 u s1 hu => ?_⟩
    refine ⟨_, rfl, _, _, .tup hu (dp_ints _), .tup (same_seqT s1 ht) (dp_ints _), line_shaped _, line_shaped _, ?_⟩
    rw [ints_eqvT, fix_rises v9.len]
    exact q H1 s1
end
end KS
namespace KS
open PySem PySem.Spec PyProof.Rows L2 RZ
abbrev sSettled : Stmt := topS 55
abbrev sOther : Stmt := topS 50
abbrev sRestP : Stmt := topS 56
theorem scSettled : FnScope ["plan", "filling"] ["plan", "filling"] (defScope sSettled) := ⟨rfl, rfl, rfl, by decide +kernel, rfl, by decide +kernel, by decide +kernel⟩
theorem scOther : FnScope ["kind"] ["kind"] (defScope sOther) := ⟨rfl, rfl, rfl, by decide +kernel, rfl, by decide +kernel, by decide +kernel⟩
theorem scRestP : FnScope ["plan", "filling", "kind", "count", "result", "coming"] ["plan", "filling", "kind"] (defScope sRestP) := ⟨rfl, rfl, rfl, by decide +kernel, rfl, by decide +kernel, by decide +kernel⟩
section
variable {P : Program} {w : World} {K : PySem.W.Frag} {mg : Str → Option Value} {base : Heap}
theorem ok_settled {f fS : Addr} {fd fdS : FuncData} (F : Fun K "is_settled_table" "is_settled_table" sSettled f fd)
    (GS : FnOk P w K mg base CX0 8 fS fdS ["plan", "filling", "kind"] (spIsSorted K)) (bS : Binds K fdS ["plan", "filling", "kind"] []) (gS : mg "is_sorted" = some (.ref fS)) (kS : PySem.W.keepIn K (.ref fS) = true) :
    FnOk P w K mg base CX0 9 f fd ["plan", "filling"] (spSettled K) := by
  refine F.ok scSettled (fun vs H Q E h => ?_) (fun cdv A outer s H vs Q E hr h => ?_)
  · obtain ⟨a, t, cs, vs, rfl, _⟩ := h
    rfl
  · obtain ⟨a, t, cs, vs, rfl, hp, gd, hl, ht, v9, q⟩ := h
    refine ⟨_, pss_one (ps_ret (pe_and (pe_call GS hr (by rfl) gS kS bS .nil pass0 (pa_cons (pv 0) (pa_cons (pv 1) (pa_cons pe_str pa_nil)))) (pe_one (pe_call GS hr (by rfl) gS kS bS .nil pass0 (pa_cons (pv 0) (pa_cons (pv 1) (pa_cons pe_str pa_nil))))))), ?_⟩
    refine ⟨_, rfl, _, rfl, a, t, false, cs, vs, rfl, hp, gd, hl, ht, v9, fun H1 s1 => ⟨_, rfl, ?_⟩⟩
    refine ite2 (fun e => ?_) (fun e => ?_)
    · refine ⟨_, rfl, _, rfl, a, t, true, cs, vs, rfl, hp.kt (.of_same s1), gd, hl, same_seqT s1 ht, v9, fun H2 s2 => ?_⟩
      have z := q H2 (s1.trans s2)
      unfold settled at z
      rw [e, Bool.true_and] at z
      exact z
    · have z := q H1 s1
      have e' : rises false cs vs = false := by simpa using e
      unfold settled at z
      rw [e', Bool.false_and] at z
      exact z
theorem ok_other {f : Addr} {fd : FuncData} (F : Fun K "other_kind" "other_kind" sOther f fd) : FnOk P w K mg base CX0 1 f fd ["kind"] spOther := by
  refine F.ok scOther (fun vs H Q E h => ?_) (fun cdv A outer s H vs Q E hr h => ?_)
  · obtain ⟨b, rfl, _⟩ := h
    rfl
  · obtain ⟨b, rfl, q⟩ := h
    refine ⟨_, pss_one (ps_ret (pe_ifExp (pt_cmpR op_eq (pv 0) pe_str (nomark _)) pe_str pe_str)), ?_⟩
    refine ⟨_, rfl, by cases b <;> rfl, _, rfl, ?_⟩
    cases b
    · rw [if_pos (by decide +kernel)]
      exact q
    · rw [if_neg (by decide +kernel)]
      exact q
theorem ok_restP {f fC fF fK fT fS fO : Addr} {fd fdC fdF fdK fdT fdS fdO : FuncData} (F : Fun K "rest" "rest" sRestP f fd)
    (GC : FnOk P w K mg base CX0 5 fC fdC ["plan"] (spCheck K)) (bC : Binds K fdC ["plan"] []) (gC : mg "check_plan" = some (.ref fC)) (kC : PySem.W.keepIn K (.ref fC) = true)
    (GF : FnOk P w K mg base CX0 4 fF fdF ["size", "filling"] (spCheckF K)) (bF : Binds K fdF ["size", "filling"] []) (gF : mg "check_filling" = some (.ref fF)) (kF : PySem.W.keepIn K (.ref fF) = true)
    (GK : FnOk P w K mg base CX0 2 fK fdK ["kind"] spKind) (bK : Binds K fdK ["kind"] []) (gK : mg "check_kind" = some (.ref fK)) (kK : PySem.W.keepIn K (.ref fK) = true)
    (GT : FnOk P w K mg base CX0 9 fT fdT ["plan", "filling"] (spSettled K)) (bT : Binds K fdT ["plan", "filling"] []) (gT : mg "is_settled_table" = some (.ref fT)) (kT : PySem.W.keepIn K (.ref fT) = true)
    (GS : FnOk P w K mg base CX0 7 fS fdS ["plan", "filling", "kind"] (spSortL K)) (bS : Binds K fdS ["plan", "filling", "kind"] []) (gS : mg "sort_lines" = some (.ref fS)) (kS : PySem.W.keepIn K (.ref fS) = true)
    (GO : FnOk P w K mg base CX0 1 fO fdO ["kind"] spOther) (bO : Binds K fdO ["kind"] []) (gO : mg "other_kind" = some (.ref fO)) (kO : PySem.W.keepIn K (.ref fO) = true)
    (ml : mg "len" = none) : FnOk P w K mg base CX0 10 f fd ["plan", "filling", "kind"] (spRestP K) := by
  refine F.ok scRestP (fun vs H Q E h => ?_) (fun cdv A outer s H vs Q E hr h => ?_)
  · obtain ⟨a, t, b, cs, vs, rfl, _⟩ := h
    rfl
  · obtain ⟨a, t, b, cs, vs, rfl, hp, gd, hl, ht, v9, q⟩ := h
    have nd := scRestP.nd
    refine ⟨_, pss_cons (ps_expr (pe_call GC (hr.mono (by decide)) (by rfl) gC kC bC .nil pass0 (pa_cons (pv 0) pa_nil)))
      (pss_cons (ps_expr (pe_call GF (hr.mono (by decide)) (by rfl) gF kF bF .nil pass0 (pa_cons (pe_callB call_len_seq (by rfl) ml PySem.boot_len (pa_cons (pv 0) pa_nil)) (pa_cons (pv 1) pa_nil))))
      (pss_cons (ps_expr (pe_call GK (hr.mono (by decide)) (by rfl) gK kK bK .nil pass0 (pa_cons (pv 2) pa_nil)))
      (pss_cons (ps_set (i := 3) nd rfl (.inl rfl) pe_int)
      (pss_cons (ps_set (i := 4) nd rfl (.inl rfl) (pv 1))
      (pss_cons (ps_set (i := 5) nd rfl (.inl rfl) (pv 2))
      (pss_cons (ps_while PassesOwn.never (pt_not (pt_val (pe_call GT hr (by rfl) gT kT bT .nil pass0 (pa_cons (pv 0) (pa_cons (pv 4) pa_nil)))))
        (pss_cons (ps_set (i := 4) nd rfl (.inl rfl) (pe_call GS (hr.mono (by decide)) (by rfl) gS kS bS .nil pass0 (pa_cons (pv 0) (pa_cons (pv 4) (pa_cons (pv 5) pa_nil)))))
        (pss_cons (ps_set (i := 5) nd rfl (.inl rfl) (pe_call GO (hr.mono (by decide)) (by rfl) gO kO bO .nil pass0 (pa_cons (pv 5) pa_nil)))
        (pss_one (ps_aug (i := 3) nd rfl (.inl rfl) pe_int ip_add)))))
      (pss_one (ps_ret (pe_tup (pa_cons (pv 3) (pa_cons (pv 4) pa_nil))))))))))), ?_⟩
    obtain ⟨xs, hx, hc⟩ := id hp
    have hlen := Paired.length hc
    refine ⟨_, rfl, a, cs, rfl, hp, gd, hl, fun H1 s1 => ?_⟩
    refine ⟨_, rfl, a, xs, rfl, .inr (same_seqT s1 hx), _, rfl, xs.length, t, vs, rfl, same_seqT s1 ht, by rw [hlen]; exact v9, by omega, fun H2 s2 => ?_⟩
    refine ⟨_, rfl, b, rfl, fun H3 s3 => ?_⟩
    have s13 := (s1.trans s2).trans s3
    refine ⟨_, rfl, _, rfl, ?_⟩
    refine ⟨fun fu σ G => ∃ (n : Nat) (u : Addr), σ = [some (.ref a), some (.ref t), some (.str (if b = true then "C" else "R")), some (.int (n : Nat)), some (.ref u), some (.str (if kindAt b n = true then "C" else "R"))] ∧ Same H G ∧ SqT K G u ((stat cs b vs n).map V.int) ∧
      (∀ m, m < n → settled cs (stat cs b vs m) = false) ∧ fu = fuel cs (kindAt b n) (stat cs b vs n), ?_, ?_⟩
    · exact ⟨_, 0, t, rfl, s13, same_seqT s13 ht, fun m hm => absurd hm (Nat.not_lt_zero _), rfl⟩
    · rintro fu σ G ⟨n, u, rfl, sG, hu, least, rfl⟩
      have hsl : (stat cs b vs n).length = cs.length := by rw [stat_len, v9.len]
      have h9 : Vals9 cs.length (stat cs b vs n) := aft9 _ v9
      refine ⟨_, rfl, _, rfl, a, u, cs, _, rfl, hp.kt (.of_same sG), gd, hl, hu, h9, fun G1 g1 => ?_⟩
      refine ⟨_, rfl, ?_⟩
      cases est : settled cs (stat cs b vs n) with
      | false =>
        refine iteT ?_
        refine ⟨fun σ' G' => ∃ m', m' < fuel cs (kindAt b n) (stat cs b vs n) ∧ ∃ (n : Nat) (u : Addr), σ' = [some (.ref a), some (.ref t), some (.str (if b = true then "C" else "R")), some (.int (n : Nat)), some (.ref u), some (.str (if kindAt b n = true then "C" else "R"))] ∧ Same H G' ∧ SqT K G' u ((stat cs b vs n).map V.int) ∧
          (∀ m, m < n → settled cs (stat cs b vs m) = false) ∧ m' = fuel cs (kindAt b n) (stat cs b vs n), fun σ' G' z => z, ?_⟩
        refine ⟨_, rfl, _, rfl, _, rfl, a, u, kindAt b n, cs, _, rfl, hp.kt (.of_same (sG.trans g1)), gd, hl, same_seqT g1 hu, h9, fun G2 u' g2 hu2 => ?_⟩
        refine ⟨_, rfl, kindAt b n, rfl, ?_⟩
        refine ⟨_, rfl, _, _, rfl, rfl, ?_⟩
        refine ⟨_, fuel_lt hsl est, n + 1, u', ?_, (sG.trans g1).trans g2, ?_, fun m hm => ?_, ?_⟩
        · rw [kindAt_succ]
          rfl
        · rw [stat_succ]
          exact hu2
        · by_cases c : m = n
          · rw [c]
            exact est
          · exact least m (by omega)
        · rw [kindAt_succ, stat_succ]
      | true =>
        refine iteF ?_
        refine ⟨_, rfl, _, rfl, (by show 2 ≤ sizeLine; decide), fun r nr => ?_⟩
        have sr := same_new (o := .tup [.int (n : Nat), .ref u]) nr
        exact q _ r u n ((sG.trans g1).trans sr) (SqT.of upd_same) (same_seqT (g1.trans sr) hu) ⟨est, least⟩
end
end KS
namespace KS
open PySem PySem.Spec PyProof.Rows L2
/-! ### enumerate(z), z a text -/
def IteS (z : Str) : It where
  go := fun i _ => i < z.cps.size
  yld := fun i H v H' => ∃ (T : Addr) (c : Nat), v = .ref T ∧ H T = none ∧ z.cps[i]? = some c ∧ H' = upd H T (.tup [.int (i : Nat), .str ⟨#[c]⟩])
  stop := fun i _ => i = z.cps.size
def EnS (z : Str) (t : Tok) (e it : Addr) (i : Nat) (h : Heap) : Prop := (∃ old, IsEnum h e it ((i : Nat) : Int) old) ∧ h.IsStrIter it (strIterType z) z t i ∧ e ≠ it
theorem mem2 {b e it : Addr} (h : b ∈ [e, it]) : b = e ∨ b = it := by simpa using h
theorem strIter_at {h h' : Heap} {a : Addr} {ty : String} {x : Str} {t : Tok} {i : Nat} (y : h.IsStrIter a ty x t i) (k : ∀ o, h.get? a = some o → h'.get? a = some o) : h'.IsStrIter a ty x t i := by
  obtain ⟨o, ho, r⟩ := y
  exact ⟨o, k o ho, r⟩
theorem ens_obj {z : Str} {t : Tok} {e it b : Addr} {i : Nat} {h : Heap} (st : EnS z t e it i h) (hb : b ∈ [e, it]) : ∃ o, h.get? b = some o ∧ ∀ v, o.data ≠ .cell v := by
  obtain ⟨⟨old, q1⟩, ⟨o, q2, _, d⟩, _⟩ := st
  rcases mem2 hb with r | r <;> subst r
  · exact ⟨_, q1, fun v w => nomatch w⟩
  · exact ⟨o, q2, fun v w => by rw [d] at w; cases w⟩
theorem turn_enumS {P : Program} {w : World} {K : PySem.W.Frag} {elts : List Expr} {kk : Nat} {tpos : Pos} (z : Str) (t : Tok) (e it : Addr) : Turn P w K (.Tuple elts kk tpos) (IteS z) [e, it] e (EnS z t e it) where
  mem := List.mem_cons_self
  obj := fun i h st b hb => ens_obj st hb
  keep := fun i h h' st k => ⟨st.1.elim fun old q => ⟨old, k e (by simp) _ q⟩, strIter_at st.2.1 fun o q => k it (by simp) o q, st.2.2⟩
  self := fun A i s Q E st h => st.1.elim fun old q => wpAny_pyIter_enum q h
  item := by
    intro X hP hw hK hc i pins s σ H E I hf st hg
    subst hP hw hK
    have st0 := st
    obtain ⟨⟨old, q1⟩, q2, ne⟩ := st
    have hh : X.A.in1.handled = none := I.ok.hd hc
    have el : e < s.heap.objs.size := Heap.lt_size q1
    refine wpAny_pyNext_enum_itemD (Draws.text hh it z t) q1 q2 hg ne (by simp [ne]) fun u h1 tk hu ho hst hT sz kp => ?_
    obtain ⟨c, tu, hcx, rfl⟩ := hu
    refine ⟨_, rfl, wpAny_letOwnedTupleGo_enum (s := { s with heap := h1, toks := tk + 1 }) ho fun h2 e2 sb => ?_⟩
    have hT2 : h2.get? s.heap.objs.size = some { cls := .type "tuple", data := .seq #[.int i tk, .str ⟨#[c]⟩ tu] } := (sb.2 _ (Nat.ne_of_gt el)).trans hT
    have nw : ObjOk X.prog X.w (upd H s.heap.objs.size (.tup [.int (i : Nat), .str ⟨#[c]⟩])) h2 s.heap.objs.size (.tup [.int (i : Nat), .str ⟨#[c]⟩]) :=
      ⟨by show 2 ≤ sizeLine; decide, [.int i tk, .str ⟨#[c]⟩ tu], .cons ⟨_, rfl⟩ (.cons ⟨_, rfl⟩ .nil), ⟨_, hT2, rfl, _, rfl⟩⟩
    have I1 : Inv X pins σ (upd H s.heap.objs.size (.tup [.int (i : Nat), .str ⟨#[c]⟩])) { s with heap := h2, toks := tk + 1 } := by
      refine I.turnedNew (ch := [e, it]) (fun b o n q => ?_) hf (Nat.le_refl _) nw
      have n1 : b ≠ e := fun r => n (by simp [r])
      have n2 : b ≠ it := fun r => n (by simp [r])
      exact (sb.2 b n1).trans (kp b o n1 n2 q)
    refine ⟨.ref s.heap.objs.size, _, I1, rfl, ⟨_, c, rfl, I.hok.fresh (Nat.le_refl _), hcx, rfl⟩, ⟨⟨.str ⟨#[c]⟩ tu, ?_⟩, strIter_at hst fun o q => (sb.2 it (Ne.symm ne)).trans q, ne⟩, fun b hb => ?_⟩
    · have r : ((i + 1 : Nat) : Int) = (i : Int) + 1 := by omega
      rw [r]
      exact e2
    · obtain ⟨o, ho, _⟩ := ens_obj st0 hb
      rw [upd_ne (Nat.ne_of_lt (Heap.lt_size ho))]
      exact (hf b hb).1
  done := by
    intro X hP hw hK hc i pins s σ H E I hf st hg
    subst hP hw hK
    obtain ⟨⟨old, q1⟩, q2, ne⟩ := st
    have hh : X.A.in1.handled = none := I.ok.hd hc
    have hg' : i = z.cps.size := hg
    subst hg'
    obtain ⟨f0, f1, f2, f3, f4, f5⟩ := hf it (by simp)
    exact wpAny_pyNext_enum_endD (Draws.text hh it z t) q1 q2 fun h1 eb => ⟨rfl, I.turned (t' := s.toks) (fun b o hb q => eb b o hb q) f0 f1 f3 f4 f5⟩
def iEnumS (ta : TA) : TI := fun σ H R => ta σ H fun vs H1 => ∃ z, vs = [.str z] ∧ R (IteS z) H1
theorem pi_enumS {X : Cx} {e : Expr} {ta : TA} {p pos tpos : Pos} {elts : List Expr} {kk : Nat} (hg : Gl X "enumerate") (hm : X.mg "enumerate" = none) (ha : PA X [e] ta)
    (hs : starEach [e] X.env = [(false, eval e X.env)] := by rfl) : PI X (.Tuple elts kk tpos) (.Call (.Name "enumerate" p) [e] [] pos) (iEnumS ta) := by
  refine ⟨fun pins s σ H R I h => Call_ (ld_blt I hg hm boot_enumerate (PyProof.Rows.callWith_type1 (thn (ha.run pos pins s σ H _ I h) fun us s1 hh => ?_) hs rfl))⟩
  obtain ⟨vs, H1, I1, r1, z, ex, q⟩ := hh
  subst ex
  cases r1 with
  | cons r rr =>
    cases rr
    obtain ⟨t, rfl⟩ := r
    refine call_enumerate_str fun h1 he hit sz kp => wpAny_pyIter_enum he ?_
    have I2 : Inv X pins σ H1 { s1 with heap := h1 } := I1.kept (t' := s1.toks) kp
    refine ⟨s1.heap.objs.size + 1, [s1.heap.objs.size + 1, s1.heap.objs.size], _, _, H1, rfl, I2, turn_enumS z t (s1.heap.objs.size + 1) s1.heap.objs.size, ⟨⟨.none, he⟩, hit, Nat.succ_ne_self _⟩, fun b hb => ?_, q⟩
    have le : s1.heap.objs.size ≤ b := by
      rcases mem2 hb with r | r <;> rw [r]
      · exact Nat.le_succ _
      · exact Nat.le_refl _
    exact I1.fpOk le (I1.hok.fresh le)
theorem for_enumS {z : Str} {g : TG} {tb : TS} {D : Ends} {σ : L2.St} {H : Hp} (Pv : Nat → L2.St → Hp → Prop) (h0 : Pv 0 σ H)
    (hs : ∀ i c σ G T, z.cps[i]? = some c → Pv i σ G → G T = none → g (.ref T) σ (upd G T (.tup [.int (i : Nat), .str ⟨#[c]⟩])) fun σ2 G2 => tb { D with nx := Pv (i + 1), ct := Pv (i + 1), bk := D.nx } σ2 G2)
    (hd : ∀ σ G, Pv z.cps.size σ G → D.nx σ G) :
    ∃ W : Nat → Nat → L2.St → Hp → Prop, (∃ m, W 0 m σ H) ∧ ∀ i m σ H, W i m σ H → ((IteS z).stop i H ∧ D.nx σ H) ∨ ((IteS z).go i H ∧ ∃ N : L2.St → Hp → Prop, (∀ σ' H', N σ' H' → ∃ m', m' < m ∧ W (i + 1) m' σ' H') ∧
      ∀ v H', (IteS z).yld i H v H' → g v σ H' fun σ2 H2 => tb { D with nx := N, ct := N, bk := D.nx } σ2 H2) := by
  refine ⟨fun i m σ G => m + i = z.cps.size ∧ Pv i σ G, ⟨_, rfl, h0⟩, fun i m σ G hw => ?_⟩
  obtain ⟨hm, p⟩ := hw
  cases m with
  | zero =>
    have e : i = z.cps.size := by omega
    subst e
    exact .inl ⟨rfl, hd σ G p⟩
  | succ m =>
    refine .inr ⟨by show i < z.cps.size; omega, Pv (i + 1), fun σ' G' p' => ⟨m, Nat.lt_succ_self _, by omega, p'⟩, fun v G' y => ?_⟩
    obtain ⟨T, c, rfl, nT, hc, rfl⟩ := y
    exact hs i c σ G T hc p nT
end KS
namespace KS
open PySem PySem.Spec PyProof.Rows L2 RZ
abbrev sCheckL : Stmt := topS 48
abbrev sCheckW : Stmt := topS 49
abbrev sAfterP : Stmt := topS 53
theorem scCheckL : FnScope ["word", "letters", "index", "letter"] ["word", "letters"] (defScope sCheckL) := ⟨rfl, rfl, rfl, by decide +kernel, rfl, by decide +kernel, by decide +kernel⟩
theorem scCheckW : FnScope ["word"] ["word"] (defScope sCheckW) := ⟨rfl, rfl, rfl, by decide +kernel, rfl, by decide +kernel, by decide +kernel⟩
theorem scAfterP : FnScope ["plan", "filling", "word", "groups", "result", "letter"] ["plan", "filling", "word"] (defScope sAfterP) := ⟨rfl, rfl, rfl, by decide +kernel, rfl, by decide +kernel, by decide +kernel⟩
def spCheckL : Sp := fun vs H Q _ => ∃ wd : List Bool, vs = [.str (wS wd), .str "RC"] ∧ wd.length ≤ 400 ∧ ∀ H', Same H H' → Q .non H'
def spCheckW : Sp := fun vs H Q _ => ∃ wd : List Bool, vs = [.str (wS wd)] ∧ wd.length ≤ 400 ∧ ∀ H', Same H H' → Q .non H'
section
variable {P : Program} {w : World} {K : PySem.W.Frag} {mg : Str → Option Value} {base : Heap}
theorem ok_checkL {f : Addr} {fd : FuncData} {tk : Tok} (F : Fun K "check_letters" "check_letters" sCheckL f fd) (mi : mg "isinstance" = none) (mS : mg "str" = none) (ml : mg "len" = none) (me : mg "enumerate" = none) (mM : mg "MOST_LETTERS" = some (.int 400 tk)) :
    FnOk P w K mg base CX0 1 f fd ["word", "letters"] spCheckL := by
  refine F.ok scCheckL (fun vs H Q E h => ?_) (fun cdv A outer s H vs Q E hr h => ?_)
  · obtain ⟨wd, rfl, _⟩ := h
    rfl
  · obtain ⟨wd, rfl, hl, q⟩ := h
    have nd := scCheckL.nd
    refine ⟨_, pss_cons (ps_if (PW.pt (pw_or (pt_not (pt_val (pe_callB call_isi (by rfl) mi (by decide +kernel) (pa_cons (pv 0) (pa_cons (pe_bltn (v := .ty "str") (by rfl) mS (by decide +kernel) rfl) pa_nil)))))
          (pw_or1 (pt_cmpR op_gt (pe_callB call_len_str (by rfl) ml PySem.boot_len (pa_cons (pv 0) pa_nil)) (pe_glob (v := .int 400) (by rfl) mM ⟨_, rfl⟩) (nomark _)))))
        (pss_one ps_never) pss_nil)
      (pss_one (ps_for PassesOwn.never rfl (pi_enumS (by rfl) me (pa_cons (pv 0) pa_nil)) (pg_tup (by rfl) (pgs_cons (pg_name (i := 2) nd rfl (.inl rfl)) (pgs_cons (pg_name (i := 3) nd rfl (.inl rfl)) pgs_nil)))
        (pss_one (ps_if (pt_cmpR op_notIn_sign (pv 3) (pv 1) (by rfl)) (pss_one ps_never) pss_nil)))), ?_⟩
    have hw := wS_len wd
    refine ⟨_, rfl, _, _, _, _, true, rfl, .ty "str", .base (.str _), kit_ty (by decide +kernel), true, rfl, ?_⟩
    refine ⟨_, rfl, _, rfl, by rw [hw, sizeLine_eq]; omega, _, _, rfl, rfl, false, bl_false (by rw [hw]; omega), ?_⟩
    refine ⟨_, rfl, _, rfl, for_enumS (fun i σ H' => Same H H' ∧ ∃ y1 y2, σ = [some (.str (wS wd)), some (.str "RC"), y1, y2]) ?_ ?_ ?_⟩
    · exact ⟨Same.refl _, none, none, rfl⟩
    · rintro i c σ H' T hi ⟨sm, y1, y2, rfl⟩ nT
      obtain ⟨b, hb, rfl⟩ := wS_at hi
      have sT := same_new (o := .tup [.int (i : Nat), .str ⟨#[ltr b]⟩]) nT
      refine ⟨T, _, rfl, SqT.of upd_same, rfl, _, _, rfl, _, _, rfl, rfl, ?_⟩
      refine ⟨_, rfl, _, rfl, _, _, rfl, rfl, false, ?_, ?_⟩
      · cases b <;> decide +kernel
      · exact ⟨sm.trans sT, _, _, rfl⟩
    · rintro σ H' ⟨sm, _⟩
      exact q H' sm
theorem ok_checkW {f fL : Addr} {fd fdL : FuncData} (F : Fun K "check_word" "check_word" sCheckW f fd) (GL : FnOk P w K mg base CX0 1 fL fdL ["word", "letters"] spCheckL) (bL : Binds K fdL ["word", "letters"] []) (gL : mg "check_letters" = some (.ref fL)) (kL : PySem.W.keepIn K (.ref fL) = true) :
    FnOk P w K mg base CX0 2 f fd ["word"] spCheckW := by
  refine F.ok scCheckW (fun vs H Q E h => ?_) (fun cdv A outer s H vs Q E hr h => ?_)
  · obtain ⟨wd, rfl, _⟩ := h
    rfl
  · obtain ⟨wd, rfl, hl, q⟩ := h
    refine ⟨_, pss_one (ps_expr (pe_call GL hr (by rfl) gL kL bL .nil pass0 (pa_cons (pv 0) (pa_cons pe_str pa_nil)))), ?_⟩
    exact ⟨_, rfl, wd, rfl, hl, q⟩
theorem ok_afterP {f fC fF fL fA fW : Addr} {fd fdC fdF fdL fdA fdW : FuncData} (F : Fun K "after" "after" sAfterP f fd)
    (GC : FnOk P w K mg base CX0 5 fC fdC ["plan"] (spCheck K)) (bC : Binds K fdC ["plan"] []) (gC : mg "check_plan" = some (.ref fC)) (kC : PySem.W.keepIn K (.ref fC) = true)
    (GF : FnOk P w K mg base CX0 4 fF fdF ["size", "filling"] (spCheckF K)) (bF : Binds K fdF ["size", "filling"] []) (gF : mg "check_filling" = some (.ref fF)) (kF : PySem.W.keepIn K (.ref fF) = true)
    (GW : FnOk P w K mg base CX0 2 fW fdW ["word"] spCheckW) (bW : Binds K fdW ["word"] []) (gW : mg "check_word" = some (.ref fW)) (kW : PySem.W.keepIn K (.ref fW) = true)
    (GL : FnOk P w K mg base CX0 6 fL fdL ["plan", "kind"] (spLines K)) (bL : Binds K fdL ["plan", "kind"] []) (gL : mg "lines" = some (.ref fL)) (kL : PySem.W.keepIn K (.ref fL) = true)
    (GA : FnOk P w K mg base CX0 1 fA fdA ["groups", "filling"] (spAlong K)) (bA : Binds K fdA ["groups", "filling"] []) (gA : mg "sorted_along" = some (.ref fA)) (kA : PySem.W.keepIn K (.ref fA) = true)
    (ml : mg "len" = none) : FnOk P w K mg base CX0 7 f fd ["plan", "filling", "word"] (spAfterP K) := by
  refine F.ok scAfterP (fun vs H Q E h => ?_) (fun cdv A outer s H vs Q E hr h => ?_)
  · obtain ⟨a, t, b, cs, vs, rfl, _⟩ := h
    rfl
  · obtain ⟨a, t, wd, cs, vs, rfl, hp, gd, hl, ht, v9, hw, q⟩ := h
    have nd := scAfterP.nd
    refine ⟨_, pss_cons (ps_expr (pe_call GC (hr.mono (by decide)) (by rfl) gC kC bC .nil pass0 (pa_cons (pv 0) pa_nil)))
      (pss_cons (ps_expr (pe_call GF (hr.mono (by decide)) (by rfl) gF kF bF .nil pass0 (pa_cons (pe_callB call_len_seq (by rfl) ml PySem.boot_len (pa_cons (pv 0) pa_nil)) (pa_cons (pv 1) pa_nil))))
      (pss_cons (ps_expr (pe_call GW (hr.mono (by decide)) (by rfl) gW kW bW .nil pass0 (pa_cons (pv 2) pa_nil)))
      (pss_cons (ps_set (i := 3) nd rfl (.inl rfl) (pe_disp (pps_cons pe_str (pe_call GL hr (by rfl) gL kL bL .nil pass0 (pa_cons (pv 0) (pa_cons pe_str pa_nil))) (pps_cons pe_str (pe_call GL hr (by rfl) gL kL bL .nil pass0 (pa_cons (pv 0) (pa_cons pe_str pa_nil))) pps_nil))
          (by rfl) (by rfl) (fun z => by cases z) (by decide)))
      (pss_cons (ps_set (i := 4) nd rfl (.inl rfl) (pv 1))
      (pss_cons (ps_for PassesOwn.never rfl (pi_str (pv 2)) (pg_name (i := 5) nd rfl (.inl rfl))
        (pss_one (ps_set (i := 4) nd rfl (.inl rfl) (pe_call GA (hr.mono (by decide)) (by rfl) gA kA bA .nil pass0 (pa_cons (pe_dget (hu_of hr) (pv 3) (pv 5) (fun _ _ => rfl)) (pa_cons (pv 4) pa_nil))))))
      (pss_one (ps_ret (pv 4)))))))), ?_⟩
    obtain ⟨xs, hx, hc⟩ := id hp
    have hlen := Paired.length hc
    refine ⟨_, rfl, a, cs, rfl, hp, gd, hl, fun H1 s1 => ?_⟩
    refine ⟨_, rfl, a, xs, rfl, .inr (same_seqT s1 hx), _, rfl, xs.length, t, vs, rfl, same_seqT s1 ht, by rw [hlen]; exact v9, by omega, fun H2 s2 => ?_⟩
    refine ⟨_, rfl, wd, rfl, hw, fun H3 s3 => ?_⟩
    have s13 := (s1.trans s2).trans s3
    intro d nd0
    have sd := s13.trans (same_new (o := .dK []) nd0)
    refine ⟨_, rfl, a, false, cs, rfl, hp.kt (.of_same sd), gd, hl, fun H4 pR yR s4 hR hyR => ?_⟩
    refine ⟨_, rfl, a, true, cs, rfl, hp.kt (.of_same (sd.trans s4)), gd, hl, fun H5 pC yC s5 hC hyC => ?_⟩
    have hd5 : H5 d = some (.dK []) := s5 _ _ (s4 _ _ upd_same)
    refine ⟨hd5, [(.inr "R", .ref pR), (.inr "C", .ref pC)], rfl, by show 2 ≤ 15; decide, ?_⟩
    have kd : KT K H5 (upd H5 d (.dK (mergeK [] [(.inr "R", .ref pR), (.inr "C", .ref pC)]))) := fun x ys z => by
      rcases z with (z | ⟨ob, z⟩) | z
      · exact .inl (.inl (by rw [upd_ne (ne_of z hd5 (by intro y; cases y))]; exact z))
      · exact .inl (.inr ⟨ob, by rw [upd_ne (ne_of z hd5 (by intro y; cases y))]; exact z⟩)
      · exact .inr z
    have hR6 : SqT K (upd H5 d (.dK (mergeK [] [(.inr "R", .ref pR), (.inr "C", .ref pC)]))) pR yR := kd _ _ (same_seqT s5 hR)
    have hyR6 := tupI_kt kd (tupI_kt (.of_same s5) hyR)
    have hC6 := kd _ _ hC
    have hyC6 := tupI_kt kd hyC
    have ht6 := kd _ _ (same_seqT ((sd.trans s4).trans s5) ht)
    have s6 : Same H (upd H5 d (.dK (mergeK [] [(.inr "R", .ref pR), (.inr "C", .ref pC)]))) := fun c u e => by
      have e3 := s13 c u e
      rw [upd_ne (ne_of_none e3 nd0)]
      exact s5 _ _ (s4 _ _ (same_new nd0 _ _ e3))
    have hd6 : upd H5 d (.dK (mergeK [] [(.inr "R", .ref pR), (.inr "C", .ref pC)])) d = some (.dK (mergeK [] [(.inr "R", .ref pR), (.inr "C", .ref pC)])) := upd_same
    generalize upd H5 d (.dK (mergeK [] [(.inr "R", .ref pR), (.inr "C", .ref pC)])) = H6 at hR6 hyR6 hC6 hyC6 ht6 s6 hd6
    refine ⟨_, rfl, ?_⟩
    refine ⟨_, rfl, _, rfl, for_it walk_str (fun i σ H' => ∃ (u : Addr) (y5 : Option V), σ = [some (.ref a), some (.ref t), some (.str (wS wd)), some (.ref d), some (.ref u), y5] ∧ Same H6 H' ∧ SqT K H' u ((aft cs (wd.take i) vs).map V.int)) ?_ ?_ ?_ ?_⟩
    · exact ⟨t, none, rfl, Same.refl _, ht6⟩
    · intros
      trivial
    · rintro i x σ H' H'' hi ⟨u, y5, rfl, sm, hu⟩ ⟨rfl, c, hcc, rfl⟩
      obtain ⟨b, hb, rfl⟩ := wS_at hcc
      rw [ltr_str]
      obtain ⟨pg, yg, hv, hg, hyg⟩ : ∃ pg yg, valV (mergeK [] [(.inr "R", .ref pR), (.inr "C", .ref pC)]) (.inr (if b = true then "C" else "R")) = some (.ref pg) ∧ SqT K H'' pg yg ∧ Paired (TupI K H'') yg (lnsOf b cs) := by
        cases b
        · exact ⟨pR, yR, by rfl, same_seqT sm hR6, tupI_kt (.of_same sm) hyR6⟩
        · exact ⟨pC, yC, by rfl, same_seqT sm hC6, tupI_kt (.of_same sm) hyC6⟩
      have al : (aft cs (wd.take i) vs).length = cs.length := by rw [aft_len, v9.len]
      refine ⟨_, rfl, _, rfl, d, .ref pg, rfl, .inl ⟨_, .inr (if b = true then "C" else "R"), Rd.of (sm _ _ hd6), rfl, hv.symm⟩, _, rfl, pg, u, yg, _, _, rfl, hg, hyg, lns_ok hl al, hu, fun G u' sG hu' _ => ?_⟩
      refine ⟨u', _, rfl, sm.trans sG, ?_⟩
      rw [List.take_add_one, hb]
      show SqT K G u' ((aft cs (wd.take i ++ [b]) vs).map V.int)
      rw [aft_more]
      exact hu'
    · rintro σ H' ⟨u, y5, rfl, sm, hu⟩
      have e : wd.take (wS wd).cps.size = wd := List.take_of_length_le (by
        have := wS_len wd
        show wd.length ≤ (wS wd).length
        omega)
      rw [e] at hu
      exact ⟨_, rfl, q H' u (s6.trans sm) hu⟩
end
end KS
/-! the thirteen functions, on anything in the place of a plan and a filling -/
namespace KS
open PySem PySem.Spec PyProof.Rows L2 RZ
section
variable {P : Program} {w : World} {K : PySem.W.Frag} {mg : Str → Option Value} {base : Heap}
variable {fC fK C CF : Addr} {fdC fdK : FuncData}
theorem ok_badKeeps {f fO : Addr} {fd fdO : FuncData} (F : Fun K "keeps" "keeps" sKeeps f fd)
    (GO : FnOk P w K mg base (L2.CX P w) 6 fO fdO ["plan"] (spBadP K C 1)) (bO : Binds K fdO ["plan"] []) (gO : mg "obstacle" = some (.ref fO)) (kO : PySem.W.keepIn K (.ref fO) = true) :
    FnOk P w K mg base (L2.CX P w) 7 f fd ["plan"] (spBadP K C 1) := by
  refine F.okX scKeeps (fun vs H Q E h => ?_) (fun cdv A outer s H vs Q E hr h => ?_)
  · obtain ⟨v, l, b, rfl, e, _⟩ := h
    exact e
  · refine ⟨_, pss_one (ps_ret (pe_cmpR op_isN (pe_callS GO hr (by rfl) gO kO bO (fun σ => passAt (takes_of rfl rfl rfl rfl) σ) (pa_cons (pv 0) pa_nil)) pe_non (nomark _))), ?_⟩
    obtain ⟨v, l, b, rfl, e, hp, hb, ke⟩ := h
    match l, e with
    | [], _ => exact ⟨_, rfl, v, [], b, rfl, rfl, hp, hb, ke⟩
theorem ok_badSorted {f fO : Addr} {fd fdO : FuncData} {sp : Sp} (F : Fun K "is_sorted" "is_sorted" sIsSorted f fd) (hl : ∀ vs H Q E, sp vs H Q E → vs.length = 3) (hq : ∀ vs H Q Q' E, sp vs H Q E → sp vs H Q' E)
    (GO : FnOk P w K mg base (L2.CX P w) 6 fO fdO ["plan", "filling", "kind"] sp) (bO : Binds K fdO ["plan", "filling", "kind"] []) (gO : mg "sort_lines" = some (.ref fO)) (kO : PySem.W.keepIn K (.ref fO) = true) :
    FnOk P w K mg base (L2.CX P w) 7 f fd ["plan", "filling", "kind"] sp := by
  refine F.okX scIsSorted (fun vs H Q E h => hl _ _ _ _ h) (fun cdv A outer s H vs Q E hr h => ?_)
  refine ⟨_, pss_one (ps_ret (pe_cmpR (op_eqD hr.units) (pe_callS GO hr (by rfl) gO kO bO (fun σ => passAt (takes_of rfl rfl rfl rfl) σ) (pa_cons (pv 0) (pa_cons (pv 1) (pa_cons (pv 2) pa_nil)))) (pv 1) (nomark _))), ?_⟩
  have hl3 := hl _ _ _ _ h
  match vs, hl3 with
  | [v0, v1, v2], _ => exact ⟨_, rfl, _, rfl, _, rfl, hq _ _ _ _ _ h⟩
theorem bad_lines {f : Addr} {fd : FuncData} (F : Fun K "lines" "lines" sLines f fd) (GC : FnOk P w K mg base (L2.CX P w) 5 fC fdC ["plan"] (spCheckG K C)) (bC : Binds K fdC ["plan"] []) (gC : mg "check_plan" = some (.ref fC)) (kC : PySem.W.keepIn K (.ref fC) = true) : FnOk P w K mg base (L2.CX P w) 6 f fd ["plan", "kind"] (spBadP K C 2) := ok_badP (n := 2) F scLines rfl rfl (by decide +kernel) rfl rfl GC bC gC kC
theorem pd_lines {f : Addr} {fd : FuncData} (_F : Fun K "lines" "lines" sLines f fd) (G : FnOk P w K mg base CX0 10 f fd ["plan", "kind"] (spLines K)) (B : FnOk P w K mg base (L2.CX P w) 10 f fd ["plan", "kind"] (spBadP K C 2)) : FnOk P w K mg base (L2.CX P w) 10 f fd ["plan", "kind"] (spPD K C (fun _ r => r = [.str "R"])) :=
  pd_of (ok_both G B (Nat.le_refl _)) (fun H r h => by rw [h]; rfl) <| fun H Q a cs rest h1 h2 h3 hr k => by
    subst hr
    exact ⟨a, false, cs, rfl, h1, h2, h3, fun H' p ys s1 _ _ => k _ _ s1⟩
theorem bad_transposed {f : Addr} {fd : FuncData} (F : Fun K "transposed" "transposed" sTrans f fd) (GC : FnOk P w K mg base (L2.CX P w) 5 fC fdC ["plan"] (spCheckG K C)) (bC : Binds K fdC ["plan"] []) (gC : mg "check_plan" = some (.ref fC)) (kC : PySem.W.keepIn K (.ref fC) = true) : FnOk P w K mg base (L2.CX P w) 6 f fd ["plan"] (spBadP K C 1) := ok_badP (n := 1) F scTrans rfl rfl (by decide +kernel) rfl rfl GC bC gC kC
theorem pd_transposed {f : Addr} {fd : FuncData} (_F : Fun K "transposed" "transposed" sTrans f fd) (G : FnOk P w K mg base CX0 10 f fd ["plan"] (spTrans K)) (B : FnOk P w K mg base (L2.CX P w) 10 f fd ["plan"] (spBadP K C 1)) : FnOk P w K mg base (L2.CX P w) 10 f fd ["plan"] (spPD K C (NoR)) :=
  pd_of (ok_both G B (Nat.le_refl _)) (fun H r h => by rw [h]; rfl) <| fun H Q a cs rest h1 h2 h3 hr k => by
    subst hr
    exact ⟨a, cs, rfl, h1, h2, h3, fun H' p ds s1 _ _ _ _ => k _ _ s1⟩
theorem bad_is_rectangle {f : Addr} {fd : FuncData} (F : Fun K "is_rectangle" "is_rectangle" sRect f fd) (GC : FnOk P w K mg base (L2.CX P w) 5 fC fdC ["plan"] (spCheckG K C)) (bC : Binds K fdC ["plan"] []) (gC : mg "check_plan" = some (.ref fC)) (kC : PySem.W.keepIn K (.ref fC) = true) : FnOk P w K mg base (L2.CX P w) 6 f fd ["plan"] (spBadP K C 1) := ok_badP (n := 1) F scRect rfl rfl (by decide +kernel) rfl rfl GC bC gC kC
theorem pd_is_rectangle {f : Addr} {fd : FuncData} (_F : Fun K "is_rectangle" "is_rectangle" sRect f fd) (G : FnOk P w K mg base CX0 10 f fd ["plan"] (spRect K)) (B : FnOk P w K mg base (L2.CX P w) 10 f fd ["plan"] (spBadP K C 1)) : FnOk P w K mg base (L2.CX P w) 10 f fd ["plan"] (spPD K C (NoR)) :=
  pd_of (ok_both G B (Nat.le_refl _)) (fun H r h => by rw [h]; rfl) <| fun H Q a cs rest h1 h2 h3 hr k => by
    subst hr
    exact ⟨a, cs, rfl, h1, h2, h3, fun H' s1 => k _ _ s1⟩
theorem bad_is_filling {f : Addr} {fd : FuncData} (F : Fun K "is_filling" "is_filling" sIsFill f fd) (GC : FnOk P w K mg base (L2.CX P w) 5 fC fdC ["plan"] (spCheckG K C)) (bC : Binds K fdC ["plan"] []) (gC : mg "check_plan" = some (.ref fC)) (kC : PySem.W.keepIn K (.ref fC) = true) : FnOk P w K mg base (L2.CX P w) 6 f fd ["plan", "value"] (spBadP K C 2) := ok_badP (n := 2) F scIsFill rfl rfl (by decide +kernel) rfl rfl GC bC gC kC
theorem pd_is_filling {f : Addr} {fd : FuncData} (_F : Fun K "is_filling" "is_filling" sIsFill f fd) (G : FnOk P w K mg base CX0 10 f fd ["plan", "value"] (spIsFill K)) (B : FnOk P w K mg base (L2.CX P w) 10 f fd ["plan", "value"] (spBadP K C 2)) : FnOk P w K mg base (L2.CX P w) 10 f fd ["plan", "value"] (spPD K C (fun H r => ∃ t, r = [.ref t] ∧ SqT K H t [.int 1])) :=
  pd_of (ok_both G B (Nat.le_refl _)) (fun H r h => by obtain ⟨t, rfl, _⟩ := h; rfl) <| fun H Q a cs rest h1 h2 h3 hr k => by
    obtain ⟨t, rfl, ht⟩ := hr
    obtain ⟨b, hb⟩ := filV_of (n := cs.length) ht (.cons (show VlR K H (.int 1) (some 1) from ⟨rfl, by decide, by decide⟩) .nil)
    exact ⟨a, cs, _, b, rfl, h1, h2, h3, hb, fun H' s1 => k _ _ s1⟩
theorem bad_obstacle {f : Addr} {fd : FuncData} (F : Fun K "obstacle" "obstacle" sObs f fd) (GC : FnOk P w K mg base (L2.CX P w) 5 fC fdC ["plan"] (spCheckG K C)) (bC : Binds K fdC ["plan"] []) (gC : mg "check_plan" = some (.ref fC)) (kC : PySem.W.keepIn K (.ref fC) = true) : FnOk P w K mg base (L2.CX P w) 6 f fd ["plan"] (spBadP K C 1) := ok_badP (n := 1) F scObs rfl rfl (by decide +kernel) rfl rfl GC bC gC kC
theorem pd_obstacle {f : Addr} {fd : FuncData} (_F : Fun K "obstacle" "obstacle" sObs f fd) (G : FnOk P w K mg base CX0 10 f fd ["plan"] (spObs K)) (B : FnOk P w K mg base (L2.CX P w) 10 f fd ["plan"] (spBadP K C 1)) : FnOk P w K mg base (L2.CX P w) 10 f fd ["plan"] (spPD K C (NoR)) :=
  pd_of (ok_both G B (Nat.le_refl _)) (fun H r h => by rw [h]; rfl) <| fun H Q a cs rest h1 h2 h3 hr k => by
    subst hr
    exact ⟨a, cs, rfl, h1, h2, h3, fun H' v o s1 _ _ => k _ _ s1⟩
theorem pd_keeps {f : Addr} {fd : FuncData} (_F : Fun K "keeps" "keeps" sKeeps f fd) (G : FnOk P w K mg base CX0 10 f fd ["plan"] (spKeeps K)) (B : FnOk P w K mg base (L2.CX P w) 10 f fd ["plan"] (spBadP K C 1)) : FnOk P w K mg base (L2.CX P w) 10 f fd ["plan"] (spPD K C (NoR)) :=
  pd_of (ok_both G B (Nat.le_refl _)) (fun H r h => by rw [h]; rfl) <| fun H Q a cs rest h1 h2 h3 hr k => by
    subst hr
    exact ⟨a, cs, rfl, h1, h2, h3, fun H' o s1 _ => k _ _ s1⟩
theorem bad_breaking_filling {f : Addr} {fd : FuncData} (F : Fun K "breaking_filling" "breaking_filling" sBf f fd) (GC : FnOk P w K mg base (L2.CX P w) 5 fC fdC ["plan"] (spCheckG K C)) (bC : Binds K fdC ["plan"] []) (gC : mg "check_plan" = some (.ref fC)) (kC : PySem.W.keepIn K (.ref fC) = true) : FnOk P w K mg base (L2.CX P w) 6 f fd ["plan", "kind"] (spBadP K C 2) := ok_badP (n := 2) F scBf rfl rfl (by decide +kernel) rfl rfl GC bC gC kC
theorem pd_breaking_filling {f : Addr} {fd : FuncData} (_F : Fun K "breaking_filling" "breaking_filling" sBf f fd) (G : FnOk P w K mg base CX0 10 f fd ["plan", "kind"] (spBf K)) (B : FnOk P w K mg base (L2.CX P w) 10 f fd ["plan", "kind"] (spBadP K C 2)) : FnOk P w K mg base (L2.CX P w) 10 f fd ["plan", "kind"] (spPD K C (fun _ r => r = [.str "C"])) :=
  pd_of (ok_both G B (Nat.le_refl _)) (fun H r h => by rw [h]; rfl) <| fun H Q a cs rest h1 h2 h3 hr k => by
    subst hr
    exact ⟨a, true, cs, rfl, h1, h2, h3, fun H' v r s1 _ _ => k _ _ s1⟩
theorem bad_ranks {f : Addr} {fd : FuncData} (F : Fun K "ranks" "ranks" sRanks f fd) (GC : FnOk P w K mg base (L2.CX P w) 5 fC fdC ["plan"] (spCheckG K C)) (bC : Binds K fdC ["plan"] []) (gC : mg "check_plan" = some (.ref fC)) (kC : PySem.W.keepIn K (.ref fC) = true) : FnOk P w K mg base (L2.CX P w) 6 f fd ["plan", "filling"] (spBadP K C 2) := ok_badP (n := 2) F scRanks rfl rfl (by decide +kernel) rfl rfl GC bC gC kC
theorem badF_ranks {f : Addr} {fd : FuncData} (F : Fun K "ranks" "ranks" sRanks f fd) (GC : FnOk P w K mg base (L2.CX P w) 5 fC fdC ["plan"] (spCheckG K C)) (bC : Binds K fdC ["plan"] []) (gC : mg "check_plan" = some (.ref fC)) (kC : PySem.W.keepIn K (.ref fC) = true)
    (GK : FnOk P w K mg base (L2.CX P w) 4 fK fdK ["size", "filling"] (spCheckFG K CF)) (bK : Binds K fdK ["size", "filling"] []) (gK : mg "check_filling" = some (.ref fK)) (kK : PySem.W.keepIn K (.ref fK) = true) (ml : mg "len" = none) : FnOk P w K mg base (L2.CX P w) 6 f fd ["plan", "filling"] (spBadF K CF 2) := ok_badF (n := 2) F scRanks rfl rfl rfl (by decide +kernel) (by decide +kernel) rfl rfl rfl rfl GC bC gC kC GK bK gK kK ml
theorem fd_ranks {f : Addr} {fd : FuncData} (_F : Fun K "ranks" "ranks" sRanks f fd) (G : FnOk P w K mg base CX0 10 f fd ["plan", "filling"] (spRanks K)) (B : FnOk P w K mg base (L2.CX P w) 10 f fd ["plan", "filling"] (spBadP K C 2)) (B2 : FnOk P w K mg base (L2.CX P w) 10 f fd ["plan", "filling"] (spBadF K CF 2)) : FnOk P w K mg base (L2.CX P w) 10 f fd ["plan", "filling"] (spFD K C CF (NoR)) :=
  fd_of (ok_both G (fn_or B B2) (Nat.le_refl _)) (fun H r h => by rw [h]; rfl) <| fun H Q a t cs vs rest h1 h2 h3 h4 h5 hr k => by
    subst hr
    exact ⟨a, t, cs, vs, rfl, h1, h2, h3, h4, h5, fun H' u s1 _ => k _ _ s1⟩
theorem bad_signs {f : Addr} {fd : FuncData} (F : Fun K "signs" "signs" sSigns f fd) (GC : FnOk P w K mg base (L2.CX P w) 5 fC fdC ["plan"] (spCheckG K C)) (bC : Binds K fdC ["plan"] []) (gC : mg "check_plan" = some (.ref fC)) (kC : PySem.W.keepIn K (.ref fC) = true) : FnOk P w K mg base (L2.CX P w) 6 f fd ["plan", "filling", "limit"] (spBadP K C 3) := ok_badP (n := 3) F scSigns rfl rfl (by decide +kernel) rfl rfl GC bC gC kC
theorem badF_signs {f : Addr} {fd : FuncData} (F : Fun K "signs" "signs" sSigns f fd) (GC : FnOk P w K mg base (L2.CX P w) 5 fC fdC ["plan"] (spCheckG K C)) (bC : Binds K fdC ["plan"] []) (gC : mg "check_plan" = some (.ref fC)) (kC : PySem.W.keepIn K (.ref fC) = true)
    (GK : FnOk P w K mg base (L2.CX P w) 4 fK fdK ["size", "filling"] (spCheckFG K CF)) (bK : Binds K fdK ["size", "filling"] []) (gK : mg "check_filling" = some (.ref fK)) (kK : PySem.W.keepIn K (.ref fK) = true) (ml : mg "len" = none) : FnOk P w K mg base (L2.CX P w) 6 f fd ["plan", "filling", "limit"] (spBadF K CF 3) := ok_badF (n := 3) F scSigns rfl rfl rfl (by decide +kernel) (by decide +kernel) rfl rfl rfl rfl GC bC gC kC GK bK gK kK ml
theorem fd_signs {f : Addr} {fd : FuncData} (_F : Fun K "signs" "signs" sSigns f fd) (G : FnOk P w K mg base CX0 10 f fd ["plan", "filling", "limit"] (spSigns K)) (B : FnOk P w K mg base (L2.CX P w) 10 f fd ["plan", "filling", "limit"] (spBadP K C 3)) (B2 : FnOk P w K mg base (L2.CX P w) 10 f fd ["plan", "filling", "limit"] (spBadF K CF 3)) : FnOk P w K mg base (L2.CX P w) 10 f fd ["plan", "filling", "limit"] (spFD K C CF (fun _ r => r = [.int 5])) :=
  fd_of (ok_both G (fn_or B B2) (Nat.le_refl _)) (fun H r h => by rw [h]; rfl) <| fun H Q a t cs vs rest h1 h2 h3 h4 h5 hr k => by
    subst hr
    exact ⟨a, t, 5, cs, vs, rfl, h1, h2, h3, h4, h5, fun H' s1 => k _ _ s1⟩
theorem bad_sort_lines {f : Addr} {fd : FuncData} (F : Fun K "sort_lines" "sort_lines" sSortLines f fd) (GC : FnOk P w K mg base (L2.CX P w) 5 fC fdC ["plan"] (spCheckG K C)) (bC : Binds K fdC ["plan"] []) (gC : mg "check_plan" = some (.ref fC)) (kC : PySem.W.keepIn K (.ref fC) = true) : FnOk P w K mg base (L2.CX P w) 6 f fd ["plan", "filling", "kind"] (spBadP K C 3) := ok_badP (n := 3) F scSortLines rfl rfl (by decide +kernel) rfl rfl GC bC gC kC
theorem badF_sort_lines {f : Addr} {fd : FuncData} (F : Fun K "sort_lines" "sort_lines" sSortLines f fd) (GC : FnOk P w K mg base (L2.CX P w) 5 fC fdC ["plan"] (spCheckG K C)) (bC : Binds K fdC ["plan"] []) (gC : mg "check_plan" = some (.ref fC)) (kC : PySem.W.keepIn K (.ref fC) = true)
    (GK : FnOk P w K mg base (L2.CX P w) 4 fK fdK ["size", "filling"] (spCheckFG K CF)) (bK : Binds K fdK ["size", "filling"] []) (gK : mg "check_filling" = some (.ref fK)) (kK : PySem.W.keepIn K (.ref fK) = true) (ml : mg "len" = none) : FnOk P w K mg base (L2.CX P w) 6 f fd ["plan", "filling", "kind"] (spBadF K CF 3) := ok_badF (n := 3) F scSortLines rfl rfl rfl (by decide +kernel) (by decide +kernel) rfl rfl rfl rfl GC bC gC kC GK bK gK kK ml
theorem fd_sort_lines {f : Addr} {fd : FuncData} (_F : Fun K "sort_lines" "sort_lines" sSortLines f fd) (G : FnOk P w K mg base CX0 10 f fd ["plan", "filling", "kind"] (spSortL K)) (B : FnOk P w K mg base (L2.CX P w) 10 f fd ["plan", "filling", "kind"] (spBadP K C 3)) (B2 : FnOk P w K mg base (L2.CX P w) 10 f fd ["plan", "filling", "kind"] (spBadF K CF 3)) : FnOk P w K mg base (L2.CX P w) 10 f fd ["plan", "filling", "kind"] (spFD K C CF (fun _ r => r = [.str "R"])) :=
  fd_of (ok_both G (fn_or B B2) (Nat.le_refl _)) (fun H r h => by rw [h]; rfl) <| fun H Q a t cs vs rest h1 h2 h3 h4 h5 hr k => by
    subst hr
    exact ⟨a, t, false, cs, vs, rfl, h1, h2, h3, h4, h5, fun H' u s1 _ => k _ _ s1⟩
theorem bad_after {f : Addr} {fd : FuncData} (F : Fun K "after" "after" sAfterP f fd) (GC : FnOk P w K mg base (L2.CX P w) 5 fC fdC ["plan"] (spCheckG K C)) (bC : Binds K fdC ["plan"] []) (gC : mg "check_plan" = some (.ref fC)) (kC : PySem.W.keepIn K (.ref fC) = true) : FnOk P w K mg base (L2.CX P w) 6 f fd ["plan", "filling", "word"] (spBadP K C 3) := ok_badP (n := 3) F scAfterP rfl rfl (by decide +kernel) rfl rfl GC bC gC kC
theorem badF_after {f : Addr} {fd : FuncData} (F : Fun K "after" "after" sAfterP f fd) (GC : FnOk P w K mg base (L2.CX P w) 5 fC fdC ["plan"] (spCheckG K C)) (bC : Binds K fdC ["plan"] []) (gC : mg "check_plan" = some (.ref fC)) (kC : PySem.W.keepIn K (.ref fC) = true)
    (GK : FnOk P w K mg base (L2.CX P w) 4 fK fdK ["size", "filling"] (spCheckFG K CF)) (bK : Binds K fdK ["size", "filling"] []) (gK : mg "check_filling" = some (.ref fK)) (kK : PySem.W.keepIn K (.ref fK) = true) (ml : mg "len" = none) : FnOk P w K mg base (L2.CX P w) 6 f fd ["plan", "filling", "word"] (spBadF K CF 3) := ok_badF (n := 3) F scAfterP rfl rfl rfl (by decide +kernel) (by decide +kernel) rfl rfl rfl rfl GC bC gC kC GK bK gK kK ml
theorem fd_after {f : Addr} {fd : FuncData} (_F : Fun K "after" "after" sAfterP f fd) (G : FnOk P w K mg base CX0 10 f fd ["plan", "filling", "word"] (spAfterP K)) (B : FnOk P w K mg base (L2.CX P w) 10 f fd ["plan", "filling", "word"] (spBadP K C 3)) (B2 : FnOk P w K mg base (L2.CX P w) 10 f fd ["plan", "filling", "word"] (spBadF K CF 3)) : FnOk P w K mg base (L2.CX P w) 10 f fd ["plan", "filling", "word"] (spFD K C CF (fun _ r => r = [.str "CR"])) :=
  fd_of (ok_both G (fn_or B B2) (Nat.le_refl _)) (fun H r h => by rw [h]; rfl) <| fun H Q a t cs vs rest h1 h2 h3 h4 h5 hr k => by
    subst hr
    exact ⟨a, t, [true, false], cs, vs, rfl, h1, h2, h3, h4, h5, by decide, fun H' u s1 _ => k _ _ s1⟩
theorem fd_is_sorted {f : Addr} {fd : FuncData} (_F : Fun K "is_sorted" "is_sorted" sIsSorted f fd) (G : FnOk P w K mg base CX0 10 f fd ["plan", "filling", "kind"] (spIsSorted K)) (B : FnOk P w K mg base (L2.CX P w) 10 f fd ["plan", "filling", "kind"] (spBadP K C 3)) (B2 : FnOk P w K mg base (L2.CX P w) 10 f fd ["plan", "filling", "kind"] (spBadF K CF 3)) : FnOk P w K mg base (L2.CX P w) 10 f fd ["plan", "filling", "kind"] (spFD K C CF (fun _ r => r = [.str "C"])) :=
  fd_of (ok_both G (fn_or B B2) (Nat.le_refl _)) (fun H r h => by rw [h]; rfl) <| fun H Q a t cs vs rest h1 h2 h3 h4 h5 hr k => by
    subst hr
    exact ⟨a, t, true, cs, vs, rfl, h1, h2, h3, h4, h5, fun H' s1 => k _ _ s1⟩
theorem bad_rest {f : Addr} {fd : FuncData} (F : Fun K "rest" "rest" sRestP f fd) (GC : FnOk P w K mg base (L2.CX P w) 5 fC fdC ["plan"] (spCheckG K C)) (bC : Binds K fdC ["plan"] []) (gC : mg "check_plan" = some (.ref fC)) (kC : PySem.W.keepIn K (.ref fC) = true) : FnOk P w K mg base (L2.CX P w) 6 f fd ["plan", "filling", "kind"] (spBadP K C 3) := ok_badP (n := 3) F scRestP rfl rfl (by decide +kernel) rfl rfl GC bC gC kC
theorem badF_rest {f : Addr} {fd : FuncData} (F : Fun K "rest" "rest" sRestP f fd) (GC : FnOk P w K mg base (L2.CX P w) 5 fC fdC ["plan"] (spCheckG K C)) (bC : Binds K fdC ["plan"] []) (gC : mg "check_plan" = some (.ref fC)) (kC : PySem.W.keepIn K (.ref fC) = true)
    (GK : FnOk P w K mg base (L2.CX P w) 4 fK fdK ["size", "filling"] (spCheckFG K CF)) (bK : Binds K fdK ["size", "filling"] []) (gK : mg "check_filling" = some (.ref fK)) (kK : PySem.W.keepIn K (.ref fK) = true) (ml : mg "len" = none) : FnOk P w K mg base (L2.CX P w) 6 f fd ["plan", "filling", "kind"] (spBadF K CF 3) := ok_badF (n := 3) F scRestP rfl rfl rfl (by decide +kernel) (by decide +kernel) rfl rfl rfl rfl GC bC gC kC GK bK gK kK ml
theorem fd_rest {f : Addr} {fd : FuncData} (_F : Fun K "rest" "rest" sRestP f fd) (G : FnOk P w K mg base CX0 10 f fd ["plan", "filling", "kind"] (spRestP K)) (B : FnOk P w K mg base (L2.CX P w) 10 f fd ["plan", "filling", "kind"] (spBadP K C 3)) (B2 : FnOk P w K mg base (L2.CX P w) 10 f fd ["plan", "filling", "kind"] (spBadF K CF 3)) : FnOk P w K mg base (L2.CX P w) 10 f fd ["plan", "filling", "kind"] (spFD K C CF (fun _ r => r = [.str "R"])) :=
  fd_of (ok_both G (fn_or B B2) (Nat.le_refl _)) (fun H r h => by rw [h]; rfl) <| fun H Q a t cs vs rest h1 h2 h3 h4 h5 hr k => by
    subst hr
    exact ⟨a, t, false, cs, vs, rfl, h1, h2, h3, h4, h5, fun H' p u n s1 _ _ _ => k _ _ s1⟩
end
end KS
namespace KS
open PySem PySem.Spec PyProof.Rows L2
/-! ### what the written part says of the classes -/
def ecQB (K : PySem.W.Frag) (D : Addr) : Bool :=
  decide (PySem.W.findIn K (.ref D) "__getattribute__" = some (some (.builtin "BaseException.__getattribute__"))) && decide (PySem.W.findIn K (.ref D) "__getattr__" = some none) &&
  decide (PySem.W.subIn K (.ref D) (.type "BaseException") = some true) && PySem.W.hasDictIn K D && decide (PySem.W.findIn K (.ref D) "__class__" = some (some (.builtin "object.__class__"))) &&
  decide (PySem.W.specialIn K (.builtin "object.__class__") "__get__" = some (some (.builtin "getset_descriptor.__get__"))) && decide (PySem.W.takesIn K (.builtin "object.__class__") = some true) && decide (PySem.W.mroIn K D (.type "object") = some true)
theorem ecQB_ok {K : PySem.W.Frag} {D : Addr} (h : ecQB K D = true) : ExcC K D := by
  unfold ecQB at h
  simp only [Bool.and_eq_true, decide_eq_true_eq] at h
  obtain ⟨⟨⟨⟨⟨⟨⟨h1, h2⟩, h3⟩, h4⟩, h5⟩, h6⟩, h7⟩, h8⟩ := h
  exact ⟨h1, h2, h3, h4, h5, h6, h7, h8⟩
theorem excQ_xf {K : PySem.W.Frag} {D : Addr} (h : ExcC K D) : XfC K D := ⟨h.hg, h.hk, h.hs, h.hd⟩
def kitQB (K : PySem.W.Frag) (cl bl : List Addr) : Bool := (List.range 21).all fun i =>
  ecQB K (cl.getD i 0) && ((List.range 21).all fun j => decide (PySem.W.kitOne K (.ref (cl.getD i 0)) (.ref (cl.getD j 0)) = some (decide (i = j)))) &&
  decide (PySem.W.kitOne K (.ref (cl.getD i 0)) (.ref (bl.getD 0 0)) = some (decide (i < 14))) && decide (PySem.W.kitOne K (.ref (cl.getD i 0)) (.ref (bl.getD 1 0)) = some (decide (14 ≤ i ∧ i < 19))) && decide (PySem.W.kitOne K (.ref (cl.getD i 0)) (.ref (bl.getD 2 0)) = some (decide (19 ≤ i))) &&
  decide (PySem.W.kitOne K (.ref (cl.getD i 0)) (.type "ValueError") = some (decide (i < 14))) && decide (PySem.W.kitOne K (.ref (cl.getD i 0)) (.type "LookupError") = some (decide (14 ≤ i ∧ i < 19))) && decide (PySem.W.kitOne K (.ref (cl.getD i 0)) (.type "ArithmeticError") = some (decide (19 ≤ i)))
theorem kitQB_at {K : PySem.W.Frag} {cl bl : List Addr} (h : kitQB K cl bl = true) {i : Nat} (hi : i < 21) : ExcC K (cl.getD i 0) ∧ (∀ j, j < 21 → PySem.W.kitOne K (.ref (cl.getD i 0)) (.ref (cl.getD j 0)) = some (decide (i = j))) ∧
    PySem.W.kitOne K (.ref (cl.getD i 0)) (.ref (bl.getD 0 0)) = some (decide (i < 14)) ∧ PySem.W.kitOne K (.ref (cl.getD i 0)) (.ref (bl.getD 1 0)) = some (decide (14 ≤ i ∧ i < 19)) ∧ PySem.W.kitOne K (.ref (cl.getD i 0)) (.ref (bl.getD 2 0)) = some (decide (19 ≤ i)) ∧
    PySem.W.kitOne K (.ref (cl.getD i 0)) (.type "ValueError") = some (decide (i < 14)) ∧ PySem.W.kitOne K (.ref (cl.getD i 0)) (.type "LookupError") = some (decide (14 ≤ i ∧ i < 19)) ∧ PySem.W.kitOne K (.ref (cl.getD i 0)) (.type "ArithmeticError") = some (decide (19 ≤ i)) := by
  unfold kitQB at h
  have h := List.all_eq_true.mp h i (List.mem_range.mpr hi)
  rw [Bool.and_eq_true, Bool.and_eq_true, Bool.and_eq_true, Bool.and_eq_true, Bool.and_eq_true, Bool.and_eq_true, Bool.and_eq_true] at h
  obtain ⟨⟨⟨⟨⟨⟨⟨h1, h2⟩, h3⟩, h4⟩, h5⟩, h6⟩, h7⟩, h8⟩ := h
  exact ⟨ecQB_ok h1, fun j hj => of_decide_eq_true (List.all_eq_true.mp h2 j (List.mem_range.mpr hj)), of_decide_eq_true h3, of_decide_eq_true h4, of_decide_eq_true h5, of_decide_eq_true h6, of_decide_eq_true h7, of_decide_eq_true h8⟩
end KS
namespace KS
open PySem PySem.Spec PyProof.Rows L2
abbrev sValues : Stmt := topS 68
abbrev nValues : List Str := ["_law_pool_here", "_law_size", "_law_mode", "_law_left", "_law_step", "_law_found", "_law_turn", "_law_one"]
theorem scValues : FnScope nValues ["_law_pool_here", "_law_size"] (defScope sValues) := ⟨rfl, rfl, rfl, by decide +kernel, rfl, by decide +kernel, by decide +kernel⟩
section
variable {P : Program} {w : World} {K : PySem.W.Frag} {mg : Str → Option Value} {base : Heap}
theorem ok_values {f fD : Addr} {fd fdD : FuncData} (F : Fun K "_law_values" "_law_values" sValues f fd) (GD : FnOk P w K mg base CX0 1 fD fdD ["_law_pool_here", "_law_most"] spDraw)
    (bD : Binds K fdD ["_law_pool_here", "_law_most"] []) (gD : mg "_law_draw" = some (.ref fD)) (kD : PySem.W.keepIn K (.ref fD) = true)
    (mL : mg "list" = none) (mr : mg "range" = none) (ml : mg "len" = none) (mt : mg "tuple" = none) :
    FnOk P w K mg base CX0 2 f fd ["_law_pool_here", "_law_size"] (spValues K) := by
  refine F.ok scValues (fun vs H Q E h => ?_) (fun cdv A outer s H vs Q E hr h => ?_)
  · obtain ⟨p, m, rfl, _⟩ := h
    rfl
  · obtain ⟨p, n, rfl, po, n0, n1, q⟩ := h
    have nd := scValues.nd
    refine ⟨_, pss_cons (ps_par (i := 2) (j := 3) (by rfl) nd rfl rfl (by decide) rfl rfl
        (pa_cons (pe_call GD hr (by rfl) gD kD bD .nil pass0 (pa_cons (pv 0) (pa_cons pe_int pa_nil)))
          (pa_cons (pe_listRg rfl (by rfl) mL (prg_2 (by rfl) mr pe_int (pe_op op_add (pv 1) pe_int))) pa_nil)) (by rfl))
      (pss_cons (ps_if (pt_cmpR op_eq (pv 2) pe_int (nomark _)) (pss_one (ps_set (i := 3) nd rfl (.inl rfl) (pe_listRg rfl (by rfl) mL (prg_2 (by rfl) mr (pe_op op_sub pe_int (pv 1)) pe_int)))) pss_nil)
      (pss_cons (ps_if (pt_cmpR op_gt (pv 2) pe_int (nomark _)) (pss_cons (ps_set (i := 4) nd rfl (.inr rfl) (pe_op op_add pe_int (pe_call GD hr (by rfl) gD kD bD .nil pass0 (pa_cons (pv 0) (pa_cons (pe_op op_fdiv pe_int (pv 1)) pa_nil)))))
          (pss_one (ps_setLc (i := 3) (own := [("_law_one", 7)]) (g := gName 7) rfl nd rfl rfl (sw_true rfl rfl rfl (by decide +kernel))
            (pi_list (pv 3)) (blkOk_by (N := nValues) (sc := defScope sValues) (by decide +kernel))
            (fun _ _ _ _ _ => pg_name (i := 7) nd rfl (Or.inl rfl)) (fun _ _ _ _ _ => pts_nil) (fun _ _ _ _ _ => pe_op op_mul (pv 4) (pv 7))))) pss_nil)
      (pss_cons (ps_set (i := 5) nd rfl (.inl rfl) (pe_lst pa_nil))
      (pss_cons (ps_for PassesOwn.never rfl (pi_range1 (by rfl) mr (pa_cons (pv 1) pa_nil)) (pg_name (i := 6) nd rfl (.inl rfl))
        (pss_one (ps_expr (pe_bm PySem.F.plainAttrs_list PySem.F.slot_list_append PySem.F.type_list_append mt_append (pv 5)
          (pa_cons (pe_bm PySem.F.plainAttrs_list PySem.F.slot_list_pop PySem.F.type_list_pop mt_popAt (pv 3)
            (pa_cons (pe_call GD hr (by rfl) gD kD bD .nil pass0 (pa_cons (pv 0) (pa_cons (pe_callB call_len_seq (by rfl) ml PySem.boot_len (pa_cons (pv 3) pa_nil)) pa_nil))) pa_nil)) pa_nil)))))
      (pss_one (ps_ret (pe_callTy call_tuple_of (by rfl) mt (by decide +kernel) (pa_cons (pv 5) pa_nil)))))))), ?_⟩
    refine ⟨_, rfl, p, 4, rfl, po, by decide, by decide, fun H1 mode k1 po1 _ _ => ?_⟩
    refine ⟨_, rfl, _, _, rfl, rfl, _, _, rfl, rfl, ⟨by omega, by omega, by omega, by omega, by omega⟩, fun e ne => ?_⟩
    have s2 := same_new (o := .lst (rgV 1 ((n : Int) + 1))) ne
    refine ⟨_, _, rfl, vals_ifs (K := K) (p := p) (e := e) n0 n1 (k1.free po1 ne) (Ne.symm (po1.ne ne)) upd_same (k1.trans (.of_same s2)) (po1.same s2) ?_⟩
    rintro σ G ⟨e, y4, ls, rfl, he0, hep, he, v9, kx, po'⟩
    refine ⟨Nat.zero_le _, fun o no => ?_⟩
    have so := same_new (o := .lst []) no
    have neo : e ≠ o := ne_of_none he no
    have npo : p ≠ o := po'.ne no
    have ho0 : H o = none := kx.free po' no
    refine ⟨_, rfl, (n : Int), rfl, by omega, by omega, for_range (lo := 0) (n := n) (fun i σ G' => ∃ (y6 : Option V) (ls fs : List Int),
      σ = [some (.ref p), some (.int n), some (.int mode), some (.ref e), y4, some (.ref o), y6, none] ∧ KeepX p H G' ∧ PoolO (G' p) ∧ G' e = some (.lst (ls.map V.int)) ∧ G' o = some (.lst (fs.map V.int)) ∧
      fs.length = i ∧ Vals9 n (fs ++ ls)) ?_ ?_ ?_⟩
    · exact ⟨none, ls, [], rfl, kx.trans (.of_same so), po'.same so, so _ _ he, upd_same, rfl, v9⟩
    · rintro i σ G' hi ⟨y6, ls, fs, rfl, kx', po2, he', ho', fl, v9'⟩
      have hlen := v9'.len
      rw [List.length_append] at hlen
      have hll : (ls.map V.int).length = ls.length := List.length_map ..
      refine ⟨_, rfl, .inl ⟨rfl, _, SqL.of ho'⟩, _, rfl, .inl ⟨rfl, _, SqL.of he'⟩, _, rfl, _, rfl, e, _, rfl, .inl (SqL.of he'), p, _, rfl, po2, by omega, by omega, fun G5 r k5 po5 r0 r1 => ?_⟩
      have hlt : r.toNat < ls.length := by omega
      have he5 := k5 _ _ hep he'
      have ho5 := k5 _ _ (Ne.symm npo) ho'
      refine ⟨e, ls.map V.int, r, r.toNat, .int ls[r.toNat], rfl, rfl, he5, by omega, by omega, ?_, ?_, ?_⟩
      · unfold seqIndex?
        have e1 : ¬ r < 0 := by omega
        simp only [if_neg e1]
        rw [if_pos]
        simp only [Bool.and_eq_true, decide_eq_true_eq]
        exact ⟨r0, r1⟩
      · rw [List.getElem?_map, List.getElem?_eq_getElem hlt]
        rfl
      · refine ⟨o, fs.map V.int, _, rfl, rfl, by rw [upd_ne (Ne.symm neo)]; exact ho5, ?_, ?_⟩
        · rw [List.length_map]
          exact small64 (by omega)
        · refine ⟨_, ls.eraseIdx r.toNat, fs ++ [ls[r.toNat]], rfl, ?_, ?_, ?_, ?_, ?_, ?_⟩
          · intro b u nb z
            rw [upd_ne (ne_of_none z ho0), upd_ne (ne_of_none z he0)]
            exact k5 _ _ nb (kx' _ _ nb z)
          · rw [upd_ne npo, upd_ne (Ne.symm hep)]
            exact po5
          · rw [upd_ne neo, upd_same, map_eraseIdx]
          · rw [upd_same, List.map_append]
            rfl
          · rw [List.length_append, fl]
            rfl
          · exact v9'.perm (pick_perm hlt)
    · rintro σ G' ⟨y6, ls, fs, rfl, kx', po2, he', ho', fl, v9'⟩
      have hlen := v9'.len
      rw [List.length_append] at hlen
      have e0 : ls = [] := List.eq_nil_of_length_eq_zero (by omega)
      subst e0
      rw [List.append_nil] at v9'
      refine ⟨_, rfl, o, _, rfl, .inl ⟨SqL.of ho', fun l nl => ?_⟩⟩
      have sl := same_new (o := .tup (fs.map V.int)) nl
      exact q _ l fs (kx'.trans (.of_same sl)) (po2.same sl) (SqT.of upd_same) v9' (kx'.free po2 nl)
end
end KS
/-! the end of a row whose law's promise knows of guards and of tables of code objects -/
namespace KS
open PySem PySem.Spec PyProof.Rows L2 LamX
/-- what the head knows of the makers: their tables stand there empty, apart from what is pinned -/
structure Makers (K : PySem.W.Frag) (h : Heap) (ms : List (Addr × Addr)) : Prop where
  emp : ∀ m ∈ ms, h.get? m.2 = some (PySem.W.tabObj #[])
  out : ∀ m ∈ ms, K.lookup m.2 = none
  hd : ∀ m ∈ ms, PySem.W.CodeHd h m.1 m.2
/-- the picture at the entry: the script's list, if it is not pinned, and the tables -/
def pic0 (ms : List (Addr × Addr)) (a : Addr) (pin : Bool) (us : List Value) (ns : List Int) : Hp := fun b =>
  if b ∈ ms.map (·.2) then some (.tbl #[]) else if b = a ∧ pin = false then some (.frz { cls := .type "list", data := .seq us.toArray } (.lst (ns.map V.int))) else none
theorem pic0_tab {ms : List (Addr × Addr)} {a : Addr} {pin : Bool} {us : List Value} {ns : List Int} {m : Addr × Addr} (h : m ∈ ms) : pic0 ms a pin us ns m.2 = some (.tbl #[]) := if_pos (List.mem_map.mpr ⟨m, h, rfl⟩)
theorem pic0_cases (ms : List (Addr × Addr)) (a : Addr) (pin : Bool) (us : List Value) (ns : List Int) (b : Addr) :
    (b ∈ ms.map (·.2) ∧ pic0 ms a pin us ns b = some (.tbl #[])) ∨ (b ∉ ms.map (·.2) ∧ b = a ∧ pin = false ∧ pic0 ms a pin us ns b = some (.frz { cls := .type "list", data := .seq us.toArray } (.lst (ns.map V.int)))) ∨ (b ∉ ms.map (·.2) ∧ pic0 ms a pin us ns b = none) := by
  by_cases h1 : b ∈ ms.map (·.2)
  · exact .inl ⟨h1, if_pos h1⟩
  · by_cases h2 : b = a ∧ pin = false
    · exact .inr (.inl ⟨h1, h2.1, h2.2, (if_neg h1).trans (if_pos h2)⟩)
    · exact .inr (.inr ⟨h1, (if_neg h1).trans (if_neg h2)⟩)
section
variable {P : Program} {w : World} {K : PySem.W.Frag} {mg mb : Str → Option Value} {k : Nat} {fa a : Addr} {fd : FuncData} {x : Str} {sp : Sp} {s1 : Shared} {us : List Value} {ns : List Int} {ms : List (Addr × Addr)}
/-- the law is called; what it promises is told over a picture that holds the tables -/
theorem law_callGT (kin : K.In s1.heap) (nsm : s1.heap.Ns mainGlobals mg) (nsb : s1.heap.Ns builtinsNs mb) (boot : ∀ y : Str, y ≠ "__name__" → mb y = bootBuiltins y) (nolim : s1.heap.NoLimit) (nogen : s1.gens = #[]) (M : Makers K s1.heap ms)
    (bmod : ∃ (bm : Addr) (ob : Obj), mg "__builtins__" = some (.ref bm) ∧ bm ≠ builtinsNs ∧ s1.heap.get? bm = some ob ∧ ob.cls = .type "module" ∧ ob.dict = some builtinsNs ∧ ob.data = .plain)
    (at_a : s1.heap.get? a = some { cls := .type "list", data := .seq us.toArray }) (hints : IntsAre us ns) (few : ns.length ≤ sizeLine) (room : Room k callerA)
    (F : ∀ base : Heap, K.In base → base.Ns mainGlobals mg → (∀ m ∈ ms, TabB base mg m.1 m.2) → FnG P w K mg base k fa fd [x] sp) (binds : ∀ (s : Shared) (u : Value), BindsTo s fd ⟨[u], []⟩ [(x, u)])
    (prom : ∀ H : Hp, (∀ m ∈ ms, H m.2 = some (.tbl #[])) → SqL K H a (ns.map V.int) → sp [.ref a] H (fun v _ => v = .bl true) fun _ _ _ => False) :
    codeAny (model P w) callerA (.call (.ref fa) ⟨[.ref a], []⟩) (fun r s' => r = .ok (.ret (.bool true)) ∧ OldK s1.heap s'.heap ∧ s'.os = s1.os ∧ AllBare s'.gens) s1 := by
  have vals := vals_ints hints
  have ulen := hints.length
  have tabAt : ∀ b : Addr, b ∈ ms.map (·.2) → s1.heap.get? b = some (PySem.W.tabObj #[]) ∧ K.lookup b = none := fun b hb => by
    obtain ⟨m, hm, rfl⟩ := List.mem_map.mp hb
    exact ⟨M.emp m hm, M.out m hm⟩
  have aNot : a ∉ ms.map (·.2) := fun z => by
    have e := (tabAt a z).1
    rw [at_a] at e
    cases congrArg Obj.data (Option.some.inj e)
  -- with or without the script in the picture
  obtain ⟨pin, hpin, sq⟩ : ∃ pin : Bool, (pin = false → K.lookup a = none) ∧ SqL K (pic0 ms a pin us ns) a (ns.map V.int) := by
    cases hk : K.lookup a with
    | some o =>
      have e := kin a o hk
      rw [at_a] at e
      cases e
      exact ⟨true, (fun z => by cases z), .inr ⟨_, us.toArray, _, hk, rfl, rfl, rfl, by rw [List.size_toArray, ulen]; exact few, by simpa using vals⟩⟩
    | none => exact ⟨false, fun _ => rfl, .inl (.inr ⟨_, (if_neg aNot).trans (if_pos ⟨rfl, rfl⟩)⟩)⟩
  have cases3 := pic0_cases ms a pin us ns
  have tabs0 : ∀ m ∈ ms, pic0 ms a pin us ns m.2 = some (.tbl #[]) := fun m hm => pic0_tab hm
  generalize hH : pic0 ms a pin us ns = H at sq cases3 tabs0
  have ok0 : HOk P w H s1.heap := fun b u e => by
    rcases cases3 b with ⟨h1, h2⟩ | ⟨_, rfl, _, h2⟩ | ⟨_, h2⟩
    · cases e.symm.trans h2
      exact (tabAt b h1).1
    · cases e.symm.trans h2
      exact ⟨at_a, by rw [List.length_map]; exact few, us, _, vals, at_a⟩
    · cases e.symm.trans h2
  -- what is no table and no list is not in the picture
  have plain : ∀ {b : Addr} {o : Obj}, s1.heap.get? b = some o → (∀ xs m, o.data ≠ .seq xs m) → (∀ ps : Array Value, ps.size = 0 → o.data ≠ .fields ps) → H b = none := fun {b o} e n1 n2 => by
    rcases cases3 b with ⟨h1, _⟩ | ⟨_, rfl, _, _⟩ | ⟨_, h2⟩
    · rw [(tabAt b h1).1] at e
      cases e
      exact absurd rfl (n2 #[] rfl)
    · rw [at_a] at e
      cases e
      exact absurd rfl (n1 _ _)
    · exact h2
  have seen : ∀ {b : Addr} {o : Obj}, s1.heap.get? b = some o → H b = none → (hidT s1.heap H).get? b = some o := fun e n => hidT_get e n
  have dicts : ∀ {b : Addr} {m : Str → Option Value}, s1.heap.Ns b m → (hidT s1.heap H).Ns b m := by
    rintro b m ⟨o, es, ep, e, d, r⟩
    exact ⟨o, es, ep, seen e (plain e (fun xs m z => by rw [d] at z; cases z) fun ps _ z => by rw [d] at z; cases z), d, r⟩
  have kinB : K.In (hidT s1.heap H) := fun b o e => seen (kin b o e) (by
    rcases cases3 b with ⟨h1, _⟩ | ⟨_, rfl, h3, _⟩ | ⟨_, h2⟩
    · rw [(tabAt b h1).2] at e
      cases e
    · rw [hpin h3] at e
      cases e
    · exact h2)
  have mods : Mod K mg (hidT s1.heap H) := by
    obtain ⟨mc, l1, l2⟩ := nolim
    exact ⟨kinB, dicts nsm, ⟨mb, dicts nsb, boot⟩, mc, dicts l1, l2⟩
  obtain ⟨og, eg, pg, hog, dog, _⟩ := id nsm
  have makers : ∀ m ∈ ms, TabB (hidT s1.heap H) mg m.1 m.2 := fun m hm => by
    refine ⟨?_, ?_, fun z => ?_⟩
    · obtain ⟨o, fs, file, tf, fl, tg, inF, text, tt, e1, r1, r2, r3, rr⟩ := M.hd m hm
      exact ⟨o, fs, file, tf, fl, tg, inF, text, tt, seen e1 (plain e1 (fun xs q z => by rw [r2] at z; cases z) fun ps hp z => by
        rw [r2] at z
        cases z
        rw [Array.getElem?_eq_none (by omega)] at r3
        cases r3), r1, r2, r3, rr⟩
    · obtain ⟨bm, ob, q1, q2, q3, q4, q5, q6⟩ := bmod
      refine ⟨bm, ob, q1, q2, fun z => ?_, fun z => ?_, seen q3 (plain q3 (fun xs q z => by rw [q6] at z; cases z) fun ps _ z => by rw [q6] at z; cases z), q4, q5, q6⟩
      · rw [z, hog] at q3
        cases q3
        rw [dog] at q6
        cases q6
      · rw [z, M.emp m hm] at q3
        cases q3
        cases q6
    · have e := M.emp m hm
      rw [← z, hog] at e
      cases e
      cases dog
  have env : Env0 P w K mg (hidT s1.heap H) callerA [] s1 H :=
    ⟨rfl, mods, fun _ _ e => of_hidT e, Nat.le_of_eq (hidT_size _ _), trivial, (fun b hb => by cases hb), ok0, .of_eq nogen⟩
  refine codeAny_mono ((F _ kinB (dicts nsm) makers).run callerA [] s1 H ⟨[.ref a], []⟩ [.ref a] [.ref a] _ _ room rfl env (binds s1 (.ref a)) (.cons rfl .nil) (prom H tabs0 sq)) fun r s' got => ?_
  match r, got with
  | .ok (.ret u), got =>
    obtain ⟨v, H', os, bare, un, okE, rv, rfl⟩ := got
    obtain rfl : u = Value.bool true := rv
    have stays : ∀ b o, b ∉ ms.map (·.2) → s1.heap.get? b = some o → s'.heap.get? b = some o := fun b o nb e => by
      rcases cases3 b with ⟨h1, _⟩ | ⟨_, rfl, _, h2⟩ | ⟨_, h2⟩
      · exact absurd h1 nb
      · have e2 := (okE b _ (un.frzs b _ _ h2)).1
        rw [at_a] at e
        cases e
        exact e2
      · exact un.keep b o e h2 (fun z => by cases z) (fun z => by cases z)
    have grew : ∀ m ∈ ms, ∃ ps : Array Value, s'.heap.get? m.2 = some (PySem.W.tabObj ps) := fun m hm => by
      obtain ⟨ps, z⟩ := un.tbls m.2 #[] (tabs0 m hm)
      exact ⟨_, okE m.2 _ z⟩
    refine ⟨rfl, ⟨fun b o e => ?_, fun b o e => ?_⟩, os, bare⟩
    · by_cases hb : b ∈ ms.map (·.2)
      · obtain ⟨m, hm, rfl⟩ := List.mem_map.mp hb
        obtain ⟨ps, hps⟩ := grew m hm
        rw [M.emp m hm] at e
        cases e
        refine .inr (.inl ⟨((M.hd m hm).tab (M.emp m hm)).isCodeTable, rfl, #[], ps, rfl, ?_⟩)
        rw [Array.empty_append]
        exact hps
      · exact .inl (stays b o hb e)
    · by_cases hb : b ∈ ms.map (·.2)
      · obtain ⟨m, hm, rfl⟩ := List.mem_map.mp hb
        obtain ⟨ps, hps⟩ := grew m hm
        exact ⟨_, hps⟩
      · exact ⟨o, stays b o hb e⟩
  | .ok .next, got => cases got
  | .ok .brk, got => cases got
  | .ok .cont, got => cases got
  | .error e, got => cases got
end
/-- what the head must show of the law -/
def LawHas (l : PySem.W.OpenLaw) (w : World) (K : PySem.W.Frag) (k n : Nat) (x : Str) (mg : Str → Option Value) (fa : Addr) (h : Heap) : Prop :=
  ∃ (fd : FuncData) (ms : List (Addr × Addr)) (sp : Sp), Makers K h ms ∧ (∀ (s : Shared) (u : Value), BindsTo s fd ⟨[u], []⟩ [(x, u)]) ∧
    (∀ (H : Hp) (a : Addr) (ns : List Int), ns.length ≤ n → (∀ m ∈ ms, H m.2 = some (.tbl #[])) → SqL K H a (ns.map V.int) → sp [.ref a] H (fun v _ => v = .bl true) fun _ _ _ => False) ∧
    ∀ base : Heap, K.In base → base.Ns mainGlobals mg → (∀ m ∈ ms, TabB base mg m.1 m.2) → FnG l.prog w K mg base k fa fd [x] sp
/-- THE END -/
theorem walk_ofGT {l : PySem.W.OpenLaw} {n k : Nat} {q : Program} {loose : List Str} {XP : (Str → Option Value) → Heap → Prop} {YP : World → Heap → Prop} {d : DefRec} {K : Params → PySem.W.Frag} {x : Str}
    (hn : l.most = some n) (hn2 : n ≤ sizeLine) (hdf : d.params.defaults = []) (hr : Room k callerA) (hY : ∀ (w : World) (h : Heap), YP w h → (K w.params).In h)
    (F : ∀ (w : World) (mg : Str → Option Value) (fa : Addr) (h : Heap), YP w h → h.Ns mainGlobals mg → mg d.name = some (.ref fa) → LawHas l w (K w.params) k n x mg fa h) :
    PySem.W.WalkO q loose XP YP l.row.toRowW d [] (fun f vs => PySem.call f vs) := by
  refine Att.attach_call hn hdf fun w s0 s1 mg mb fa o pm cd doc a us ns G Y ho hd hcd hmg hobj hints hlen hg => ?_
  obtain ⟨fd, ms, sp, hM, hb, hs, hF⟩ := F w mg fa _ Y G.T.g hmg
  exact law_callGT (hY w _ Y) G.T.g G.T.b G.T.builtins G.T.nolimit hg hM G.T.bmain hobj hints (Nat.le_trans hlen hn2) hr hF hb (fun H hT hS => hs H a ns hlen hT hS)
/-- the table of the code object at c, as its own record tells it -/
def tabOf (K : PySem.W.Frag) (c : Addr) : Addr := match K.lookup c with
  | some ⟨_, _, .fields vs, _⟩ => (match (vs[11]? : Option Value) with | some (.ref P) => P | _ => 0)
  | _ => 0
theorem tab_there {ts : List Addr} {h : Heap} {P : Addr} (hT : ∀ P ∈ ts, h.get? P = some (PySem.W.tabObj #[])) (e : ts.contains P = true) : h.get? P = some (PySem.W.tabObj #[]) := hT P (by simpa using e)
theorem out_of {K : PySem.W.Frag} {P : Addr} (e : (K.lookup P).isNone = true) : K.lookup P = none := by simpa using e
end KS
/-! for the end: what the written part says of the classes that are caught -/
namespace KS
open PySem PySem.Spec PyProof.Rows L2
def clsQB (K : PySem.W.Frag) (cl bl : List Addr) : Bool := (List.range 5).all fun i =>
  xfB K (cl.getD i 0) && decide (PySem.W.exmAny K (.ref (cl.getD i 0)) [.ref (bl.getD 0 0), .ref (bl.getD 1 0), .ref (bl.getD 2 0)] = some true) && decide (PySem.W.findIn K (.ref (cl.getD i 0)) (fldQ i) = some none)
theorem clsQB_at {K : PySem.W.Frag} {cl bl : List Addr} (h : clsQB K cl bl = true) {i : Nat} (hi : i < 5) : ClsQ K (fun i => cl.getD i 0) (fun i => bl.getD i 0) i := by
  unfold clsQB at h
  have h := List.all_eq_true.mp h i (List.mem_range.mpr hi)
  rw [Bool.and_eq_true, Bool.and_eq_true] at h
  obtain ⟨⟨h1, h2⟩, h3⟩ := h
  exact ⟨of_decide_eq_true h2, xfB_ok h1, of_decide_eq_true h3⟩
section
variable {P : Program} {w : World} {K : PySem.W.Frag} {mg : Str → Option Value} {base : Heap} {C CF : Addr}
/-- is_sorted passes errors on -/
theorem badP_sorted {f fO : Addr} {fd fdO : FuncData} (F : Fun K "is_sorted" "is_sorted" sIsSorted f fd) (GO : FnOk P w K mg base (L2.CX P w) 6 fO fdO ["plan", "filling", "kind"] (spBadP K C 3)) (bO : Binds K fdO ["plan", "filling", "kind"] []) (gO : mg "sort_lines" = some (.ref fO)) (kO : PySem.W.keepIn K (.ref fO) = true) :
    FnOk P w K mg base (L2.CX P w) 7 f fd ["plan", "filling", "kind"] (spBadP K C 3) := ok_badSorted F (fun vs H Q E h => by
    obtain ⟨v, r, b, rfl, e, _⟩ := h
    exact e) (fun vs H Q Q' E h => h) GO bO gO kO
theorem badF_sorted {f fO : Addr} {fd fdO : FuncData} (F : Fun K "is_sorted" "is_sorted" sIsSorted f fd) (GO : FnOk P w K mg base (L2.CX P w) 6 fO fdO ["plan", "filling", "kind"] (spBadF K CF 3)) (bO : Binds K fdO ["plan", "filling", "kind"] []) (gO : mg "sort_lines" = some (.ref fO)) (kO : PySem.W.keepIn K (.ref fO) = true) :
    FnOk P w K mg base (L2.CX P w) 7 f fd ["plan", "filling", "kind"] (spBadF K CF 3) := ok_badSorted F (fun vs H Q E h => by
    obtain ⟨a, cs, u, r, c, rfl, e, _⟩ := h
    exact e) (fun vs H Q Q' E h => h) GO bO gO kO
end
end KS
namespace KS
open PySem PySem.Spec PyProof.Rows L2
-- topS
theorem all_mk {l : PySem.W.OpenLaw} {w : World} {K : PySem.W.Frag} {h : Heap} {mg : Str → Option Value} {fa f0 f1 f2 f3 f4 f5 f6 f7 f8 f9 f10 f11 f12 f13 f14 f15 f16 f17 f18 f19 f20 f21 f22 f23 f24 f25 f26 f27 f28 f29 f30 f31 f32 f33 f34 f35 f36 f37 f38 f39 f40 f41 f42 f43 f44 f45 f46 f47 cc42 cc43 cc44 cc45 : Addr} (X : K.In h) (G : h.Ns mainGlobals mg) (hfa : mg "law" = some (.ref fa))
    {od0 an0 od1 an1 od2 an2 od3 an3 od4 an4 od5 an5 od6 an6 od7 an7 od8 an8 od9 an9 od10 an10 od11 an11 od12 an12 od13 an13 od14 an14 od15 an15 od16 an16 od17 an17 od18 an18 od19 an19 od20 an20 od21 an21 od22 an22 od23 an23 od24 an24 od25 an25 od26 an26 od27 an27 od28 an28 od29 an29 od30 an30 od31 an31 od32 an32 od33 an33 od34 an34 od35 an35 od36 an36 od37 an37 od38 an38 od39 an39 od40 an40 od41 an41 od42 an42 od43 an43 od44 an44 od45 an45 od46 an46 od47 an47 : Option Addr} {sl0 sl1 sl2 sl3 sl4 sl5 sl6 sl7 sl8 sl9 sl10 sl11 sl12 sl13 sl14 sl15 sl16 sl17 sl18 sl19 sl20 sl21 sl22 sl23 sl24 sl25 sl26 sl27 sl28 sl29 sl30 sl31 sl32 sl33 sl34 sl35 sl36 sl37 sl38 sl39 sl40 sl41 sl42 sl43 sl44 sl45 sl46 sl47 : Array (Option Value)}
    {oc0 kV0 dc0 pm0 cd0 ct0 oc1 kV1 dc1 pm1 cd1 ct1 oc2 kV2 dc2 pm2 cd2 ct2 oc3 kV3 dc3 pm3 cd3 ct3 oc4 kV4 dc4 pm4 cd4 ct4 oc5 kV5 dc5 pm5 cd5 ct5 oc6 kV6 dc6 pm6 cd6 ct6 oc7 kV7 dc7 pm7 cd7 ct7 oc8 kV8 dc8 pm8 cd8 ct8 oc9 kV9 dc9 pm9 cd9 ct9 oc10 kV10 dc10 pm10 cd10 ct10 oc11 kV11 dc11 pm11 cd11 ct11 oc12 kV12 dc12 pm12 cd12 ct12 oc13 kV13 dc13 pm13 cd13 ct13 oc14 kV14 dc14 pm14 cd14 ct14 oc15 kV15 dc15 pm15 cd15 ct15 oc16 kV16 dc16 pm16 cd16 ct16 oc17 kV17 dc17 pm17 cd17 ct17 oc18 kV18 dc18 pm18 cd18 ct18 oc19 kV19 dc19 pm19 cd19 ct19 oc20 kV20 dc20 pm20 cd20 ct20 oc21 kV21 dc21 pm21 cd21 ct21 oc22 kV22 dc22 pm22 cd22 ct22 oc23 kV23 dc23 pm23 cd23 ct23 oc24 kV24 dc24 pm24 cd24 ct24 oc25 kV25 dc25 pm25 cd25 ct25 oc26 kV26 dc26 pm26 cd26 ct26 oc27 kV27 dc27 pm27 cd27 ct27 oc28 kV28 dc28 pm28 cd28 ct28 oc29 kV29 dc29 pm29 cd29 ct29 oc30 kV30 dc30 pm30 cd30 ct30 oc31 kV31 dc31 pm31 cd31 ct31 oc32 kV32 dc32 pm32 cd32 ct32 oc33 kV33 dc33 pm33 cd33 ct33 oc34 kV34 dc34 pm34 cd34 ct34 oc35 kV35 dc35 pm35 cd35 ct35 oc36 kV36 dc36 pm36 cd36 ct36 oc37 kV37 dc37 pm37 cd37 ct37 oc38 kV38 dc38 pm38 cd38 ct38 oc39 kV39 dc39 pm39 cd39 ct39 oc40 kV40 dc40 pm40 cd40 ct40 oc41 kV41 dc41 pm41 cd41 ct41 oc42 kV42 dc42 pm42  ct42 oc43 kV43 dc43 pm43  ct43 oc44 kV44 dc44 pm44  ct44 oc45 kV45 dc45 pm45  ct45 oc46 kV46 dc46 pm46 cd46 ct46 oc47 kV47 dc47 pm47 cd47 ct47 : Value} {tk0 tk1 tk2 tk3 : Tok}
    (a0 : PySem.W.nsIn K mainGlobals "is_whole" = some (some (.ref f0)))
    (l0 : K.lookup f0 = some ⟨oc0, od0, .func (PySem.W.fnOf "is_whole" "is_whole" (defArgs sWhole) (defBody sWhole) (defScope sWhole) .none kV0 dc0 pm0 an0 cd0 ct0), sl0⟩)
    (c0 : PySem.W.codeIn K cd0 "is_whole" = true) (k0 : PySem.W.keepIn K (.ref f0) = true)
    (a1 : PySem.W.nsIn K mainGlobals "is_between" = some (some (.ref f1)))
    (l1 : K.lookup f1 = some ⟨oc1, od1, .func (PySem.W.fnOf "is_between" "is_between" (defArgs sBetween) (defBody sBetween) (defScope sBetween) .none kV1 dc1 pm1 an1 cd1 ct1), sl1⟩)
    (c1 : PySem.W.codeIn K cd1 "is_between" = true) (k1 : PySem.W.keepIn K (.ref f1) = true)
    (a2 : PySem.W.nsIn K mainGlobals "is_place" = some (some (.ref f2)))
    (l2 : K.lookup f2 = some ⟨oc2, od2, .func (PySem.W.fnOf "is_place" "is_place" (defArgs sPlace) (defBody sPlace) (defScope sPlace) .none kV2 dc2 pm2 an2 cd2 ct2), sl2⟩)
    (c2 : PySem.W.codeIn K cd2 "is_place" = true) (k2 : PySem.W.keepIn K (.ref f2) = true)
    (a3 : PySem.W.nsIn K mainGlobals "is_cell" = some (some (.ref f3)))
    (l3 : K.lookup f3 = some ⟨oc3, od3, .func (PySem.W.fnOf "is_cell" "is_cell" (defArgs sIsCell) (defBody sIsCell) (defScope sIsCell) .none kV3 dc3 pm3 an3 cd3 ct3), sl3⟩)
    (c3 : PySem.W.codeIn K cd3 "is_cell" = true) (k3 : PySem.W.keepIn K (.ref f3) = true)
    (a4 : PySem.W.nsIn K mainGlobals "check_plan" = some (some (.ref f4)))
    (l4 : K.lookup f4 = some ⟨oc4, od4, .func (PySem.W.fnOf "check_plan" "check_plan" (defArgs sCheck) (defBody sCheck) (defScope sCheck) .none kV4 dc4 pm4 an4 cd4 ct4), sl4⟩)
    (c4 : PySem.W.codeIn K cd4 "check_plan" = true) (k4 : PySem.W.keepIn K (.ref f4) = true)
    (a5 : PySem.W.nsIn K mainGlobals "is_kind" = some (some (.ref f5)))
    (l5 : K.lookup f5 = some ⟨oc5, od5, .func (PySem.W.fnOf "is_kind" "is_kind" (defArgs sIsKind) (defBody sIsKind) (defScope sIsKind) .none kV5 dc5 pm5 an5 cd5 ct5), sl5⟩)
    (c5 : PySem.W.codeIn K cd5 "is_kind" = true) (k5 : PySem.W.keepIn K (.ref f5) = true)
    (a6 : PySem.W.nsIn K mainGlobals "check_kind" = some (some (.ref f6)))
    (l6 : K.lookup f6 = some ⟨oc6, od6, .func (PySem.W.fnOf "check_kind" "check_kind" (defArgs sKind) (defBody sKind) (defScope sKind) .none kV6 dc6 pm6 an6 cd6 ct6), sl6⟩)
    (c6 : PySem.W.codeIn K cd6 "check_kind" = true) (k6 : PySem.W.keepIn K (.ref f6) = true)
    (a7 : PySem.W.nsIn K mainGlobals "lines" = some (some (.ref f7)))
    (l7 : K.lookup f7 = some ⟨oc7, od7, .func (PySem.W.fnOf "lines" "lines" (defArgs sLines) (defBody sLines) (defScope sLines) .none kV7 dc7 pm7 an7 cd7 ct7), sl7⟩)
    (c7 : PySem.W.codeIn K cd7 "lines" = true) (k7 : PySem.W.keepIn K (.ref f7) = true)
    (a8 : PySem.W.nsIn K mainGlobals "transposed" = some (some (.ref f8)))
    (l8 : K.lookup f8 = some ⟨oc8, od8, .func (PySem.W.fnOf "transposed" "transposed" (defArgs sTrans) (defBody sTrans) (defScope sTrans) .none kV8 dc8 pm8 an8 cd8 ct8), sl8⟩)
    (c8 : PySem.W.codeIn K cd8 "transposed" = true) (k8 : PySem.W.keepIn K (.ref f8) = true)
    (a9 : PySem.W.nsIn K mainGlobals "is_rectangle" = some (some (.ref f9)))
    (l9 : K.lookup f9 = some ⟨oc9, od9, .func (PySem.W.fnOf "is_rectangle" "is_rectangle" (defArgs sRect) (defBody sRect) (defScope sRect) .none kV9 dc9 pm9 an9 cd9 ct9), sl9⟩)
    (c9 : PySem.W.codeIn K cd9 "is_rectangle" = true) (k9 : PySem.W.keepIn K (.ref f9) = true)
    (a10 : PySem.W.nsIn K mainGlobals "first_fault" = some (some (.ref f10)))
    (l10 : K.lookup f10 = some ⟨oc10, od10, .func (PySem.W.fnOf "first_fault" "first_fault" (defArgs sFF) (defBody sFF) (defScope sFF) .none kV10 dc10 pm10 an10 cd10 ct10), sl10⟩)
    (c10 : PySem.W.codeIn K cd10 "first_fault" = true) (k10 : PySem.W.keepIn K (.ref f10) = true)
    (a11 : PySem.W.nsIn K mainGlobals "check_filling" = some (some (.ref f11)))
    (l11 : K.lookup f11 = some ⟨oc11, od11, .func (PySem.W.fnOf "check_filling" "check_filling" (defArgs sCheckF) (defBody sCheckF) (defScope sCheckF) .none kV11 dc11 pm11 an11 cd11 ct11), sl11⟩)
    (c11 : PySem.W.codeIn K cd11 "check_filling" = true) (k11 : PySem.W.keepIn K (.ref f11) = true)
    (a12 : PySem.W.nsIn K mainGlobals "is_filling" = some (some (.ref f12)))
    (l12 : K.lookup f12 = some ⟨oc12, od12, .func (PySem.W.fnOf "is_filling" "is_filling" (defArgs sIsFill) (defBody sIsFill) (defScope sIsFill) .none kV12 dc12 pm12 an12 cd12 ct12), sl12⟩)
    (c12 : PySem.W.codeIn K cd12 "is_filling" = true) (k12 : PySem.W.keepIn K (.ref f12) = true)
    (a13 : PySem.W.nsIn K mainGlobals "filling_of_marks" = some (some (.ref f13)))
    (l13 : K.lookup f13 = some ⟨oc13, od13, .func (PySem.W.fnOf "filling_of_marks" "filling_of_marks" (defArgs sMarks) (defBody sMarks) (defScope sMarks) .none kV13 dc13 pm13 an13 cd13 ct13), sl13⟩)
    (c13 : PySem.W.codeIn K cd13 "filling_of_marks" = true) (k13 : PySem.W.keepIn K (.ref f13) = true)
    (a14 : PySem.W.nsIn K mainGlobals "ranks" = some (some (.ref f14)))
    (l14 : K.lookup f14 = some ⟨oc14, od14, .func (PySem.W.fnOf "ranks" "ranks" (defArgs sRanks) (defBody sRanks) (defScope sRanks) .none kV14 dc14 pm14 an14 cd14 ct14), sl14⟩)
    (c14 : PySem.W.codeIn K cd14 "ranks" = true) (k14 : PySem.W.keepIn K (.ref f14) = true)
    (a15 : PySem.W.nsIn K mainGlobals "signs" = some (some (.ref f15)))
    (l15 : K.lookup f15 = some ⟨oc15, od15, .func (PySem.W.fnOf "signs" "signs" (defArgs sSigns) (defBody sSigns) (defScope sSigns) .none kV15 dc15 pm15 an15 cd15 ct15), sl15⟩)
    (c15 : PySem.W.codeIn K cd15 "signs" = true) (k15 : PySem.W.keepIn K (.ref f15) = true)
    (a16 : PySem.W.nsIn K mainGlobals "check_letters" = some (some (.ref f16)))
    (l16 : K.lookup f16 = some ⟨oc16, od16, .func (PySem.W.fnOf "check_letters" "check_letters" (defArgs sCheckL) (defBody sCheckL) (defScope sCheckL) .none kV16 dc16 pm16 an16 cd16 ct16), sl16⟩)
    (c16 : PySem.W.codeIn K cd16 "check_letters" = true) (k16 : PySem.W.keepIn K (.ref f16) = true)
    (a17 : PySem.W.nsIn K mainGlobals "check_word" = some (some (.ref f17)))
    (l17 : K.lookup f17 = some ⟨oc17, od17, .func (PySem.W.fnOf "check_word" "check_word" (defArgs sCheckW) (defBody sCheckW) (defScope sCheckW) .none kV17 dc17 pm17 an17 cd17 ct17), sl17⟩)
    (c17 : PySem.W.codeIn K cd17 "check_word" = true) (k17 : PySem.W.keepIn K (.ref f17) = true)
    (a18 : PySem.W.nsIn K mainGlobals "other_kind" = some (some (.ref f18)))
    (l18 : K.lookup f18 = some ⟨oc18, od18, .func (PySem.W.fnOf "other_kind" "other_kind" (defArgs sOther) (defBody sOther) (defScope sOther) .none kV18 dc18 pm18 an18 cd18 ct18), sl18⟩)
    (c18 : PySem.W.codeIn K cd18 "other_kind" = true) (k18 : PySem.W.keepIn K (.ref f18) = true)
    (a19 : PySem.W.nsIn K mainGlobals "sorted_along" = some (some (.ref f19)))
    (l19 : K.lookup f19 = some ⟨oc19, od19, .func (PySem.W.fnOf "sorted_along" "sorted_along" (defArgs sAlong) (defBody sAlong) (defScope sAlong) .none kV19 dc19 pm19 an19 cd19 ct19), sl19⟩)
    (c19 : PySem.W.codeIn K cd19 "sorted_along" = true) (k19 : PySem.W.keepIn K (.ref f19) = true)
    (a20 : PySem.W.nsIn K mainGlobals "sort_lines" = some (some (.ref f20)))
    (l20 : K.lookup f20 = some ⟨oc20, od20, .func (PySem.W.fnOf "sort_lines" "sort_lines" (defArgs sSortLines) (defBody sSortLines) (defScope sSortLines) .none kV20 dc20 pm20 an20 cd20 ct20), sl20⟩)
    (c20 : PySem.W.codeIn K cd20 "sort_lines" = true) (k20 : PySem.W.keepIn K (.ref f20) = true)
    (a21 : PySem.W.nsIn K mainGlobals "after" = some (some (.ref f21)))
    (l21 : K.lookup f21 = some ⟨oc21, od21, .func (PySem.W.fnOf "after" "after" (defArgs sAfterP) (defBody sAfterP) (defScope sAfterP) .none kV21 dc21 pm21 an21 cd21 ct21), sl21⟩)
    (c21 : PySem.W.codeIn K cd21 "after" = true) (k21 : PySem.W.keepIn K (.ref f21) = true)
    (a22 : PySem.W.nsIn K mainGlobals "is_sorted" = some (some (.ref f22)))
    (l22 : K.lookup f22 = some ⟨oc22, od22, .func (PySem.W.fnOf "is_sorted" "is_sorted" (defArgs sIsSorted) (defBody sIsSorted) (defScope sIsSorted) .none kV22 dc22 pm22 an22 cd22 ct22), sl22⟩)
    (c22 : PySem.W.codeIn K cd22 "is_sorted" = true) (k22 : PySem.W.keepIn K (.ref f22) = true)
    (a23 : PySem.W.nsIn K mainGlobals "is_settled_table" = some (some (.ref f23)))
    (l23 : K.lookup f23 = some ⟨oc23, od23, .func (PySem.W.fnOf "is_settled_table" "is_settled_table" (defArgs sSettled) (defBody sSettled) (defScope sSettled) .none kV23 dc23 pm23 an23 cd23 ct23), sl23⟩)
    (c23 : PySem.W.codeIn K cd23 "is_settled_table" = true) (k23 : PySem.W.keepIn K (.ref f23) = true)
    (a24 : PySem.W.nsIn K mainGlobals "rest" = some (some (.ref f24)))
    (l24 : K.lookup f24 = some ⟨oc24, od24, .func (PySem.W.fnOf "rest" "rest" (defArgs sRestP) (defBody sRestP) (defScope sRestP) .none kV24 dc24 pm24 an24 cd24 ct24), sl24⟩)
    (c24 : PySem.W.codeIn K cd24 "rest" = true) (k24 : PySem.W.keepIn K (.ref f24) = true)
    (a25 : PySem.W.nsIn K mainGlobals "is_obstacle" = some (some (.ref f25)))
    (l25 : K.lookup f25 = some ⟨oc25, od25, .func (PySem.W.fnOf "is_obstacle" "is_obstacle" (defArgs sIsObs) (defBody sIsObs) (defScope sIsObs) .none kV25 dc25 pm25 an25 cd25 ct25), sl25⟩)
    (c25 : PySem.W.codeIn K cd25 "is_obstacle" = true) (k25 : PySem.W.keepIn K (.ref f25) = true)
    (a26 : PySem.W.nsIn K mainGlobals "obstacle" = some (some (.ref f26)))
    (l26 : K.lookup f26 = some ⟨oc26, od26, .func (PySem.W.fnOf "obstacle" "obstacle" (defArgs sObs) (defBody sObs) (defScope sObs) .none kV26 dc26 pm26 an26 cd26 ct26), sl26⟩)
    (c26 : PySem.W.codeIn K cd26 "obstacle" = true) (k26 : PySem.W.keepIn K (.ref f26) = true)
    (a27 : PySem.W.nsIn K mainGlobals "keeps" = some (some (.ref f27)))
    (l27 : K.lookup f27 = some ⟨oc27, od27, .func (PySem.W.fnOf "keeps" "keeps" (defArgs sKeeps) (defBody sKeeps) (defScope sKeeps) .none kV27 dc27 pm27 an27 cd27 ct27), sl27⟩)
    (c27 : PySem.W.codeIn K cd27 "keeps" = true) (k27 : PySem.W.keepIn K (.ref f27) = true)
    (a28 : PySem.W.nsIn K mainGlobals "breaks_for_rows" = some (some (.ref f28)))
    (l28 : K.lookup f28 = some ⟨oc28, od28, .func (PySem.W.fnOf "breaks_for_rows" "breaks_for_rows" (defArgs sBfr) (defBody sBfr) (defScope sBfr) .none kV28 dc28 pm28 an28 cd28 ct28), sl28⟩)
    (c28 : PySem.W.codeIn K cd28 "breaks_for_rows" = true) (k28 : PySem.W.keepIn K (.ref f28) = true)
    (a29 : PySem.W.nsIn K mainGlobals "breaking_filling" = some (some (.ref f29)))
    (l29 : K.lookup f29 = some ⟨oc29, od29, .func (PySem.W.fnOf "breaking_filling" "breaking_filling" (defArgs sBf) (defBody sBf) (defScope sBf) .none kV29 dc29 pm29 an29 cd29 ct29), sl29⟩)
    (c29 : PySem.W.codeIn K cd29 "breaking_filling" = true) (k29 : PySem.W.keepIn K (.ref f29) = true)
    (a30 : PySem.W.nsIn K mainGlobals "_law_cell" = some (some (.ref f30)))
    (l30 : K.lookup f30 = some ⟨oc30, od30, .func (PySem.W.fnOf "_law_cell" "_law_cell" (defArgs sCell) (defBody sCell) (defScope sCell) .none kV30 dc30 pm30 an30 cd30 ct30), sl30⟩)
    (c30 : PySem.W.codeIn K cd30 "_law_cell" = true) (k30 : PySem.W.keepIn K (.ref f30) = true)
    (a31 : PySem.W.nsIn K mainGlobals "_law_pool" = some (some (.ref f31)))
    (l31 : K.lookup f31 = some ⟨oc31, od31, .func (PySem.W.fnOf "_law_pool" "_law_pool" (defArgs sPool) (defBody sPool) (defScope sPool) .none kV31 dc31 pm31 an31 cd31 ct31), sl31⟩)
    (c31 : PySem.W.codeIn K cd31 "_law_pool" = true) (k31 : PySem.W.keepIn K (.ref f31) = true)
    (a32 : PySem.W.nsIn K mainGlobals "_law_draw" = some (some (.ref f32)))
    (l32 : K.lookup f32 = some ⟨oc32, od32, .func (PySem.W.fnOf "_law_draw" "_law_draw" (defArgs sDraw) (defBody sDraw) (defScope sDraw) .none kV32 dc32 pm32 an32 cd32 ct32), sl32⟩)
    (c32 : PySem.W.codeIn K cd32 "_law_draw" = true) (k32 : PySem.W.keepIn K (.ref f32) = true)
    (a33 : PySem.W.nsIn K mainGlobals "_law_plan" = some (some (.ref f33)))
    (l33 : K.lookup f33 = some ⟨oc33, od33, .func (PySem.W.fnOf "_law_plan" "_law_plan" (defArgs sPlan) (defBody sPlan) (defScope sPlan) .none kV33 dc33 pm33 an33 cd33 ct33), sl33⟩)
    (c33 : PySem.W.codeIn K cd33 "_law_plan" = true) (k33 : PySem.W.keepIn K (.ref f33) = true)
    (a34 : PySem.W.nsIn K mainGlobals "_law_values" = some (some (.ref f34)))
    (l34 : K.lookup f34 = some ⟨oc34, od34, .func (PySem.W.fnOf "_law_values" "_law_values" (defArgs sValues) (defBody sValues) (defScope sValues) .none kV34 dc34 pm34 an34 cd34 ct34), sl34⟩)
    (c34 : PySem.W.codeIn K cd34 "_law_values" = true) (k34 : PySem.W.keepIn K (.ref f34) = true)
    (a35 : PySem.W.nsIn K mainGlobals "_law_is_cell" = some (some (.ref f35)))
    (l35 : K.lookup f35 = some ⟨oc35, od35, .func (PySem.W.fnOf "_law_is_cell" "_law_is_cell" (defArgs sLisCell) (defBody sLisCell) (defScope sLisCell) .none kV35 dc35 pm35 an35 cd35 ct35), sl35⟩)
    (c35 : PySem.W.codeIn K cd35 "_law_is_cell" = true) (k35 : PySem.W.keepIn K (.ref f35) = true)
    (a36 : PySem.W.nsIn K mainGlobals "_law_plan_fault" = some (some (.ref f36)))
    (l36 : K.lookup f36 = some ⟨oc36, od36, .func (PySem.W.fnOf "_law_plan_fault" "_law_plan_fault" (defArgs sPFault) (defBody sPFault) (defScope sPFault) .none kV36 dc36 pm36 an36 cd36 ct36), sl36⟩)
    (c36 : PySem.W.codeIn K cd36 "_law_plan_fault" = true) (k36 : PySem.W.keepIn K (.ref f36) = true)
    (a37 : PySem.W.nsIn K mainGlobals "_law_bent_plan" = some (some (.ref f37)))
    (l37 : K.lookup f37 = some ⟨oc37, od37, .func (PySem.W.fnOf "_law_bent_plan" "_law_bent_plan" (defArgs sBent) (defBody sBent) (defScope sBent) .none kV37 dc37 pm37 an37 cd37 ct37), sl37⟩)
    (c37 : PySem.W.codeIn K cd37 "_law_bent_plan" = true) (k37 : PySem.W.keepIn K (.ref f37) = true)
    (a38 : PySem.W.nsIn K mainGlobals "_law_values_fault" = some (some (.ref f38)))
    (l38 : K.lookup f38 = some ⟨oc38, od38, .func (PySem.W.fnOf "_law_values_fault" "_law_values_fault" (defArgs sFault) (defBody sFault) (defScope sFault) .none kV38 dc38 pm38 an38 cd38 ct38), sl38⟩)
    (c38 : PySem.W.codeIn K cd38 "_law_values_fault" = true) (k38 : PySem.W.keepIn K (.ref f38) = true)
    (a39 : PySem.W.nsIn K mainGlobals "_law_bent_values" = some (some (.ref f39)))
    (l39 : K.lookup f39 = some ⟨oc39, od39, .func (PySem.W.fnOf "_law_bent_values" "_law_bent_values" (defArgs sBentV) (defBody sBentV) (defScope sBentV) .none kV39 dc39 pm39 an39 cd39 ct39), sl39⟩)
    (c39 : PySem.W.codeIn K cd39 "_law_bent_values" = true) (k39 : PySem.W.keepIn K (.ref f39) = true)
    (a40 : PySem.W.nsIn K mainGlobals "_law_kind" = some (some (.ref f40)))
    (l40 : K.lookup f40 = some ⟨oc40, od40, .func (PySem.W.fnOf "_law_kind" "_law_kind" (defArgs sLKind) (defBody sLKind) (defScope sLKind) .none kV40 dc40 pm40 an40 cd40 ct40), sl40⟩)
    (c40 : PySem.W.codeIn K cd40 "_law_kind" = true) (k40 : PySem.W.keepIn K (.ref f40) = true)
    (a41 : PySem.W.nsIn K mainGlobals "_law_caught" = some (some (.ref f41)))
    (l41 : K.lookup f41 = some ⟨oc41, od41, .func (PySem.W.fnOf "_law_caught" "_law_caught" (defArgs sCaught) (defBody sCaught) (defScope sCaught) .none kV41 dc41 pm41 an41 cd41 ct41), sl41⟩)
    (c41 : PySem.W.codeIn K cd41 "_law_caught" = true) (k41 : PySem.W.keepIn K (.ref f41) = true)
    (a42 : PySem.W.nsIn K mainGlobals "_law_plan_doors" = some (some (.ref f42)))
    (l42 : K.lookup f42 = some ⟨oc42, od42, .func (PySem.W.fnOf "_law_plan_doors" "_law_plan_doors" (defArgs sPDoors) (defBody sPDoors) (defScope sPDoors) .none kV42 dc42 pm42 an42 (.ref cc42) ct42), sl42⟩)
    (c42 : PySem.W.codeIn K (.ref cc42) "_law_plan_doors" = true) (k42 : PySem.W.keepIn K (.ref f42) = true)
    (a43 : PySem.W.nsIn K mainGlobals "_law_both_doors" = some (some (.ref f43)))
    (l43 : K.lookup f43 = some ⟨oc43, od43, .func (PySem.W.fnOf "_law_both_doors" "_law_both_doors" (defArgs sBDoors) (defBody sBDoors) (defScope sBDoors) .none kV43 dc43 pm43 an43 (.ref cc43) ct43), sl43⟩)
    (c43 : PySem.W.codeIn K (.ref cc43) "_law_both_doors" = true) (k43 : PySem.W.keepIn K (.ref f43) = true)
    (a44 : PySem.W.nsIn K mainGlobals "_law_plans_right" = some (some (.ref f44)))
    (l44 : K.lookup f44 = some ⟨oc44, od44, .func (PySem.W.fnOf "_law_plans_right" "_law_plans_right" (defArgs sPlansR) (defBody sPlansR) (defScope sPlansR) .none kV44 dc44 pm44 an44 (.ref cc44) ct44), sl44⟩)
    (c44 : PySem.W.codeIn K (.ref cc44) "_law_plans_right" = true) (k44 : PySem.W.keepIn K (.ref f44) = true)
    (a45 : PySem.W.nsIn K mainGlobals "_law_pairs_right" = some (some (.ref f45)))
    (l45 : K.lookup f45 = some ⟨oc45, od45, .func (PySem.W.fnOf "_law_pairs_right" "_law_pairs_right" (defArgs sPrsR05) (defBody sPrsR05) (defScope sPrsR05) .none kV45 dc45 pm45 an45 (.ref cc45) ct45), sl45⟩)
    (c45 : PySem.W.codeIn K (.ref cc45) "_law_pairs_right" = true) (k45 : PySem.W.keepIn K (.ref f45) = true)
    (a46 : PySem.W.nsIn K mainGlobals "_law_right" = some (some (.ref f46)))
    (l46 : K.lookup f46 = some ⟨oc46, od46, .func (PySem.W.fnOf "_law_right" "_law_right" (defArgs sRight05) (defBody sRight05) (defScope sRight05) .none kV46 dc46 pm46 an46 cd46 ct46), sl46⟩)
    (c46 : PySem.W.codeIn K cd46 "_law_right" = true) (k46 : PySem.W.keepIn K (.ref f46) = true)
    (a47 : PySem.W.nsIn K mainGlobals "law" = some (some (.ref f47)))
    (l47 : K.lookup f47 = some ⟨oc47, od47, .func (PySem.W.fnOf "law" "law" (defArgs sLaw05) (defBody sLaw05) (defScope sLaw05) .none kV47 dc47 pm47 an47 cd47 ct47), sl47⟩)
    (c47 : PySem.W.codeIn K cd47 "law" = true) (k47 : PySem.W.keepIn K (.ref f47) = true)
    (z0 : PySem.W.nsIn K mainGlobals "isinstance" = some none)
    (z1 : PySem.W.nsIn K mainGlobals "int" = some none)
    (z2 : PySem.W.nsIn K mainGlobals "bool" = some none)
    (z3 : PySem.W.nsIn K mainGlobals "tuple" = some none)
    (z4 : PySem.W.nsIn K mainGlobals "len" = some none)
    (z5 : PySem.W.nsIn K mainGlobals "enumerate" = some none)
    (z6 : PySem.W.nsIn K mainGlobals "str" = some none)
    (z7 : PySem.W.nsIn K mainGlobals "sorted" = some none)
    (z8 : PySem.W.nsIn K mainGlobals "max" = some none)
    (z9 : PySem.W.nsIn K mainGlobals "min" = some none)
    (z10 : PySem.W.nsIn K mainGlobals "range" = some none)
    (z11 : PySem.W.nsIn K mainGlobals "list" = some none)
    (z12 : PySem.W.nsIn K mainGlobals "zip" = some none)
    (z13 : PySem.W.nsIn K mainGlobals "abs" = some none)
    (z14 : PySem.W.nsIn K mainGlobals "divmod" = some none)
    (z15 : PySem.W.nsIn K mainGlobals "sum" = some none)
    (z16 : PySem.W.nsIn K mainGlobals "all" = some none)
    (z17 : PySem.W.nsIn K mainGlobals "ValueError" = some none)
    (z18 : PySem.W.nsIn K mainGlobals "LookupError" = some none)
    (z19 : PySem.W.nsIn K mainGlobals "ArithmeticError" = some none)
    (z20 : PySem.W.nsIn K mainGlobals "repr" = some none)
    (w0 : PySem.W.nsIn K mainGlobals "MOST_INDEX" = some (some (.int 7 tk0)))
    (w1 : PySem.W.nsIn K mainGlobals "MOST_CELLS" = some (some (.int 24 tk1)))
    (w2 : PySem.W.nsIn K mainGlobals "MOST_VALUE" = some (some (.int 9999 tk2)))
    (w3 : PySem.W.nsIn K mainGlobals "MOST_LETTERS" = some (some (.int 400 tk3)))
    {Ce0 fNe0 Sxe0 Ne0 : Addr} {nme0 qe0 : Str} {bse0 : List Value} {sne0 : List Str} {sube0 : List Value} {abe0 : Bool} {cole0 : Option Bool} {dde0 : Option Addr} {x0e0 x1e0 x2e0 x3e0 x5e0 : Option Value}
    {odNe0 anNe0 : Option Addr} {slNe0 : Array (Option Value)} {ocNe0 dcNe0 pmNe0 cdNe0 ctNe0 : Value} {p1e0 p2e0 q1e0 q2e0 q3e0 q4e0 : Pos}
    (aCe0 : PySem.W.nsIn K mainGlobals "InvalidPlan" = some (some (.ref Ce0)))
    (xLe0 : K.lookup Ce0 = some (excClassObj nme0 qe0 Ce0 Ne0 bse0 [.ref Sxe0, .type "ValueError", .type "Exception", .type "BaseException", .type "object"] true sne0 sube0 abe0 cole0 dde0 x0e0 x1e0 x2e0 x3e0 x5e0 "ValueError.__new__"))
    (sae0 : PySem.W.findIn K (.ref Ce0) "__setattr__" = some (some (.builtin "object.__setattr__"))) (gae0 : PySem.W.findIn K (.ref Ce0) "__getattribute__" = some (some (.builtin "BaseException.__getattribute__")))
    (gge0 : PySem.W.findIn K (.ref Ce0) "__getattr__" = some none) (nbe0 : PySem.W.findIn K (.ref Ce0) "index" = some none)
    (aNe0 : PySem.W.findIn K (.ref Ce0) "__init__" = some (some (.ref fNe0))) (tNe0 : PySem.W.typeIn K (.ref fNe0) = some (.type "function"))
    (lNe0 : K.lookup fNe0 = some ⟨ocNe0, odNe0, .func (PySem.W.fnOf "__init__" "InvalidPlan.__init__" (PySem.XInvalidPlan.iA p1e0 p2e0) (PySem.XInvalidPlan.iB q1e0 q2e0 q3e0 q4e0) PySem.XInvalidPlan.iS .none .none dcNe0 pmNe0 anNe0 cdNe0 ctNe0), slNe0⟩) (cNe0 : PySem.W.codeIn K cdNe0 "InvalidPlan.__init__" = true)
    (kCe0 : PySem.W.keepIn K (.ref Ce0) = true) (eCe0 : PySem.W.subIn K (.ref Ce0) (.type "BaseException") = some true) (tCe0 : PySem.W.typeIn K (.ref Ce0) = some (.type "type")) (hCe0 : PySem.W.hasDictIn K Ce0 = true) (iCe0 : PySem.W.isClsIn K Ce0 = true) (sCe0 : PySem.W.subIn K (.ref Ce0) (.ref Ce0) = some true)
    {Ce1 fNe1 Sxe1 Ne1 : Addr} {nme1 qe1 : Str} {bse1 : List Value} {sne1 : List Str} {sube1 : List Value} {abe1 : Bool} {cole1 : Option Bool} {dde1 : Option Addr} {x0e1 x1e1 x2e1 x3e1 x5e1 : Option Value}
    {odNe1 anNe1 : Option Addr} {slNe1 : Array (Option Value)} {ocNe1 dcNe1 pmNe1 cdNe1 ctNe1 : Value} {p1e1 p2e1 q1e1 q2e1 q3e1 q4e1 : Pos}
    (aCe1 : PySem.W.nsIn K mainGlobals "InvalidFilling" = some (some (.ref Ce1)))
    (xLe1 : K.lookup Ce1 = some (excClassObj nme1 qe1 Ce1 Ne1 bse1 [.ref Sxe1, .type "ValueError", .type "Exception", .type "BaseException", .type "object"] true sne1 sube1 abe1 cole1 dde1 x0e1 x1e1 x2e1 x3e1 x5e1 "ValueError.__new__"))
    (sae1 : PySem.W.findIn K (.ref Ce1) "__setattr__" = some (some (.builtin "object.__setattr__"))) (gae1 : PySem.W.findIn K (.ref Ce1) "__getattribute__" = some (some (.builtin "BaseException.__getattribute__")))
    (gge1 : PySem.W.findIn K (.ref Ce1) "__getattr__" = some none) (nbe1 : PySem.W.findIn K (.ref Ce1) "index" = some none)
    (aNe1 : PySem.W.findIn K (.ref Ce1) "__init__" = some (some (.ref fNe1))) (tNe1 : PySem.W.typeIn K (.ref fNe1) = some (.type "function"))
    (lNe1 : K.lookup fNe1 = some ⟨ocNe1, odNe1, .func (PySem.W.fnOf "__init__" "InvalidFilling.__init__" (PySem.XInvalidFilling.iA p1e1 p2e1) (PySem.XInvalidFilling.iB q1e1 q2e1 q3e1 q4e1) PySem.XInvalidFilling.iS .none .none dcNe1 pmNe1 anNe1 cdNe1 ctNe1), slNe1⟩) (cNe1 : PySem.W.codeIn K cdNe1 "InvalidFilling.__init__" = true)
    (kCe1 : PySem.W.keepIn K (.ref Ce1) = true) (eCe1 : PySem.W.subIn K (.ref Ce1) (.type "BaseException") = some true) (tCe1 : PySem.W.typeIn K (.ref Ce1) = some (.type "type")) (hCe1 : PySem.W.hasDictIn K Ce1 = true) (iCe1 : PySem.W.isClsIn K Ce1 = true) (sCe1 : PySem.W.subIn K (.ref Ce1) (.ref Ce1) = some true)
    {C_0 C_1 C_2 C_3 C_4 C_5 C_6 C_7 C_8 C_9 C_10 C_11 C_12 C_13 C_14 C_15 C_16 C_17 C_18 C_19 C_20 S_0 S_1 S_2 : Addr}
    (aC_0 : PySem.W.nsIn K mainGlobals "InvalidPlan" = some (some (.ref C_0)))
    (aC_1 : PySem.W.nsIn K mainGlobals "InvalidKind" = some (some (.ref C_1)))
    (aC_2 : PySem.W.nsIn K mainGlobals "InvalidFilling" = some (some (.ref C_2)))
    (aC_3 : PySem.W.nsIn K mainGlobals "InvalidNumber" = some (some (.ref C_3)))
    (aC_4 : PySem.W.nsIn K mainGlobals "InvalidWord" = some (some (.ref C_4)))
    (aC_5 : PySem.W.nsIn K mainGlobals "InvalidProgram" = some (some (.ref C_5)))
    (aC_6 : PySem.W.nsIn K mainGlobals "InvalidText" = some (some (.ref C_6)))
    (aC_7 : PySem.W.nsIn K mainGlobals "InvalidLengths" = some (some (.ref C_7)))
    (aC_8 : PySem.W.nsIn K mainGlobals "InvalidTable" = some (some (.ref C_8)))
    (aC_9 : PySem.W.nsIn K mainGlobals "InvalidRecord" = some (some (.ref C_9)))
    (aC_10 : PySem.W.nsIn K mainGlobals "InvalidCell" = some (some (.ref C_10)))
    (aC_11 : PySem.W.nsIn K mainGlobals "InvalidValue" = some (some (.ref C_11)))
    (aC_12 : PySem.W.nsIn K mainGlobals "InvalidEdit" = some (some (.ref C_12)))
    (aC_13 : PySem.W.nsIn K mainGlobals "InvalidCommand" = some (some (.ref C_13)))
    (aC_14 : PySem.W.nsIn K mainGlobals "OtherValues" = some (some (.ref C_14)))
    (aC_15 : PySem.W.nsIn K mainGlobals "UnknownName" = some (some (.ref C_15)))
    (aC_16 : PySem.W.nsIn K mainGlobals "NoOrder" = some (some (.ref C_16)))
    (aC_17 : PySem.W.nsIn K mainGlobals "ValueTaken" = some (some (.ref C_17)))
    (aC_18 : PySem.W.nsIn K mainGlobals "NothingToUndo" = some (some (.ref C_18)))
    (aC_19 : PySem.W.nsIn K mainGlobals "TooManyCells" = some (some (.ref C_19)))
    (aC_20 : PySem.W.nsIn K mainGlobals "TooManyEdits" = some (some (.ref C_20)))
    (aS_0 : PySem.W.nsIn K mainGlobals "SortError" = some (some (.ref S_0)))
    (aS_1 : PySem.W.nsIn K mainGlobals "FindError" = some (some (.ref S_1)))
    (aS_2 : PySem.W.nsIn K mainGlobals "LimitError" = some (some (.ref S_2)))
    (hkit : kitQB K [C_0, C_1, C_2, C_3, C_4, C_5, C_6, C_7, C_8, C_9, C_10, C_11, C_12, C_13, C_14, C_15, C_16, C_17, C_18, C_19, C_20] [S_0, S_1, S_2] = true) (hcls : clsQB K [C_0, C_1, C_2, C_3, C_4, C_5, C_6, C_7, C_8, C_9, C_10, C_11, C_12, C_13, C_14, C_15, C_16, C_17, C_18, C_19, C_20] [S_0, S_1, S_2] = true)
    (h42 : PySem.W.codeHdIn K cc42 (tabOf K cc42) = true) (o42 : (K.lookup (tabOf K cc42)).isNone = true) (t42 : h.get? (tabOf K cc42) = some (PySem.W.tabObj #[]))
    (h43 : PySem.W.codeHdIn K cc43 (tabOf K cc43) = true) (o43 : (K.lookup (tabOf K cc43)).isNone = true) (t43 : h.get? (tabOf K cc43) = some (PySem.W.tabObj #[]))
    (h44 : PySem.W.codeHdIn K cc44 (tabOf K cc44) = true) (o44 : (K.lookup (tabOf K cc44)).isNone = true) (t44 : h.get? (tabOf K cc44) = some (PySem.W.tabObj #[]))
    (h45 : PySem.W.codeHdIn K cc45 (tabOf K cc45) = true) (o45 : (K.lookup (tabOf K cc45)).isNone = true) (t45 : h.get? (tabOf K cc45) = some (PySem.W.tabObj #[]))
    (e42_43 : (tabOf K cc42 == tabOf K cc43) = false)
    (e42_44 : (tabOf K cc42 == tabOf K cc44) = false)
    (e42_45 : (tabOf K cc42 == tabOf K cc45) = false)
    (e43_44 : (tabOf K cc43 == tabOf K cc44) = false)
    (e43_45 : (tabOf K cc43 == tabOf K cc45) = false)
    (e44_45 : (tabOf K cc44 == tabOf K cc45) = false)
    : LawHas l w K 17 63 "_law_script" mg fa h := by
  have e := hfa.symm.trans (PySem.W.mg_of X G a47)
  cases e
  have F0 := fun_mk (st := sWhole) l0 c0 k0
  have m0 := PySem.W.mg_of X G a0
  have F1 := fun_mk (st := sBetween) l1 c1 k1
  have m1 := PySem.W.mg_of X G a1
  have F2 := fun_mk (st := sPlace) l2 c2 k2
  have m2 := PySem.W.mg_of X G a2
  have F3 := fun_mk (st := sIsCell) l3 c3 k3
  have m3 := PySem.W.mg_of X G a3
  have F4 := fun_mk (st := sCheck) l4 c4 k4
  have m4 := PySem.W.mg_of X G a4
  have F5 := fun_mk (st := sIsKind) l5 c5 k5
  have m5 := PySem.W.mg_of X G a5
  have F6 := fun_mk (st := sKind) l6 c6 k6
  have m6 := PySem.W.mg_of X G a6
  have F7 := fun_mk (st := sLines) l7 c7 k7
  have m7 := PySem.W.mg_of X G a7
  have F8 := fun_mk (st := sTrans) l8 c8 k8
  have m8 := PySem.W.mg_of X G a8
  have F9 := fun_mk (st := sRect) l9 c9 k9
  have m9 := PySem.W.mg_of X G a9
  have F10 := fun_mk (st := sFF) l10 c10 k10
  have m10 := PySem.W.mg_of X G a10
  have F11 := fun_mk (st := sCheckF) l11 c11 k11
  have m11 := PySem.W.mg_of X G a11
  have F12 := fun_mk (st := sIsFill) l12 c12 k12
  have m12 := PySem.W.mg_of X G a12
  have F13 := fun_mk (st := sMarks) l13 c13 k13
  have m13 := PySem.W.mg_of X G a13
  have F14 := fun_mk (st := sRanks) l14 c14 k14
  have m14 := PySem.W.mg_of X G a14
  have F15 := fun_mk (st := sSigns) l15 c15 k15
  have m15 := PySem.W.mg_of X G a15
  have F16 := fun_mk (st := sCheckL) l16 c16 k16
  have m16 := PySem.W.mg_of X G a16
  have F17 := fun_mk (st := sCheckW) l17 c17 k17
  have m17 := PySem.W.mg_of X G a17
  have F18 := fun_mk (st := sOther) l18 c18 k18
  have m18 := PySem.W.mg_of X G a18
  have F19 := fun_mk (st := sAlong) l19 c19 k19
  have m19 := PySem.W.mg_of X G a19
  have F20 := fun_mk (st := sSortLines) l20 c20 k20
  have m20 := PySem.W.mg_of X G a20
  have F21 := fun_mk (st := sAfterP) l21 c21 k21
  have m21 := PySem.W.mg_of X G a21
  have F22 := fun_mk (st := sIsSorted) l22 c22 k22
  have m22 := PySem.W.mg_of X G a22
  have F23 := fun_mk (st := sSettled) l23 c23 k23
  have m23 := PySem.W.mg_of X G a23
  have F24 := fun_mk (st := sRestP) l24 c24 k24
  have m24 := PySem.W.mg_of X G a24
  have F25 := fun_mk (st := sIsObs) l25 c25 k25
  have m25 := PySem.W.mg_of X G a25
  have F26 := fun_mk (st := sObs) l26 c26 k26
  have m26 := PySem.W.mg_of X G a26
  have F27 := fun_mk (st := sKeeps) l27 c27 k27
  have m27 := PySem.W.mg_of X G a27
  have F28 := fun_mk (st := sBfr) l28 c28 k28
  have m28 := PySem.W.mg_of X G a28
  have F29 := fun_mk (st := sBf) l29 c29 k29
  have m29 := PySem.W.mg_of X G a29
  have F30 := fun_mk (st := sCell) l30 c30 k30
  have m30 := PySem.W.mg_of X G a30
  have F31 := fun_mk (st := sPool) l31 c31 k31
  have m31 := PySem.W.mg_of X G a31
  have F32 := fun_mk (st := sDraw) l32 c32 k32
  have m32 := PySem.W.mg_of X G a32
  have F33 := fun_mk (st := sPlan) l33 c33 k33
  have m33 := PySem.W.mg_of X G a33
  have F34 := fun_mk (st := sValues) l34 c34 k34
  have m34 := PySem.W.mg_of X G a34
  have F35 := fun_mk (st := sLisCell) l35 c35 k35
  have m35 := PySem.W.mg_of X G a35
  have F36 := fun_mk (st := sPFault) l36 c36 k36
  have m36 := PySem.W.mg_of X G a36
  have F37 := fun_mk (st := sBent) l37 c37 k37
  have m37 := PySem.W.mg_of X G a37
  have F38 := fun_mk (st := sFault) l38 c38 k38
  have m38 := PySem.W.mg_of X G a38
  have F39 := fun_mk (st := sBentV) l39 c39 k39
  have m39 := PySem.W.mg_of X G a39
  have F40 := fun_mk (st := sLKind) l40 c40 k40
  have m40 := PySem.W.mg_of X G a40
  have F41 := fun_mk (st := sCaught) l41 c41 k41
  have m41 := PySem.W.mg_of X G a41
  have U42 := fun_mk (st := sPDoors) l42 c42 k42
  have F42 : FunC K "_law_plan_doors" "_law_plan_doors" sPDoors f42 cc42 _ := ⟨_, _, _, _, _, _, _, _, rfl, l42, c42⟩
  have m42 := PySem.W.mg_of X G a42
  have U43 := fun_mk (st := sBDoors) l43 c43 k43
  have F43 : FunC K "_law_both_doors" "_law_both_doors" sBDoors f43 cc43 _ := ⟨_, _, _, _, _, _, _, _, rfl, l43, c43⟩
  have m43 := PySem.W.mg_of X G a43
  have U44 := fun_mk (st := sPlansR) l44 c44 k44
  have F44 : FunC K "_law_plans_right" "_law_plans_right" sPlansR f44 cc44 _ := ⟨_, _, _, _, _, _, _, _, rfl, l44, c44⟩
  have m44 := PySem.W.mg_of X G a44
  have U45 := fun_mk (st := sPrsR05) l45 c45 k45
  have F45 : FunC K "_law_pairs_right" "_law_pairs_right" sPrsR05 f45 cc45 _ := ⟨_, _, _, _, _, _, _, _, rfl, l45, c45⟩
  have m45 := PySem.W.mg_of X G a45
  have F46 := fun_mk (st := sRight05) l46 c46 k46
  have m46 := PySem.W.mg_of X G a46
  have F47 := fun_mk (st := sLaw05) l47 c47 k47
  have m47 := PySem.W.mg_of X G a47
  have n_isinstance := PySem.W.mg_none_of X G z0
  have n_int := PySem.W.mg_none_of X G z1
  have n_bool := PySem.W.mg_none_of X G z2
  have n_tuple := PySem.W.mg_none_of X G z3
  have n_len := PySem.W.mg_none_of X G z4
  have n_enumerate := PySem.W.mg_none_of X G z5
  have n_str := PySem.W.mg_none_of X G z6
  have n_sorted := PySem.W.mg_none_of X G z7
  have n_max := PySem.W.mg_none_of X G z8
  have n_min := PySem.W.mg_none_of X G z9
  have n_range := PySem.W.mg_none_of X G z10
  have n_list := PySem.W.mg_none_of X G z11
  have n_zip := PySem.W.mg_none_of X G z12
  have n_abs := PySem.W.mg_none_of X G z13
  have n_divmod := PySem.W.mg_none_of X G z14
  have n_sum := PySem.W.mg_none_of X G z15
  have n_all := PySem.W.mg_none_of X G z16
  have n_ValueError := PySem.W.mg_none_of X G z17
  have n_LookupError := PySem.W.mg_none_of X G z18
  have n_ArithmeticError := PySem.W.mg_none_of X G z19
  have n_repr := PySem.W.mg_none_of X G z20
  have c_MOST_INDEX := PySem.W.mg_of X G w0
  have c_MOST_CELLS := PySem.W.mg_of X G w1
  have c_MOST_VALUE := PySem.W.mg_of X G w2
  have c_MOST_LETTERS := PySem.W.mg_of X G w3
  have b0 := F0.binds (ps := ["value"]) fun _ _ _ _ _ _ us hl => match us, hl with | [_], _ => rfl
  have b1 := F1.binds (ps := ["value", "least", "most"]) fun _ _ _ _ _ _ us hl => match us, hl with | [_, _, _], _ => rfl
  have b2 := F2.binds (ps := ["value"]) fun _ _ _ _ _ _ us hl => match us, hl with | [_], _ => rfl
  have b3 := F3.binds (ps := ["value"]) fun _ _ _ _ _ _ us hl => match us, hl with | [_], _ => rfl
  have b4 := F4.binds (ps := ["plan"]) fun _ _ _ _ _ _ us hl => match us, hl with | [_], _ => rfl
  have b5 := F5.binds (ps := ["value"]) fun _ _ _ _ _ _ us hl => match us, hl with | [_], _ => rfl
  have b6 := F6.binds (ps := ["kind"]) fun _ _ _ _ _ _ us hl => match us, hl with | [_], _ => rfl
  have b7 := F7.binds (ps := ["plan", "kind"]) fun _ _ _ _ _ _ us hl => match us, hl with | [_, _], _ => rfl
  have b8 := F8.binds (ps := ["plan"]) fun _ _ _ _ _ _ us hl => match us, hl with | [_], _ => rfl
  have b9 := F9.binds (ps := ["plan"]) fun _ _ _ _ _ _ us hl => match us, hl with | [_], _ => rfl
  have b10 := F10.binds (ps := ["values", "most"]) fun _ _ _ _ _ _ us hl => match us, hl with | [_, _], _ => rfl
  have b11 := F11.binds (ps := ["size", "filling"]) fun _ _ _ _ _ _ us hl => match us, hl with | [_, _], _ => rfl
  have b12 := F12.binds (ps := ["plan", "value"]) fun _ _ _ _ _ _ us hl => match us, hl with | [_, _], _ => rfl
  have b13 := F13.binds (ps := ["marks"]) fun _ _ _ _ _ _ us hl => match us, hl with | [_], _ => rfl
  have b14 := F14.binds (ps := ["plan", "filling"]) fun _ _ _ _ _ _ us hl => match us, hl with | [_, _], _ => rfl
  have b15 := F15.binds (ps := ["plan", "filling", "limit"]) fun _ _ _ _ _ _ us hl => match us, hl with | [_, _, _], _ => rfl
  have b16 := F16.binds (ps := ["word", "letters"]) fun _ _ _ _ _ _ us hl => match us, hl with | [_, _], _ => rfl
  have b17 := F17.binds (ps := ["word"]) fun _ _ _ _ _ _ us hl => match us, hl with | [_], _ => rfl
  have b18 := F18.binds (ps := ["kind"]) fun _ _ _ _ _ _ us hl => match us, hl with | [_], _ => rfl
  have b19 := F19.binds (ps := ["groups", "filling"]) fun _ _ _ _ _ _ us hl => match us, hl with | [_, _], _ => rfl
  have b20 := F20.binds (ps := ["plan", "filling", "kind"]) fun _ _ _ _ _ _ us hl => match us, hl with | [_, _, _], _ => rfl
  have b21 := F21.binds (ps := ["plan", "filling", "word"]) fun _ _ _ _ _ _ us hl => match us, hl with | [_, _, _], _ => rfl
  have b22 := F22.binds (ps := ["plan", "filling", "kind"]) fun _ _ _ _ _ _ us hl => match us, hl with | [_, _, _], _ => rfl
  have b23 := F23.binds (ps := ["plan", "filling"]) fun _ _ _ _ _ _ us hl => match us, hl with | [_, _], _ => rfl
  have b24 := F24.binds (ps := ["plan", "filling", "kind"]) fun _ _ _ _ _ _ us hl => match us, hl with | [_, _, _], _ => rfl
  have b25 := F25.binds (ps := ["plan", "upper", "lower", "left", "right"]) fun _ _ _ _ _ _ us hl => match us, hl with | [_, _, _, _, _], _ => rfl
  have b26 := F26.binds (ps := ["plan"]) fun _ _ _ _ _ _ us hl => match us, hl with | [_], _ => rfl
  have b27 := F27.binds (ps := ["plan"]) fun _ _ _ _ _ _ us hl => match us, hl with | [_], _ => rfl
  have b28 := F28.binds (ps := ["plan", "found"]) fun _ _ _ _ _ _ us hl => match us, hl with | [_, _], _ => rfl
  have b29 := F29.binds (ps := ["plan", "kind"]) fun _ _ _ _ _ _ us hl => match us, hl with | [_, _], _ => rfl
  have b30 := F30.binds (ps := ["_law_script", "_law_k"]) fun _ _ _ _ _ _ us hl => match us, hl with | [_, _], _ => rfl
  have b31 := F31.binds (ps := ["_law_number"]) fun _ _ _ _ _ _ us hl => match us, hl with | [_], _ => rfl
  have b32 := F32.binds (ps := ["_law_pool_here", "_law_most"]) fun _ _ _ _ _ _ us hl => match us, hl with | [_, _], _ => rfl
  have b33 := F33.binds (ps := ["_law_pool_here", "_law_most"]) fun _ _ _ _ _ _ us hl => match us, hl with | [_, _], _ => rfl
  have b34 := F34.binds (ps := ["_law_pool_here", "_law_size"]) fun _ _ _ _ _ _ us hl => match us, hl with | [_, _], _ => rfl
  have b35 := F35.binds (ps := ["_law_thing"]) fun _ _ _ _ _ _ us hl => match us, hl with | [_], _ => rfl
  have b36 := F36.binds (ps := ["_law_thing"]) fun _ _ _ _ _ _ us hl => match us, hl with | [_], _ => rfl
  have b37 := F37.binds (ps := ["_law_pool_here", "_law_spots"]) fun _ _ _ _ _ _ us hl => match us, hl with | [_, _], _ => rfl
  have b38 := F38.binds (ps := ["_law_thing", "_law_size"]) fun _ _ _ _ _ _ us hl => match us, hl with | [_, _], _ => rfl
  have b39 := F39.binds (ps := ["_law_pool_here", "_law_some"]) fun _ _ _ _ _ _ us hl => match us, hl with | [_, _], _ => rfl
  have b40 := F40.binds (ps := ["_law_e"]) fun _ _ _ _ _ _ us hl => match us, hl with | [_], _ => rfl
  have b41 := F41.binds (ps := ["_law_act"]) fun _ _ _ _ _ _ us hl => match us, hl with | [_], _ => rfl
  have b42 := U42.binds (ps := []) fun _ _ _ _ _ _ us hl => match us, hl with | [], _ => rfl
  have b43 := U43.binds (ps := []) fun _ _ _ _ _ _ us hl => match us, hl with | [], _ => rfl
  have b44 := U44.binds (ps := ["_law_things"]) fun _ _ _ _ _ _ us hl => match us, hl with | [_], _ => rfl
  have b45 := U45.binds (ps := ["_law_pairs"]) fun _ _ _ _ _ _ us hl => match us, hl with | [_], _ => rfl
  have b46 := F46.binds (ps := ["_law_pool_here"]) fun _ _ _ _ _ _ us hl => match us, hl with | [_], _ => rfl
  have lowInvalidPlan : PySem.XInvalidPlan.InvalidPlanTxt K mg Ce0 fNe0 :=
    { gC := PySem.W.mg_of X G aCe0, cls := ⟨nme0, qe0, Ne0, bse0, _, sne0, sube0, abe0, cole0, dde0, x0e0, x1e0, x2e0, x3e0, x5e0, xLe0, rfl⟩, sa := sae0, ga := gae0, gg := gge0, noN := nbe0, iC := aNe0, tC := tNe0, kC := kCe0, exC := eCe0, tyC := tCe0, hdC := hCe0, te := exm_self eCe0 iCe0 tCe0 sCe0, fn := ⟨_, _, _, _, _, _, _, _, _, _, _, _, _, _, lNe0, cNe0⟩ }
  have lowInvalidFilling : PySem.XInvalidFilling.InvalidFillingTxt K mg Ce1 fNe1 :=
    { gC := PySem.W.mg_of X G aCe1, cls := ⟨nme1, qe1, Ne1, bse1, _, sne1, sube1, abe1, cole1, dde1, x0e1, x1e1, x2e1, x3e1, x5e1, xLe1, rfl⟩, sa := sae1, ga := gae1, gg := gge1, noN := nbe1, iC := aNe1, tC := tNe1, kC := kCe1, exC := eCe1, tyC := tCe1, hdC := hCe1, te := exm_self eCe1 iCe1 tCe1 sCe1, fn := ⟨_, _, _, _, _, _, _, _, _, _, _, _, _, _, lNe1, cNe1⟩ }
  have eC0 : Ce0 = C_0 := by
    have := aCe0.symm.trans aC_0
    injection this with this
    injection this with this
    injection this
  have eC2 : Ce1 = C_2 := by
    have := aCe1.symm.trans aC_2
    injection this with this
    injection this with this
    injection this
  subst eC0
  subst eC2
  have JK : Kinds K mg (fun i => ([Ce0, C_1, Ce1, C_3, C_4, C_5, C_6, C_7, C_8, C_9, C_10, C_11, C_12, C_13, C_14, C_15, C_16, C_17, C_18, C_19, C_20] : List Addr).getD i 0) (fun i => ([S_0, S_1, S_2] : List Addr).getD i 0) := {
    m0 := PySem.W.mg_of X G aC_0
    m1 := PySem.W.mg_of X G aC_1
    m2 := PySem.W.mg_of X G aC_2
    m3 := PySem.W.mg_of X G aC_3
    m4 := PySem.W.mg_of X G aC_4
    m5 := PySem.W.mg_of X G aC_5
    m6 := PySem.W.mg_of X G aC_6
    m7 := PySem.W.mg_of X G aC_7
    m8 := PySem.W.mg_of X G aC_8
    m9 := PySem.W.mg_of X G aC_9
    m10 := PySem.W.mg_of X G aC_10
    m11 := PySem.W.mg_of X G aC_11
    m12 := PySem.W.mg_of X G aC_12
    m13 := PySem.W.mg_of X G aC_13
    m14 := PySem.W.mg_of X G aC_14
    m15 := PySem.W.mg_of X G aC_15
    m16 := PySem.W.mg_of X G aC_16
    m17 := PySem.W.mg_of X G aC_17
    m18 := PySem.W.mg_of X G aC_18
    m19 := PySem.W.mg_of X G aC_19
    m20 := PySem.W.mg_of X G aC_20
    b0 := PySem.W.mg_of X G aS_0
    b1 := PySem.W.mg_of X G aS_1
    b2 := PySem.W.mg_of X G aS_2
    kit := fun i hi => (kitQB_at hkit hi).2.1
    kit0 := fun i hi => (kitQB_at hkit hi).2.2.1
    kit1 := fun i hi => (kitQB_at hkit hi).2.2.2.1
    kit2 := fun i hi => (kitQB_at hkit hi).2.2.2.2.1
    own0 := fun i hi => (kitQB_at hkit hi).2.2.2.2.2.1
    own1 := fun i hi => (kitQB_at hkit hi).2.2.2.2.2.2.1
    own2 := fun i hi => (kitQB_at hkit hi).2.2.2.2.2.2.2
    ec := fun i hi => (kitQB_at hkit hi).1 }
  have JC0 := clsQB_at hcls (show 0 < 5 by decide)
  have JC2 := clsQB_at hcls (show 2 < 5 by decide)
  have ne42_43 : tabOf K cc42 ≠ tabOf K cc43 := fun z => by rw [z, beq_self_eq_true] at e42_43; cases e42_43
  have ne43_42 := Ne.symm ne42_43
  have ne42_44 : tabOf K cc42 ≠ tabOf K cc44 := fun z => by rw [z, beq_self_eq_true] at e42_44; cases e42_44
  have ne44_42 := Ne.symm ne42_44
  have ne42_45 : tabOf K cc42 ≠ tabOf K cc45 := fun z => by rw [z, beq_self_eq_true] at e42_45; cases e42_45
  have ne45_42 := Ne.symm ne42_45
  have ne43_44 : tabOf K cc43 ≠ tabOf K cc44 := fun z => by rw [z, beq_self_eq_true] at e43_44; cases e43_44
  have ne44_43 := Ne.symm ne43_44
  have ne43_45 : tabOf K cc43 ≠ tabOf K cc45 := fun z => by rw [z, beq_self_eq_true] at e43_45; cases e43_45
  have ne45_43 := Ne.symm ne43_45
  have ne44_45 : tabOf K cc44 ≠ tabOf K cc45 := fun z => by rw [z, beq_self_eq_true] at e44_45; cases e44_45
  have ne45_44 := Ne.symm ne44_45
  refine ⟨PySem.W.fnOf "law" "law" (defArgs sLaw05) (defBody sLaw05) (defScope sLaw05) .none kV47 dc47 pm47 an47 cd47 ct47, [(cc42, tabOf K cc42), (cc43, tabOf K cc43), (cc44, tabOf K cc44), (cc45, tabOf K cc45)], spLawT [(tabOf K cc42, lamPD), (tabOf K cc43, lamBD), (tabOf K cc44, lamPR), (tabOf K cc45, lamQR)] K, ⟨?_, ?_, ?_⟩, fun s v => .of_eq rfl, fun H a ns hl hT hS => ⟨a, ns, rfl, hS, hl, ?_, fun _ => rfl⟩, fun base _ _ hTB => ?_⟩
  · intro m hm
    simp only [List.mem_cons, List.not_mem_nil, or_false] at hm
    rcases hm with rfl | rfl | rfl | rfl
    · exact t42
    · exact t43
    · exact t44
    · exact t45
  · intro m hm
    simp only [List.mem_cons, List.not_mem_nil, or_false] at hm
    rcases hm with rfl | rfl | rfl | rfl
    · exact out_of o42
    · exact out_of o43
    · exact out_of o44
    · exact out_of o45
  · intro m hm
    simp only [List.mem_cons, List.not_mem_nil, or_false] at hm
    rcases hm with rfl | rfl | rfl | rfl
    · exact PySem.W.codeHd_of_K X h42
    · exact PySem.W.codeHd_of_K X h43
    · exact PySem.W.codeHd_of_K X h44
    · exact PySem.W.codeHd_of_K X h45
  · intro m hm
    simp only [List.mem_cons, List.not_mem_nil, or_false] at hm
    rcases hm with rfl | rfl | rfl | rfl
    · exact LamX.TabS.nil (hT (cc42, tabOf K cc42) (by simp))
    · exact LamX.TabS.nil (hT (cc43, tabOf K cc43) (by simp))
    · exact LamX.TabS.nil (hT (cc44, tabOf K cc44) (by simp))
    · exact LamX.TabS.nil (hT (cc45, tabOf K cc45) (by simp))
  have G0 := ok_whole (P := l.prog) (w := w) (mg := mg) (base := base) F0 n_isinstance n_int n_bool
  have G0G := ok_wholeG (P := l.prog) (w := w) (mg := mg) (base := base) F0 n_isinstance n_int n_bool
  have G1 := ok_between (P := l.prog) (w := w) (mg := mg) (base := base) F1 G0 b0 m0 k0
  have G1G := ok_betweenG (P := l.prog) (w := w) (mg := mg) (base := base) F1 G0G b0 m0 k0
  have G2 := ok_place (P := l.prog) (w := w) (mg := mg) (base := base) F2 G1 b1 m1 k1 c_MOST_INDEX
  have G2G := ok_placeG (P := l.prog) (w := w) (mg := mg) (base := base) F2 G1G b1 m1 k1 c_MOST_INDEX
  have G3 := ok_isCell (P := l.prog) (w := w) (mg := mg) (base := base) F3 G2 b2 m2 k2 n_isinstance n_tuple n_len
  have G3G := ok_isCellG (P := l.prog) (w := w) (mg := mg) (base := base) F3 G2G b2 m2 k2 n_isinstance n_tuple n_len
  have G4 := ok_check (P := l.prog) (w := w) (mg := mg) (base := base) F4 G3 b3 m3 k3 n_isinstance n_tuple n_len n_enumerate c_MOST_CELLS
  have G4G := ok_checkPG (P := l.prog) (w := w) (mg := mg) (base := base) F4 G3G b3 m3 k3 lowInvalidPlan n_isinstance n_tuple n_len n_enumerate c_MOST_CELLS
  have G5 := ok_isKind (P := l.prog) (w := w) (mg := mg) (base := base) F5 n_isinstance n_str
  have G6 := ok_kind (P := l.prog) (w := w) (mg := mg) (base := base) F6 G5 b5 m5 k5
  have G7 := ok_lines (P := l.prog) (w := w) (mg := mg) (base := base) F7 G4 b4 m4 k4 G6 b6 m6 k6 n_enumerate n_tuple n_sorted
  have G7D := pd_lines (P := l.prog) (w := w) (mg := mg) (base := base) F7 (G7.mono (show 6 ≤ 10 by decide)) ((bad_lines F7 G4G b4 m4 k4).mono (show 6 ≤ 10 by decide))
  have G8 := ok_trans (P := l.prog) (w := w) (mg := mg) (base := base) F8 G4 b4 m4 k4 n_tuple n_sorted
  have G8D := pd_transposed (P := l.prog) (w := w) (mg := mg) (base := base) F8 (G8.mono (show 6 ≤ 10 by decide)) ((bad_transposed F8 G4G b4 m4 k4).mono (show 6 ≤ 10 by decide))
  have G9 := ok_rect (P := l.prog) (w := w) (mg := mg) (base := base) F9 G4 b4 m4 k4 n_max n_min n_len
  have G9D := pd_is_rectangle (P := l.prog) (w := w) (mg := mg) (base := base) F9 (G9.mono (show 6 ≤ 10 by decide)) ((bad_is_rectangle F9 G4G b4 m4 k4).mono (show 6 ≤ 10 by decide))
  have G10 := ok_ff (P := l.prog) (w := w) (mg := mg) (base := base) F10 G1 b1 m1 k1 n_enumerate
  have G10G := ok_ffG (P := l.prog) (w := w) (mg := mg) (base := base) F10 G1G b1 m1 k1 n_enumerate
  have G11 := ok_checkF (P := l.prog) (w := w) (mg := mg) (base := base) F11 G10 b10 m10 k10 n_isinstance n_tuple n_len c_MOST_VALUE
  have G11G := ok_checkFG (P := l.prog) (w := w) (mg := mg) (base := base) F11 G10G b10 m10 k10 lowInvalidFilling n_isinstance n_tuple n_len c_MOST_VALUE
  have G12 := ok_isFill (P := l.prog) (w := w) (mg := mg) (base := base) F12 G4 b4 m4 k4 G11G b11 m11 k11 lowInvalidFilling n_len
  have G12D := pd_is_filling (P := l.prog) (w := w) (mg := mg) (base := base) F12 (G12.mono (show 6 ≤ 10 by decide)) ((bad_is_filling F12 G4G b4 m4 k4).mono (show 6 ≤ 10 by decide))
  have G13 := ok_marks (P := l.prog) (w := w) (mg := mg) (base := base) F13 n_enumerate n_tuple n_range n_len
  have G14 := ok_ranks (P := l.prog) (w := w) (mg := mg) (base := base) F14 G4 b4 m4 k4 G11 b11 m11 k11 n_len n_sorted n_tuple
  have G14D := fd_ranks (P := l.prog) (w := w) (mg := mg) (base := base) F14 (G14.mono (show 6 ≤ 10 by decide)) ((bad_ranks F14 G4G b4 m4 k4).mono (show 6 ≤ 10 by decide)) ((badF_ranks F14 G4G b4 m4 k4 G11G b11 m11 k11 n_len).mono (show 6 ≤ 10 by decide))
  have G15 := ok_signs (P := l.prog) (w := w) (mg := mg) (base := base) F15 G4 b4 m4 k4 G11 b11 m11 k11 G0 b0 m0 k0 n_len
  have G15D := fd_signs (P := l.prog) (w := w) (mg := mg) (base := base) F15 (G15.mono (show 6 ≤ 10 by decide)) ((bad_signs F15 G4G b4 m4 k4).mono (show 6 ≤ 10 by decide)) ((badF_signs F15 G4G b4 m4 k4 G11G b11 m11 k11 n_len).mono (show 6 ≤ 10 by decide))
  have G16 := ok_checkL (P := l.prog) (w := w) (mg := mg) (base := base) F16 n_isinstance n_str n_len n_enumerate c_MOST_LETTERS
  have G17 := ok_checkW (P := l.prog) (w := w) (mg := mg) (base := base) F17 G16 b16 m16 k16
  have G18 := ok_other (P := l.prog) (w := w) (mg := mg) (base := base) F18
  have G19 := ok_along (P := l.prog) (w := w) (mg := mg) (base := base) F19 n_list n_zip n_sorted n_tuple
  have G20 := ok_sortLines (P := l.prog) (w := w) (mg := mg) (base := base) F20 G4 b4 m4 k4 G11 b11 m11 k11 G7 b7 m7 k7 G19 b19 m19 k19 n_len
  have G20D := fd_sort_lines (P := l.prog) (w := w) (mg := mg) (base := base) F20 (G20.mono (show 7 ≤ 10 by decide)) ((bad_sort_lines F20 G4G b4 m4 k4).mono (show 6 ≤ 10 by decide)) ((badF_sort_lines F20 G4G b4 m4 k4 G11G b11 m11 k11 n_len).mono (show 6 ≤ 10 by decide))
  have G21 := ok_afterP (P := l.prog) (w := w) (mg := mg) (base := base) F21 G4 b4 m4 k4 G11 b11 m11 k11 G17 b17 m17 k17 G7 b7 m7 k7 G19 b19 m19 k19 n_len
  have G21D := fd_after (P := l.prog) (w := w) (mg := mg) (base := base) F21 (G21.mono (show 7 ≤ 10 by decide)) ((bad_after F21 G4G b4 m4 k4).mono (show 6 ≤ 10 by decide)) ((badF_after F21 G4G b4 m4 k4 G11G b11 m11 k11 n_len).mono (show 6 ≤ 10 by decide))
  have G22 := ok_isSorted (P := l.prog) (w := w) (mg := mg) (base := base) F22 G20 b20 m20 k20
  have G22D := fd_is_sorted (P := l.prog) (w := w) (mg := mg) (base := base) F22 (G22.mono (show 8 ≤ 10 by decide)) ((badP_sorted F22 (bad_sort_lines F20 G4G b4 m4 k4) b20 m20 k20).mono (show 7 ≤ 10 by decide)) ((badF_sorted F22 (badF_sort_lines F20 G4G b4 m4 k4 G11G b11 m11 k11 n_len) b20 m20 k20).mono (show 7 ≤ 10 by decide))
  have G23 := ok_settled (P := l.prog) (w := w) (mg := mg) (base := base) F23 G22 b22 m22 k22
  have G24 := ok_restP (P := l.prog) (w := w) (mg := mg) (base := base) F24 G4 b4 m4 k4 G11 b11 m11 k11 G6 b6 m6 k6 G23 b23 m23 k23 G20 b20 m20 k20 G18 b18 m18 k18 n_len
  have G24D := fd_rest (P := l.prog) (w := w) (mg := mg) (base := base) F24 (G24.mono (show 10 ≤ 10 by decide)) ((bad_rest F24 G4G b4 m4 k4).mono (show 6 ≤ 10 by decide)) ((badF_rest F24 G4G b4 m4 k4 G11G b11 m11 k11 n_len).mono (show 6 ≤ 10 by decide))
  have G25 := ok_isObs (P := l.prog) (w := w) (mg := mg) (base := base) F25
  have G26 := ok_obs (P := l.prog) (w := w) (mg := mg) (base := base) F26 G4 b4 m4 k4 G25 b25 m25 k25 n_range c_MOST_INDEX
  have G26D := pd_obstacle (P := l.prog) (w := w) (mg := mg) (base := base) F26 (G26.mono (show 6 ≤ 10 by decide)) ((bad_obstacle F26 G4G b4 m4 k4).mono (show 6 ≤ 10 by decide))
  have G27 := ok_keeps (P := l.prog) (w := w) (mg := mg) (base := base) F27 G26 b26 m26 k26
  have G27D := pd_keeps (P := l.prog) (w := w) (mg := mg) (base := base) F27 (G27.mono (show 7 ≤ 10 by decide)) ((ok_badKeeps F27 (bad_obstacle F26 G4G b4 m4 k4) b26 m26 k26).mono (show 7 ≤ 10 by decide))
  have G28 := ok_bfr (P := l.prog) (w := w) (mg := mg) (base := base) F28 G13 b13 m13 k13
  have G29 := ok_bf (P := l.prog) (w := w) (mg := mg) (base := base) F29 G4 b4 m4 k4 G6 b6 m6 k6 G8 b8 m8 k8 G26 b26 m26 k26 G28 b28 m28 k28 n_tuple
  have G29D := pd_breaking_filling (P := l.prog) (w := w) (mg := mg) (base := base) F29 (G29.mono (show 7 ≤ 10 by decide)) ((bad_breaking_filling F29 G4G b4 m4 k4).mono (show 6 ≤ 10 by decide))
  have G30 := ok_cell (P := l.prog) (w := w) (mg := mg) (base := base) F30 n_len
  have G31 := ok_pool (P := l.prog) (w := w) (mg := mg) (base := base) F31 n_abs
  have G32 := ok_draw (P := l.prog) (w := w) (mg := mg) (base := base) F32 n_divmod
  have G33 := ok_plan (P := l.prog) (w := w) (mg := mg) (base := base) F33 G32 b32 m32 k32 n_min n_range n_len n_tuple n_sum
  have G34 := ok_values (P := l.prog) (w := w) (mg := mg) (base := base) F34 G32 b32 m32 k32 n_list n_range n_len n_tuple
  have G35 := ok_lisCell (P := l.prog) (w := w) (mg := mg) (base := base) F35 n_isinstance n_tuple n_len n_all n_int n_bool
  have G36 := ok_fault (P := l.prog) (w := w) (mg := mg) (base := base) F36 G35 b35 m35 k35 n_isinstance n_tuple n_len n_enumerate
  have G37 := ok_bent (P := l.prog) (w := w) (mg := mg) (base := base) F37 G32 b32 m32 k32 n_len n_list n_tuple n_range
  have G38 := ok_vfG (P := l.prog) (w := w) (mg := mg) (base := base) F38 n_isinstance n_tuple n_len n_enumerate n_int n_bool
  have G39 := ok_bentVA (P := l.prog) (w := w) (mg := mg) (base := base) F39 G32 b32 m32 k32 n_len n_list
  have G40 := ok_lkindQ (P := l.prog) (w := w) (mg := mg) (base := base) F40 JK n_isinstance n_ValueError n_LookupError n_ArithmeticError
  have G41 := ok_caught (kk := 12) (P := l.prog) (w := w) (mg := mg) (base := base) F41 JK G40 b40 m40 k40 n_repr
  have G42 := ok__law_plan_doors (T := [(tabOf K cc42, lamPD), (tabOf K cc43, lamBD), (tabOf K cc44, lamPR), (tabOf K cc45, lamQR)]) (P := l.prog) (w := w) (mg := mg) (base := base) F42 (hTB (cc42, tabOf K cc42) (by simp)) (by simp) (fun p hp e => by
    simp only [List.mem_cons, List.not_mem_nil, or_false] at hp
    rcases hp with rfl | rfl | rfl | rfl
    · rfl
    · exact absurd e ne43_42
    · exact absurd e ne44_42
    · exact absurd e ne45_42) G7D b7 m7 k7 G8D b8 m8 k8 G9D b9 m9 k9 G12D b12 m12 k12 G27D b27 m27 k27 G26D b26 m26 k26 G29D b29 m29 k29
  have G43 := ok__law_both_doors (T := [(tabOf K cc42, lamPD), (tabOf K cc43, lamBD), (tabOf K cc44, lamPR), (tabOf K cc45, lamQR)]) (P := l.prog) (w := w) (mg := mg) (base := base) F43 (hTB (cc43, tabOf K cc43) (by simp)) (by simp) (fun p hp e => by
    simp only [List.mem_cons, List.not_mem_nil, or_false] at hp
    rcases hp with rfl | rfl | rfl | rfl
    · exact absurd e ne42_43
    · rfl
    · exact absurd e ne44_43
    · exact absurd e ne45_43) G14D b14 m14 k14 G15D b15 m15 k15 G20D b20 m20 k20 G21D b21 m21 k21 G22D b22 m22 k22 G24D b24 m24 k24
  have G44 := ok_plansR (T := [(tabOf K cc42, lamPD), (tabOf K cc43, lamBD), (tabOf K cc44, lamPR), (tabOf K cc45, lamQR)]) (cs := (fun i => ([Ce0, C_1, Ce1, C_3, C_4, C_5, C_6, C_7, C_8, C_9, C_10, C_11, C_12, C_13, C_14, C_15, C_16, C_17, C_18, C_19, C_20] : List Addr).getD i 0)) (bs := (fun i => ([S_0, S_1, S_2] : List Addr).getD i 0)) (P := l.prog) (w := w) (mg := mg) (base := base) F44 (hTB (cc44, tabOf K cc44) (by simp)) (by simp) (fun p hp e => by
    simp only [List.mem_cons, List.not_mem_nil, or_false] at hp
    rcases hp with rfl | rfl | rfl | rfl
    · exact absurd e ne42_44
    · exact absurd e ne43_44
    · rfl
    · exact absurd e ne45_44) JC0 G42 b42 m42 k42 G36 b36 m36 k36 G41 b41 m41 k41 n_repr
  have G45 := ok_pairsR (T := [(tabOf K cc42, lamPD), (tabOf K cc43, lamBD), (tabOf K cc44, lamPR), (tabOf K cc45, lamQR)]) (cs := (fun i => ([Ce0, C_1, Ce1, C_3, C_4, C_5, C_6, C_7, C_8, C_9, C_10, C_11, C_12, C_13, C_14, C_15, C_16, C_17, C_18, C_19, C_20] : List Addr).getD i 0)) (bs := (fun i => ([S_0, S_1, S_2] : List Addr).getD i 0)) (P := l.prog) (w := w) (mg := mg) (base := base) F45 (hTB (cc45, tabOf K cc45) (by simp)) (by simp) (fun p hp e => by
    simp only [List.mem_cons, List.not_mem_nil, or_false] at hp
    rcases hp with rfl | rfl | rfl | rfl
    · exact absurd e ne42_45
    · exact absurd e ne43_45
    · exact absurd e ne44_45
    · rfl) JC0 JC2 G43 b43 m43 k43 G36 b36 m36 k36 G38 b38 m38 k38 G41 b41 m41 k41 n_repr n_len
  have G46 := ok_right05 (P := l.prog) (w := w) (mg := mg) (base := base) F46 G32 b32 m32 k32 G33 b33 m33 k33 G34 b34 m34 k34 G37 b37 m37 k37 G39 b39 m39 k39 G44 b44 m44 k44 G45 b45 m45 k45 n_range n_len
  exact ok_law05 F47 G30 b30 m30 k30 G31 b31 m31 k31 G46 b46 m46 k46 G44 b44 m44 k44 G45 b45 m45 k45 n_all n_range n_max n_min n_len
end KS
open PySem PySem.W PyProof.Rows
set_option maxHeartbeats 0 in
theorem PySem.Challenge.cw_keepsort_k05_plans_and_fillings_refused_holds : PySem.Challenge.rw_keepsort_k05_plans_and_fillings_refused.Holds := by
  w_on; o_law; k_head; (case hw => w_witness2)
  k_fill
  refine KS.walk_ofGT (l := PySem.Challenge.rw_keepsort_k05_plans_and_fillings_refused) (n := 63) (k := 17) (x := "_law_script") rfl (by decide) rfl ⟨rfl, by decide, by decide⟩ (fun w h Y => PySem.W.km_in_of Y) ?F
  case F =>
    intro w mg fa h Y G hmg
    have KX := PySem.W.km_in_of Y
    have hT := PySem.W.km_tabs_of Y
    refine' KS.all_mk KX G hmg ?a0 ?l0 ?c0 ?k0 ?a1 ?l1 ?c1 ?k1 ?a2 ?l2 ?c2 ?k2 ?a3 ?l3 ?c3 ?k3 ?a4 ?l4 ?c4 ?k4 ?a5 ?l5 ?c5 ?k5 ?a6 ?l6 ?c6 ?k6 ?a7 ?l7 ?c7 ?k7 ?a8 ?l8 ?c8 ?k8 ?a9 ?l9 ?c9 ?k9 ?a10 ?l10 ?c10 ?k10 ?a11 ?l11 ?c11 ?k11 ?a12 ?l12 ?c12 ?k12 ?a13 ?l13 ?c13 ?k13 ?a14 ?l14 ?c14 ?k14 ?a15 ?l15 ?c15 ?k15 ?a16 ?l16 ?c16 ?k16 ?a17 ?l17 ?c17 ?k17 ?a18 ?l18 ?c18 ?k18 ?a19 ?l19 ?c19 ?k19 ?a20 ?l20 ?c20 ?k20 ?a21 ?l21 ?c21 ?k21 ?a22 ?l22 ?c22 ?k22 ?a23 ?l23 ?c23 ?k23 ?a24 ?l24 ?c24 ?k24 ?a25 ?l25 ?c25 ?k25 ?a26 ?l26 ?c26 ?k26 ?a27 ?l27 ?c27 ?k27 ?a28 ?l28 ?c28 ?k28 ?a29 ?l29 ?c29 ?k29 ?a30 ?l30 ?c30 ?k30 ?a31 ?l31 ?c31 ?k31 ?a32 ?l32 ?c32 ?k32 ?a33 ?l33 ?c33 ?k33 ?a34 ?l34 ?c34 ?k34 ?a35 ?l35 ?c35 ?k35 ?a36 ?l36 ?c36 ?k36 ?a37 ?l37 ?c37 ?k37 ?a38 ?l38 ?c38 ?k38 ?a39 ?l39 ?c39 ?k39 ?a40 ?l40 ?c40 ?k40 ?a41 ?l41 ?c41 ?k41 ?a42 ?l42 ?c42 ?k42 ?a43 ?l43 ?c43 ?k43 ?a44 ?l44 ?c44 ?k44 ?a45 ?l45 ?c45 ?k45 ?a46 ?l46 ?c46 ?k46 ?a47 ?l47 ?c47 ?k47 ?z0 ?z1 ?z2 ?z3 ?z4 ?z5 ?z6 ?z7 ?z8 ?z9 ?z10 ?z11 ?z12 ?z13 ?z14 ?z15 ?z16 ?z17 ?z18 ?z19 ?z20 ?w0 ?w1 ?w2 ?w3 ?xaCe0 ?xxLe0 ?xsae0 ?xgae0 ?xgge0 ?xnbe0 ?xaNe0 ?xtNe0 ?xlNe0 ?xcNe0 ?xkCe0 ?xeCe0 ?xtCe0 ?xhCe0 ?xiCe0 ?xsCe0 ?xaCe1 ?xxLe1 ?xsae1 ?xgae1 ?xgge1 ?xnbe1 ?xaNe1 ?xtNe1 ?xlNe1 ?xcNe1 ?xkCe1 ?xeCe1 ?xtCe1 ?xhCe1 ?xiCe1 ?xsCe1 ?aC_0 ?aC_1 ?aC_2 ?aC_3 ?aC_4 ?aC_5 ?aC_6 ?aC_7 ?aC_8 ?aC_9 ?aC_10 ?aC_11 ?aC_12 ?aC_13 ?aC_14 ?aC_15 ?aC_16 ?aC_17 ?aC_18 ?aC_19 ?aC_20 ?aS_0 ?aS_1 ?aS_2 ?hkit ?hcls ?h42 ?o42 ?t42 ?h43 ?o43 ?t43 ?h44 ?o44 ?t44 ?h45 ?o45 ?t45 ?e42_43 ?e42_44 ?e42_45 ?e43_44 ?e43_45 ?e44_45
    (case a0 => k_is)
    (case l0 => k_is)
    (case c0 => k_is)
    (case k0 => k_is)
    (case a1 => k_is)
    (case l1 => k_is)
    (case c1 => k_is)
    (case k1 => k_is)
    (case a2 => k_is)
    (case l2 => k_is)
    (case c2 => k_is)
    (case k2 => k_is)
    (case a3 => k_is)
    (case l3 => k_is)
    (case c3 => k_is)
    (case k3 => k_is)
    (case a4 => k_is)
    (case l4 => k_is)
    (case c4 => k_is)
    (case k4 => k_is)
    (case a5 => k_is)
    (case l5 => k_is)
    (case c5 => k_is)
    (case k5 => k_is)
    (case a6 => k_is)
    (case l6 => k_is)
    (case c6 => k_is)
    (case k6 => k_is)
    (case a7 => k_is)
    (case l7 => k_is)
    (case c7 => k_is)
    (case k7 => k_is)
    (case a8 => k_is)
    (case l8 => k_is)
    (case c8 => k_is)
    (case k8 => k_is)
    (case a9 => k_is)
    (case l9 => k_is)
    (case c9 => k_is)
    (case k9 => k_is)
    (case a10 => k_is)
    (case l10 => k_is)
    (case c10 => k_is)
    (case k10 => k_is)
    (case a11 => k_is)
    (case l11 => k_is)
    (case c11 => k_is)
    (case k11 => k_is)
    (case a12 => k_is)
    (case l12 => k_is)
    (case c12 => k_is)
    (case k12 => k_is)
    (case a13 => k_is)
    (case l13 => k_is)
    (case c13 => k_is)
    (case k13 => k_is)
    (case a14 => k_is)
    (case l14 => k_is)
    (case c14 => k_is)
    (case k14 => k_is)
    (case a15 => k_is)
    (case l15 => k_is)
    (case c15 => k_is)
    (case k15 => k_is)
    (case a16 => k_is)
    (case l16 => k_is)
    (case c16 => k_is)
    (case k16 => k_is)
    (case a17 => k_is)
    (case l17 => k_is)
    (case c17 => k_is)
    (case k17 => k_is)
    (case a18 => k_is)
    (case l18 => k_is)
    (case c18 => k_is)
    (case k18 => k_is)
    (case a19 => k_is)
    (case l19 => k_is)
    (case c19 => k_is)
    (case k19 => k_is)
    (case a20 => k_is)
    (case l20 => k_is)
    (case c20 => k_is)
    (case k20 => k_is)
    (case a21 => k_is)
    (case l21 => k_is)
    (case c21 => k_is)
    (case k21 => k_is)
    (case a22 => k_is)
    (case l22 => k_is)
    (case c22 => k_is)
    (case k22 => k_is)
    (case a23 => k_is)
    (case l23 => k_is)
    (case c23 => k_is)
    (case k23 => k_is)
    (case a24 => k_is)
    (case l24 => k_is)
    (case c24 => k_is)
    (case k24 => k_is)
    (case a25 => k_is)
    (case l25 => k_is)
    (case c25 => k_is)
    (case k25 => k_is)
    (case a26 => k_is)
    (case l26 => k_is)
    (case c26 => k_is)
    (case k26 => k_is)
    (case a27 => k_is)
    (case l27 => k_is)
    (case c27 => k_is)
    (case k27 => k_is)
    (case a28 => k_is)
    (case l28 => k_is)
    (case c28 => k_is)
    (case k28 => k_is)
    (case a29 => k_is)
    (case l29 => k_is)
    (case c29 => k_is)
    (case k29 => k_is)
    (case a30 => k_is)
    (case l30 => k_is)
    (case c30 => k_is)
    (case k30 => k_is)
    (case a31 => k_is)
    (case l31 => k_is)
    (case c31 => k_is)
    (case k31 => k_is)
    (case a32 => k_is)
    (case l32 => k_is)
    (case c32 => k_is)
    (case k32 => k_is)
    (case a33 => k_is)
    (case l33 => k_is)
    (case c33 => k_is)
    (case k33 => k_is)
    (case a34 => k_is)
    (case l34 => k_is)
    (case c34 => k_is)
    (case k34 => k_is)
    (case a35 => k_is)
    (case l35 => k_is)
    (case c35 => k_is)
    (case k35 => k_is)
    (case a36 => k_is)
    (case l36 => k_is)
    (case c36 => k_is)
    (case k36 => k_is)
    (case a37 => k_is)
    (case l37 => k_is)
    (case c37 => k_is)
    (case k37 => k_is)
    (case a38 => k_is)
    (case l38 => k_is)
    (case c38 => k_is)
    (case k38 => k_is)
    (case a39 => k_is)
    (case l39 => k_is)
    (case c39 => k_is)
    (case k39 => k_is)
    (case a40 => k_is)
    (case l40 => k_is)
    (case c40 => k_is)
    (case k40 => k_is)
    (case a41 => k_is)
    (case l41 => k_is)
    (case c41 => k_is)
    (case k41 => k_is)
    (case a42 => k_is)
    (case l42 => k_is)
    (case c42 => k_is)
    (case k42 => k_is)
    (case a43 => k_is)
    (case l43 => k_is)
    (case c43 => k_is)
    (case k43 => k_is)
    (case a44 => k_is)
    (case l44 => k_is)
    (case c44 => k_is)
    (case k44 => k_is)
    (case a45 => k_is)
    (case l45 => k_is)
    (case c45 => k_is)
    (case k45 => k_is)
    (case a46 => k_is)
    (case l46 => k_is)
    (case c46 => k_is)
    (case k46 => k_is)
    (case a47 => k_is)
    (case l47 => k_is)
    (case c47 => k_is)
    (case k47 => k_is)
    (case z0 => k_is)
    (case z1 => k_is)
    (case z2 => k_is)
    (case z3 => k_is)
    (case z4 => k_is)
    (case z5 => k_is)
    (case z6 => k_is)
    (case z7 => k_is)
    (case z8 => k_is)
    (case z9 => k_is)
    (case z10 => k_is)
    (case z11 => k_is)
    (case z12 => k_is)
    (case z13 => k_is)
    (case z14 => k_is)
    (case z15 => k_is)
    (case z16 => k_is)
    (case z17 => k_is)
    (case z18 => k_is)
    (case z19 => k_is)
    (case z20 => k_is)
    (case w0 => k_is)
    (case w1 => k_is)
    (case w2 => k_is)
    (case w3 => k_is)
    (case xaCe0 => k_is)
    (case xxLe0 => k_is)
    (case xsae0 => k_is)
    (case xgae0 => k_is)
    (case xgge0 => k_is)
    (case xnbe0 => k_is)
    (case xaNe0 => k_is)
    (case xtNe0 => k_is)
    (case xlNe0 => k_is)
    (case xcNe0 => k_is)
    (case xkCe0 => k_is)
    (case xeCe0 => k_is)
    (case xtCe0 => k_is)
    (case xhCe0 => k_is)
    (case xiCe0 => k_is)
    (case xsCe0 => first | rfl | k_is)
    (case xaCe1 => k_is)
    (case xxLe1 => k_is)
    (case xsae1 => k_is)
    (case xgae1 => k_is)
    (case xgge1 => k_is)
    (case xnbe1 => k_is)
    (case xaNe1 => k_is)
    (case xtNe1 => k_is)
    (case xlNe1 => k_is)
    (case xcNe1 => k_is)
    (case xkCe1 => k_is)
    (case xeCe1 => k_is)
    (case xtCe1 => k_is)
    (case xhCe1 => k_is)
    (case xiCe1 => k_is)
    (case xsCe1 => first | rfl | k_is)
    (case aC_0 => k_is)
    (case aC_1 => k_is)
    (case aC_2 => k_is)
    (case aC_3 => k_is)
    (case aC_4 => k_is)
    (case aC_5 => k_is)
    (case aC_6 => k_is)
    (case aC_7 => k_is)
    (case aC_8 => k_is)
    (case aC_9 => k_is)
    (case aC_10 => k_is)
    (case aC_11 => k_is)
    (case aC_12 => k_is)
    (case aC_13 => k_is)
    (case aC_14 => k_is)
    (case aC_15 => k_is)
    (case aC_16 => k_is)
    (case aC_17 => k_is)
    (case aC_18 => k_is)
    (case aC_19 => k_is)
    (case aC_20 => k_is)
    (case aS_0 => k_is)
    (case aS_1 => k_is)
    (case aS_2 => k_is)
    (case hkit => kernel_rfl)
    (case hcls => kernel_rfl)
    (case h42 => kernel_rfl)
    (case o42 => kernel_rfl)
    (case t42 => exact KS.tab_there hT (by kernel_rfl))
    (case h43 => kernel_rfl)
    (case o43 => kernel_rfl)
    (case t43 => exact KS.tab_there hT (by kernel_rfl))
    (case h44 => kernel_rfl)
    (case o44 => kernel_rfl)
    (case t44 => exact KS.tab_there hT (by kernel_rfl))
    (case h45 => kernel_rfl)
    (case o45 => kernel_rfl)
    (case t45 => exact KS.tab_there hT (by kernel_rfl))
    (case e42_43 => kernel_rfl)
    (case e42_44 => kernel_rfl)
    (case e42_45 => kernel_rfl)
    (case e43_44 => kernel_rfl)
    (case e43_45 => kernel_rfl)
    (case e44_45 => kernel_rfl)
