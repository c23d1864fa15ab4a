import PyProof.Rows.All
import Wide.All
import OpenK.AllK
import Wide.FinOn
import HandS.ForMost
import HandS.Style
import HandS.Flow
import KE.GoesMore
import KE.GoesEnum
import KE.KTupSum
import PyProof.ReprRoads
import PyProof.ReprLen
import HandS.IsInst
import HandS.TupLe
import HandS.SetKeys
import HandS.SortRule
import HandS.More
import HandS.TupAny
import PyProof.P3In
import HandS.Deep
import KE.KRevSl
import HandS.TupMul
import HandS.SortInts
import HandS.Zip
import HandS.Conv
import HandS.Iter
import HandS.Text
import HandS.Walk
import PyProof.StrOps2
import KE.GoesZip
import HandS.ForExc
import PyProof.NeKinds
import HandS.SortKw
import KE.DataMinMax
import KE.SortData
import PyProof.CallFns
import PyProof.TupleOfSeq
import HandS.DictComp
import HandS.DictTup
import KE.KItemsList
import KE.IntBitsLaws
import HandS.Dict
import KE.KDictZip
import KE.DataFind
import PyProof.Rows.StrCountLaw
import PyProof.Rows.RegReprOcc
import PyProof.Rows.ReprOcc
import PySem.Challenge.RW_keepsort_k50_origins_by_all_tables
set_option Elab.async false
set_option linter.all false
set_option maxRecDepth 100000
set_option maxHeartbeats 4000000
namespace KS
open PySem PySem.Spec PyProof.Rows L2
/-- three whole numbers: the state, the digits left, how many draws -/
def PoolO (o : Option HO) : Prop := ∃ a b c : Int, o = some (.lst [.int a, .int b, .int c]) ∧ 0 ≤ a ∧ a < 2147483249 ∧ 0 ≤ b
/-- what stood, but at p, stands -/
def KeepX (p : Addr) (H H' : Hp) : Prop := ∀ b o, b ≠ p → H b = some o → H' b = some o
theorem KeepX.refl (p : Addr) (H : Hp) : KeepX p H H := fun _ _ _ e => e
theorem KeepX.trans {p : Addr} {H H1 H2 : Hp} (a : KeepX p H H1) (b : KeepX p H1 H2) : KeepX p H H2 := fun c o n e => b c o n (a c o n e)
theorem KeepX.of_same {p : Addr} {H H1 : Hp} (a : Same H H1) : KeepX p H H1 := fun c o _ e => a c o e
theorem same_new {H : Hp} {p : Addr} {o : HO} (h : H p = none) : Same H (upd H p o) := fun b x e => by
  rw [upd_ne (ne_of_none e h)]
  exact e
theorem keepX_upd {H : Hp} {p : Addr} {o : HO} : KeepX p H (upd H p o) := fun b x n e => by
  rw [upd_ne n]
  exact e
theorem PoolO.same {H H' : Hp} {p : Addr} (s : Same H H') (h : PoolO (H p)) : PoolO (H' p) := by
  obtain ⟨a, b, c, e, r⟩ := h
  exact ⟨a, b, c, s _ _ e, r⟩
theorem PoolO.ne {H : Hp} {p q : Addr} (h : PoolO (H p)) (n : H q = none) : p ≠ q := by
  obtain ⟨a, b, c, e, r⟩ := h
  exact ne_of_none e n
theorem same_seqT {K : PySem.W.Frag} {H H' : Hp} {a : Addr} {xs : List V} (e : Same H H') (h : SqT K H a xs) : SqT K H' a xs := by
  rcases h with (h | ⟨o, h⟩) | h
  · exact .inl (.inl (e _ _ h))
  · exact .inl (.inr ⟨o, e _ _ h⟩)
  · exact .inr h
theorem keepX_seqT {K : PySem.W.Frag} {H H' : Hp} {a p : Addr} {xs : List V} (hp : PoolO (H p)) (e : KeepX p H H') (h : SqT K H a xs) : SqT K H' a xs := by
  obtain ⟨x, y, z, ep, _⟩ := hp
  rcases h with (h | ⟨o, h⟩) | h
  · exact .inl (.inl (e _ _ (fun q => by rw [q, ep] at h; cases h) h))
  · exact .inl (.inr ⟨o, e _ _ (fun q => by rw [q, ep] at h; cases h) h⟩)
  · exact .inr h
theorem int_mod_bd (x : Int) {m : Int} (h : 0 < m) : 0 ≤ x % m ∧ x % m < m := ⟨Int.emod_nonneg x (by omega), Int.emod_lt_of_pos x h⟩
def spCell (K : PySem.W.Frag) : Sp := fun vs H Q _ => ∃ (a : Addr) (ns : List Int) (k : Nat), vs = [.ref a, .int k] ∧ SqL K H a (ns.map V.int) ∧ k ≤ 63 ∧ ∀ H' n, Same H H' → Q (.int n) H'
def spPool : Sp := fun vs H Q _ => ∃ (n : Int), vs = [.int n] ∧ ∀ H' p, Same H H' → H p = none → PoolO (H' p) → Q (.ref p) H'
def spDraw : Sp := fun vs H Q _ => ∃ (p : Addr) (m : Int), vs = [.ref p, .int m] ∧ PoolO (H p) ∧ 0 < m ∧ m < 1073741824 ∧ ∀ H' r, KeepX p H H' → PoolO (H' p) → 0 ≤ r → r < m → Q (.int r) H'
end KS
namespace KS
open PySem PySem.Spec PyProof.Rows L2
open Sem (wp)
open AutoSeq1 (wpAny_loadPart')
/-! ### sum(t), t a tuple of whole numbers -/
def rSumT (K : PySem.W.Frag) : List V → Hp → VK → Prop := fun vs H Q => ∃ (a : Addr) (ns : List Int), vs = [V.ref a] ∧ SqT K H a (ns.map V.int) ∧ Q (.int ns.sum) H
theorem cr_sumT {X : Cx} (hc : X.calm = true) : CallR X (.builtin "sum") (rSumT X.K) := by
  intro pins s σ H vs us Q I r h
  obtain ⟨a, ns, rfl, hs, q⟩ := h
  obtain ⟨its, rv, hl, _⟩ := I.tuple hs
  rw [Vals.ref1 r]
  have hi := rv.ints
  obtain ⟨xs, e⟩ := hi.allInts.items
  have hn : numsOf (intItems xs).toList = ns := by
    rw [← e]
    exact hi.numsOf
  rw [nums_intItems] at hn
  have hl2 : s.heap.IsTuple a (intItems xs) := by
    rw [← e]
    exact hl
  refine PySem.W.ktm_sumG (I.ok.hd hc) hl2 fun h' tk t' hk => ⟨.int ns.sum, H, I.kept hk, ⟨t', ?_⟩, q⟩
  rw [preSum_eq, List.take_of_length_le (by simp), hn]
/-- tuple(x), x a list or a tuple -/
def rTupOf (K : PySem.W.Frag) : List V → Hp → VK → Prop := fun xs H Q => ∃ p ys, xs = [.ref p] ∧ ((SqL K H p ys ∧ ∀ l, H l = none → Q (.ref l) (upd H l (.tup ys))) ∨ (SqT K H p ys ∧ Q (.ref p) H))
theorem cr_tupOf {X : Cx} : CallR X (.type "tuple") (rTupOf X.K) := call_tuple_of
/-! ### enumerate(t), t a tuple -/
abbrev tupItO (l : Addr) : Obj := { cls := .type "tuple_iterator", data := .fields #[.ref l, .int 0 0] }
abbrev enumO (it : Addr) : Obj := { cls := .type "enumerate", data := .fields #[.none, .bool false, .ref it, rawInt 0, .none, .none] }
theorem meets_enumT (l : Addr) (items : Array Value) (n : Nat) (dct : Option Addr) (sl : Array (Option Value)) :
    Meets (Builtin.«enumerate.__new__» ⟨[.type "enumerate", .ref l], []⟩) (fun _ R s =>
      s.heap.get? l = some { cls := .type "tuple", dict := dct, data := .seq items n, slots := sl } ∧
      R (.ok (.ret (.ref (s.heap.push (tupItO l)).objs.size))) { s with heap := (s.heap.push (tupItO l)).push (enumO s.heap.objs.size) }) :=
  .of_wp fun prog w A R s h => by
    obtain ⟨hp, g, d, tk, os⟩ := s
    obtain ⟨hl, h⟩ := h
    have hsub := sub_enumerate
    have hT : Heap.IsTuple (Shared.heap ⟨hp, g, d, tk, os⟩) l items := ⟨_, hl, rfl, n, rfl⟩
    wp_walk using wpAny_loadPart' hl
    refine wpAny_stack_any fun st => wpAny_pure ?_
    split
    · rename_i c _ _ _ _ _
      cases (c == Value.type "enumerate")
      · wp_walk using wpAny_loadPart' hl, wpAny_pyIter_tuple hT
        exact ⟨_, rfl, h⟩
      · wp_walk using wpAny_loadPart' hl, wpAny_pyIter_tuple hT
        exact ⟨_, rfl, h⟩
    · wp_walk using wpAny_loadPart' hl, wpAny_pyIter_tuple hT
      exact ⟨_, rfl, h⟩
theorem call_enumT {prog : Program} {w : World} {A : Around} {E : Value → Shared → Prop} {s : Shared} {l : Addr} {items : Array Value} {Q : Value → Shared → Prop} (hL : s.heap.IsTuple l items)
    (h : ∀ h', IsEnum h' (s.heap.objs.size + 1) s.heap.objs.size 0 .none → h'.IsTupleIter s.heap.objs.size l 0 →
      (∀ b o, s.heap.get? b = some o → h'.get? b = some o) → Q (.ref (s.heap.objs.size + 1)) { s with heap := h' }) :
    wpAny (model prog w) A (call (.type "enumerate") [.ref l]) Q E s := by
  obtain ⟨⟨c, dct, dt, sl⟩, hl, hc, n, hd⟩ := hL
  replace hc : c = .type "tuple" := hc
  replace hd : dt = .seq items n := hd
  subst hc
  subst hd
  refine callType_new F.called_enumerate (by decide) (F.typeCall_enumerate_1 _) (F.newCall_enumerate_1 _)
    (fun obj => F.args_object_init_2 obj _) F.entry_enumerate_new (meets_enumT l items n dct sl) ⟨hl, ?_⟩
  generalize hg1 : s.heap.push (tupItO l) = g1
  have hz : g1.objs.size = s.heap.objs.size + 1 := by
    rw [← hg1]
    exact Heap.size_push ..
  have hit : g1.get? s.heap.objs.size = some (tupItO l) := by
    rw [← hg1]
    exact Heap.get?_push_size _ rfl
  have hold : ∀ b o, s.heap.get? b = some o → g1.get? b = some o := fun b o e => by
    rw [← hg1]
    exact Heap.get?_push_of_some _ e
  show _ ∧ _
  rw [hz]
  have he : IsEnum (g1.push (enumO s.heap.objs.size))
      (s.heap.objs.size + 1) s.heap.objs.size 0 .none := by
    have z := Heap.get?_push_size g1 (o := enumO s.heap.objs.size) rfl
    rw [hz] at z
    exact z
  exact ⟨⟨_, he, rfl⟩, h _ he ⟨tupItO l, Heap.get?_push_of_some _ hit, rfl, rfl⟩ fun b o x => Heap.get?_push_of_some _ (hold b o x)⟩
/-- the pairs (i, item i) of the tuple at a, each a new tuple -/
def IteT (K : PySem.W.Frag) (a : Addr) : It :=
  ⟨fun i H => ∃ (xs : List V) (x : V), SqT K H a xs ∧ xs[i]? = some x,
   fun i H v H' => ∃ T x, v = .ref T ∧ H T = none ∧ H' = upd H T (.tup [.int (i : Nat), x]) ∧ ∀ xs, SqT K H a xs → xs[i]? = some x,
   fun i H => ∃ xs : List V, SqT K H a xs ∧ xs.length ≤ i⟩
theorem turn_enumT {P : Program} {w : World} {K : PySem.W.Frag} {elts : List Expr} {kk : Nat} {tpos : Pos} (a e it : Addr) :
    Turn P w K (.Tuple elts kk tpos) (IteT K a) [e, it] e
      (fun i h => (∃ old, IsEnum h e it ((i : Nat) : Int) old) ∧ h.IsTupleIter it a i ∧ e ≠ it) where
  mem := by simp
  obj := fun i h st b hb => by
    obtain ⟨⟨old, he⟩, ⟨o, ho, hc, hd⟩, _⟩ := st
    rcases (by simpa using hb : b = e ∨ b = it) with z | z
    · subst z
      exact ⟨_, he, fun v q => nomatch q⟩
    · subst z
      exact ⟨o, ho, fun v q => by rw [hd] at q; cases q⟩
  keep := fun i h h' st k => by
    obtain ⟨⟨old, he⟩, hi, hne⟩ := st
    exact ⟨⟨old, k e (by simp) _ he⟩, hi.at fun o q => k it (by simp) o q, hne⟩
  item := by
    intro X hP hw hK hc i pins s σ H E I hf st hg
    subst hP hw hK
    obtain ⟨⟨old, he⟩, hit, hne⟩ := st
    obtain ⟨xs, x, hq, hx⟩ := hg
    obtain ⟨its, rv, p, hz⟩ := I.tuple hq
    have p1 : s.heap.IsTuple a its.toArray := p
    obtain ⟨u0, hu0, ru0⟩ := rv.get hx
    have hel : e < s.heap.objs.size := Heap.lt_size he
    have hil : it < s.heap.objs.size := by
      obtain ⟨_, q, _⟩ := hit
      exact Heap.lt_size q
    have hai : a ≠ it := fun z => by
      obtain ⟨o1, g1, c1, _⟩ := p1
      obtain ⟨o2, g2, c2, _⟩ := hit
      rw [z, g2] at g1
      cases g1
      rw [c1] at c2
      injection c2 with c3
      exact absurd c3 (by decide)
    have hea : e ≠ a := fun z => by
      obtain ⟨o1, g1, c1, _⟩ := p1
      have g2 : s.heap.get? e = some _ := he
      rw [z, g1] at g2
      cases g2
      have c2 : Value.type "enumerate" = Value.type "tuple" := c1
      injection c2 with c3
      exact absurd c3 (by decide)
    have hlt : i < its.toArray.size := by
      have z : i < its.length := (List.getElem?_eq_some_iff.mp hu0).1
      simpa using z
    have DD : Draws X.prog X.w X.A.in1 it [it, a] its.toArray.size (fun i v => its.toArray[i]? = some v) (fun i h => h.IsTupleIter it a i ∧ h.IsTuple a its.toArray) :=
      Draws.tuple (show X.A.in1.handled = none from I.ok.hd hc) it a hai its.toArray
    refine wpAny_pyNext_enum_itemD DD he ⟨hit, p1⟩ hlt hne (by simp [hne, hea]) fun u h' tk hu ho hst hT hsz hk => ?_
    have eu : u = u0 := by
      have z : its[i]? = some u := by simpa using hu
      rw [hu0] at z
      exact (Option.some.inj z).symm
    subst eu
    refine ⟨_, rfl, wpAny_letOwnedTupleGo_enum (s := { s with heap := h', toks := tk + 1 }) ho fun h'' he' sb => ?_⟩
    have hT2 : h''.get? s.heap.objs.size = some { cls := .type "tuple", data := .seq #[.int i tk, u] } := (sb.2 _ (Nat.ne_of_gt hel)).trans hT
    have new : ObjOk X.prog X.w (upd H s.heap.objs.size (.tup [.int (i : Nat), x])) h'' s.heap.objs.size (.tup [.int (i : Nat), x]) :=
      ⟨by show 2 ≤ sizeLine; decide, [.int i tk, u], .cons ⟨_, rfl⟩ (.cons ru0 .nil), ⟨_, hT2, rfl, _, rfl⟩⟩
    have I1 : Inv X pins σ (upd H s.heap.objs.size (.tup [.int (i : Nat), x])) { s with heap := h'', toks := tk + 1 } :=
      I.turnedNew (ch := [e, it]) (fun b ob hb q => (sb.2 b (fun z => hb (by simp [z]))).trans
        (hk b ob (fun z => hb (by simp [z])) (fun z => hb (by simp [z])) q)) hf (Nat.le_refl _) new
    refine ⟨.ref s.heap.objs.size, _, I1, rfl, ⟨_, x, rfl, I.hok.fresh (Nat.le_refl _), rfl, fun ys hy => ?_⟩,
      ⟨⟨u, ?_⟩, hst.1.at fun o q => (sb.2 it (Ne.symm hne)).trans q, hne⟩, fun b hb => ?_⟩
    · rw [I.tuple_inj hy hq]
      exact hx
    · have e1 : ((i + 1 : Nat) : Int) = (i : Int) + 1 := by omega
      rw [e1]
      exact he'
    · have hb' : b < s.heap.objs.size := by
        rcases (by simpa using hb : b = e ∨ b = it) with z | z
        · rw [z]
          exact hel
        · rw [z]
          exact hil
      rw [upd_ne (Nat.ne_of_lt hb')]
      exact (hf b hb).1
  done := by
    intro X hP hw hK hc i pins s σ H E I hf st hg
    subst hP hw hK
    obtain ⟨⟨old, he⟩, hit, hne⟩ := st
    obtain ⟨xs, hq, hx⟩ := hg
    obtain ⟨its, rv, p, hz⟩ := I.tuple hq
    have p1 : s.heap.IsTuple a its.toArray := p
    obtain ⟨f0, f1, f2, f3, f4, f5⟩ := hf it (by simp)
    have hl := rv.length
    have DD : Draws X.prog X.w X.A.in1 it [it, a] i (fun _ _ => True) (fun j h => j = i ∧ h.IsTupleIter it a i ∧ h.IsTuple a its.toArray) :=
      { live := fun _ _ st => let ⟨o, ho, _⟩ := st.2.1; ⟨o, ho⟩
        frame := fun _ _ _ st hk => ⟨st.1, st.2.1.at fun o e => hk it (by simp) o e, st.2.2.at fun o e => hk a (by simp) o e⟩
        item := fun j s Q E hj st hQ => absurd st.1 (by omega)
        done := fun s Q E st hE => wpAny_nextOf_tuple_end (show X.A.in1.handled = none from I.ok.hd hc) st.2.1 st.2.2 (by simp; omega) hE }
    exact wpAny_pyNext_enum_endD DD he ⟨rfl, hit, p1⟩ fun h' eb => ⟨rfl, I.turned (t' := s.toks) (fun b o hb q => eb b o hb q) f0 f1 f3 f4 f5⟩
  self := fun A i s Q E st h => by
    obtain ⟨⟨_, he⟩, _⟩ := st
    exact wpAny_pyIter_enum he h
def iEnumT (K : PySem.W.Frag) (ta : TA) : TI := fun σ H R => ta σ H fun vs H1 => ∃ a xs, vs = [.ref a] ∧ SqT K H1 a xs ∧ R (IteT K a) H1
theorem pi_enumT {X : Cx} {e : Expr} {ta : TA} {p pos tpos : Pos} {elts : List Expr} {kk : Nat} (hg : Gl X "enumerate") (hm : X.mg "enumerate" = none) (ha : PA X [e] ta)
    (hs : starEach [e] X.env = [(false, eval e X.env)] := by rfl) : PI X (.Tuple elts kk tpos) (.Call (.Name "enumerate" p) [e] [] pos) (iEnumT X.K ta) := by
  refine ⟨fun pins s σ H R I h => ?_⟩
  refine Call_ (ld_blt I hg hm boot_enumerate (PyProof.Rows.callWith_type1 (thn (ha.run pos pins s σ H _ I h) fun us s1 hh => ?_) hs rfl))
  obtain ⟨vs, H1, I1, r1, a, xs, ex, hq, q⟩ := hh
  subst ex
  cases r1 with
  | cons r rr =>
    cases rr
    cases r
    obtain ⟨its, rv, p1, hz⟩ := I1.tuple hq
    refine call_enumT (items := its.toArray) p1 fun h' he hit hk => wpAny_pyIter_enum he ?_
    have I2 : Inv X pins σ H1 { s1 with heap := h' } := I1.kept (t' := s1.toks) hk
    refine ⟨s1.heap.objs.size + 1, [s1.heap.objs.size + 1, s1.heap.objs.size], _, _, H1, rfl, I2, turn_enumT a (s1.heap.objs.size + 1) s1.heap.objs.size,
      ⟨⟨.none, he⟩, hit, Nat.succ_ne_self _⟩, fun b hb => ?_, q⟩
    have hle : s1.heap.objs.size ≤ b := by
      rcases (by simpa using hb : b = s1.heap.objs.size + 1 ∨ b = s1.heap.objs.size) with z | z
      · rw [z]
        exact Nat.le_succ _
      · rw [z]
        exact Nat.le_refl _
    exact I1.fpOk hle (I1.hok.fresh hle)
/-- a for over enumerate(t): Pv at each turn; the pair stands in a new tuple at T -/
theorem for_enumT {K : PySem.W.Frag} {a : Addr} {xs : List V} {g : TG} {tb : TS} {D : Ends} {σ : L2.St} {H : Hp} (Pv : Nat → L2.St → Hp → Prop) (h0 : Pv 0 σ H)
    (hl : ∀ i σ H, i ≤ xs.length → Pv i σ H → SqT K H a xs)
    (hs : ∀ i x σ H T, xs[i]? = some x → Pv i σ H → H T = none → g (.ref T) σ (upd H T (.tup [.int (i : Nat), x])) fun σ2 H2 => tb { D with nx := Pv (i + 1), ct := Pv (i + 1), bk := D.nx } σ2 H2)
    (hd : ∀ σ H, Pv xs.length σ H → D.nx σ H) :
    ∃ W : Nat → Nat → L2.St → Hp → Prop, (∃ m, W 0 m σ H) ∧ ∀ i m σ H, W i m σ H →
      ((IteT K a).stop i H ∧ D.nx σ H) ∨ ((IteT K a).go i H ∧ ∃ N : L2.St → Hp → Prop, (∀ σ' H', N σ' H' → ∃ m', m' < m ∧ W (i + 1) m' σ' H') ∧
        ∀ x H', (IteT K a).yld i H x H' → g x σ H' fun σ2 H2 => tb { D with nx := N, ct := N, bk := D.nx } σ2 H2) := by
  refine ⟨fun i m σ H => m = xs.length - i ∧ i ≤ xs.length ∧ Pv i σ H, ⟨xs.length, by simp, Nat.zero_le _, h0⟩, ?_⟩
  rintro i m σ H ⟨rfl, hi, p⟩
  have q := hl i σ H hi p
  by_cases hlt : i < xs.length
  · refine .inr ⟨⟨xs, xs[i], q, by simp [hlt]⟩, Pv (i + 1), fun σ' H' p' => ⟨xs.length - (i + 1), by omega, rfl, hlt, p'⟩, fun x H' y => ?_⟩
    obtain ⟨T, x1, rfl, nT, rfl, hx⟩ := y
    exact hs i x1 σ H T (hx _ q) p nT
  · have e : i = xs.length := by omega
    subst e
    exact .inl ⟨⟨xs, q, Nat.le_refl _⟩, hd σ H p⟩
end KS
namespace KS
open PySem PySem.Spec PyProof.Rows L2
/-! ### promises of defs that are only called where no repr is under way -/
structure FnG (P : Program) (w : World) (K : PySem.W.Frag) (mg : Str → Option Value) (base : Heap) (k : Nat) (f : Addr) (fd : FuncData) (ps : List Str) (sp : Sp) : Prop where
  len : ∀ vs H Q E, sp vs H Q E → vs.length = ps.length
  run : ∀ (A : Around) (outer : List Env) (s : Shared) (H : Hp) (args : Args) (us : List Value) (vs : List V) (Q : VK) (E : XK),
    Room k A → A.guards = some [] → Env0 P w K mg base A outer s H → BindsTo s fd args (ps.zip us) → Vals vs us → sp vs H Q E →
    codeAny (model P w) A (.call (.ref f) args) (CR CX0 outer P w H s Q E) s
section
variable {P : Program} {w : World} {K : PySem.W.Frag} {mg : Str → Option Value} {base : Heap}
theorem okG {x qual : Str} {st : Stmt} {f : Addr} {fd : FuncData} {N ps : List Str} {k : Nat} {sp : Sp} (F : Fun K x qual st f fd) (S : FnScope N ps (defScope st))
    (len : ∀ vs H Q E, sp vs H Q E → vs.length = ps.length)
    (hbody : ∀ (cdv : Value) (A : Around) (outer : List Env) (s : Shared) (H : Hp) (vs : List V) (Q : VK) (E : XK),
      Room k (A.deeper (envOfC qual (defScope st) s.heap.objs.size f cdv)) → A.guards = some [] → sp vs H Q E →
      ∃ t, PSs (cxOf CX0 P w K mg base N qual (defScope st) f cdv A outer s H E).nox (defBody st) t ∧ t { nx := fun _ H' => Q .non H', rt := Q } (start N vs) H) :
    FnG P w K mg base (k + 1) f fd ps sp := by
  obtain ⟨oc, od, kV, doc, pm, an, cdv, ct, osl, rfl, lk, hcd⟩ := F.ex
  refine ⟨len, fun A outer s H args us vs Q E hr hgd e0 hb r hsp => ?_⟩
  have hl := len _ _ _ _ hsp
  have kept : ∀ b o, base.get? b = some o → s.heap.get? b = some o := fun b o e => (e0.bs b o e).1
  have KX : K.In s.heap := e0.mod.kin.keeps kept
  have lim : s.heap.NoLimit := e0.mod.nolimit.keeps kept
  have hkind : ∀ y ∈ ps.zip us, (defScope st).names.lookup y.1 = some .local ∨
      ((defScope st).names.lookup y.1 = some .cell ∧ ((cellsFrom (s.heap.objs.size + 1) (defScope st).names []).lookup y.1).isSome = true) := by
    rintro ⟨n, v⟩ hy
    rcases S.par n (List.of_mem_zip hy).1 with q | q
    · left
      exact q
    · right
      exact ⟨q, PySem.W.cellsFrom_some _ _ _ (.inl q)⟩
  refine codeAny_call_function hr.depth (KX _ _ lk) rfl S.co S.gen rfl
    (PySem.W.codeRec_of KX hcd) (hb _ _ _ _ ?_)
  refine wpAny_newFunctionEnv_cells S.kind hkind fun env he s1 x => ?_
  subst he
  refine ⟨lim.keeps x.toInCall.keep, codeAny_func ?_⟩
  obtain ⟨t, ht0, hq⟩ := hbody cdv A outer s H vs Q E (hr.deeper _) hgd hsp
  have ht := ht0.nox
  have I := inv_start (CX := CX0) (E := E) (cd := cdv) (qual := qual) (f := f) S hr.hd e0 hl r x
  refine wpAny_mono (ht.run [] s1 (start N vs) H _ I hq) (fun fl s' hs => ?_)
    fun e s' hs => hs
  cases fl with
  | ret u =>
    obtain ⟨v, σ', H', J, rv, q⟩ := hs
    exact ⟨v, H', J.os, J.bare, J.base, J.hok, rv, q⟩
  | next =>
    obtain ⟨σ', H', J, q⟩ := hs
    exact ⟨V.non, H', J.os, J.bare, J.base, J.hok, rfl, q⟩
  | brk =>
    obtain ⟨_, _, _, q⟩ := hs
    cases q
  | cont =>
    obtain ⟨_, _, _, q⟩ := hs
    cases q
end
section
variable {X : Cx} {k : Nat} {f : Addr} {fd : FuncData} {ps : List Str} {sp : Sp} {x : Str} {p pos : Pos} {e : Expr} {es : List Expr} {t : TA}
theorem pe_callG (F : FnG X.prog X.w X.K X.mg X.base k f fd ps sp) (hr : Room k X.A) (hgd : X.A.guards = some []) (hg : Gl X x) (hm : X.mg x = some (.ref f))
    (hk : PySem.W.keepIn X.K (.ref f) = true) (hb : Binds X.K fd ps []) (ha : PA X (e :: es) t) (hdb : (x == ("__debug__" : Str)) = false := by decide)
    (he : starEach (e :: es) X.env = (false, eval e X.env) :: starEach es X.env := by rfl)
    (hpl : (backTo pos (starEach es X.env)).any (·.1) = false := by rfl) :
    PE X (.Call (.Name x p) (e :: es) [] pos) (tCall sp [] E0 t) := by
  refine ⟨fun pins s σ H Q I h => wpAny_Call_Name_kw (ld_glob I hg hm ?_ hdb)⟩
  refine PySem.W.callWith_K (h₀ := X.base) I.ok.mod.kin hk (thn (ha.run pos pins s σ H _ I h) fun us s1 hh => ?_) he hpl
  obtain ⟨vs, H1, I1, r, q⟩ := hh
  refine ⟨I1.kIn, ?_⟩
  have q1 : sp (vs ++ []) H1 Q E0 := q
  rw [List.append_nil] at q1
  have hl : (us ++ []).length = ps.length := by
    rw [List.append_nil, ← r.length]
    exact F.len _ _ _ _ q1
  have bb := hb s1 us I1.kIn hl
  rw [List.append_nil] at bb
  refine wpAny_call (codeAny_mono (F.run X.A X.stack s1 H1 ⟨us, []⟩ us vs Q E0 hr hgd I1.env0 bb r q1) fun z s' hq => ?_)
  cases z with
  | error e => cases hq
  | ok fl =>
    cases fl with
    | ret u => exact I1.after hq
    | next => cases hq
    | brk => cases hq
    | cont => cases hq
/-- repr(x), x a list or tuple of plain data, where no repr is under way -/
theorem call_reprD (hgd : X.A.guards = some []) (hu : X.A.units + 100 < cLine) : CallR X (.builtin "repr") (fun xs H Q => ∃ (a : Addr) (d : PyData), xs = [.ref a] ∧ Dp X.K H (.ref a) d ∧
    d.showable = true ∧ d.hasDict = false ∧ d.shown.length ≤ sizeLine ∧ d.depth ≤ 64 ∧ Q (.str d.shown) H) := by
  intro pins s σ H xs us Q I r h
  obtain ⟨a, d, rfl, hd, h1, h2, h3, h4, q⟩ := h
  rw [Vals.ref1 r]
  obtain ⟨as, R⟩ := Dp.reads I d (.ref a) (.ref a) hd rfl
  exact repr_of_reads' R h1 (PyData.noDict_hsm h2) hgd (by omega) (fun _ _ e => e) (fun h' u tk hk => ⟨.str d.shown, H, I.kept hk, ⟨u, rfl⟩, q⟩) h3
end
/-! ### the end of a row whose law has such a promise -/
theorem law_callG {P : Program} {w : World} {K : PySem.W.Frag} {mg mb : Str → Option Value} {k : Nat} {fa a : Addr} {fd : FuncData} {x : Str} {sp : Sp} {s₁ : Shared} {vs : List Value} {ns : List Int}
    (KX : K.In s₁.heap) (hns : s₁.heap.Ns mainGlobals mg) (hb : s₁.heap.Ns builtinsNs mb) (hbb : ∀ x : Str, x ≠ "__name__" → mb x = bootBuiltins x) (hlim : s₁.heap.NoLimit) (hg : s₁.gens = #[])
    (ha : s₁.heap.get? a = some { cls := .type "list", data := .seq vs.toArray }) (hi : IntsAre vs ns) (hl : ns.length ≤ sizeLine) (hr : Room k callerA)
    (F : ∀ base : Heap, K.In base → base.Ns mainGlobals mg → FnG P w K mg base k fa fd [x] sp)
    (hbind : ∀ (s : Shared) (u : Value), BindsTo s fd ⟨[u], []⟩ [(x, u)])
    (hsp : ∀ H : Hp, Only H → SqL K H a (ns.map V.int) → sp [.ref a] H (fun v _ => v = .bl true) fun _ _ _ => False) :
    codeAny (model P w) callerA (.call (.ref fa) ⟨[.ref a], []⟩)
      (fun r s' => r = .ok (.ret (.bool true)) ∧ OldK s₁.heap s'.heap ∧ s'.os = s₁.os ∧ AllBare s'.gens) s₁ := by
  have rv := vals_ints hi
  have lenV := hi.length
  have core : ∀ H : Hp, Only H → SqL K H a (ns.map V.int) → HOk P w H s₁.heap → (∀ b, H b ≠ none → b = a) → (H a ≠ none → K.lookup a = none) →
      codeAny (model P w) callerA (.call (.ref fa) ⟨[.ref a], []⟩)
        (fun r s' => r = .ok (.ret (.bool true)) ∧ OldK s₁.heap s'.heap ∧ s'.os = s₁.os ∧ AllBare s'.gens) s₁ := by
    intro H hO hS hok hA hK
    have only_a : ∀ {b : Addr} {u : HO}, H b = some u → b = a := fun {b u} q => hA b (by
      rw [q]
      simp)
    have noA : ∀ {b : Addr} {o : Obj} {es : Array DictEntry} {ep : Nat}, s₁.heap.get? b = some o → o.data = .dict es ep → H b = none := by
      intro b o es ep e d
      cases q : H b with
      | none => rfl
      | some u =>
        have e' := only_a q
        subst e'
        rw [ha] at e
        cases e
        have d' : Data.seq vs.toArray _ = Data.dict es ep := d
        cases d'
    have nsK : ∀ {b : Addr} {m : Str → Option Value}, s₁.heap.Ns b m → (hidT s₁.heap H).Ns b m := by
      rintro b m ⟨o, es, ep, e, d, r⟩
      exact ⟨o, es, ep, hidT_get e (noA e d), d, r⟩
    have hKb : K.In (hidT s₁.heap H) := by
      intro b o e
      refine hidT_get (KX b o e) ?_
      cases q : H b with
      | none => rfl
      | some u =>
        have e' := only_a q
        subst e'
        rw [hK (by rw [q]; simp)] at e
        cases e
    have hM : Mod K mg (hidT s₁.heap H) := by
      obtain ⟨mc, h1, h2⟩ := hlim
      exact ⟨hKb, nsK hns, ⟨mb, nsK hb, hbb⟩, ⟨mc, nsK h1, h2⟩⟩
    have e0 : Env0 P w K mg (hidT s₁.heap H) callerA [] s₁ H :=
      ⟨rfl, hM, fun b o e => of_hidT e, Nat.le_of_eq (hidT_size _ _), trivial,
        fun b hb => absurd (show b ∈ ([] : List Addr) from hb) (by simp), hok, .of_eq hg⟩
    have go := (F _ hKb (nsK hns)).run callerA [] s₁ H ⟨[.ref a], []⟩ [.ref a] [.ref a] _ _ hr rfl e0 (hbind s₁ (.ref a)) (.cons rfl .nil) (hsp H hO hS)
    refine codeAny_mono go fun r s' h => ?_
    cases r with
    | error e => cases h
    | ok fl =>
      cases fl with
      | next => cases h
      | brk => cases h
      | cont => cases h
      | ret u =>
        obtain ⟨v, H', os, bare, un, hok', r', q⟩ := h
        have q' : v = .bl true := q
        subst q'
        obtain rfl : u = Value.bool true := r'
        refine ⟨rfl, OldK.of_keep fun b o e => ?_, os, bare⟩
        cases q : H b with
        | none =>
          exact un.keep b o e q (fun z => absurd (show b ∈ ([] : List Addr) from z) (by simp)) (by simp)
        | some u =>
          rcases hO b with z | ⟨ob, xs, z⟩
          · rw [q] at z
            cases z
          · obtain ⟨e1, _⟩ := hok b _ z
            obtain ⟨e2, _⟩ := hok' b _ (un.frzs b ob _ z)
            rw [e] at e1
            cases e1
            exact e2
  cases hk : K.lookup a with
  | some o =>
    have e := KX a o hk
    rw [ha] at e
    cases e
    have sq : SqL K (fun _ => none) a (ns.map V.int) :=
      .inr ⟨_, vs.toArray, _, hk, rfl, rfl, rfl, by rw [List.size_toArray, lenV]; exact hl, by simpa using rv⟩
    exact core (fun _ => none) (fun _ => .inl rfl) sq (fun b u z => by cases z) (fun b z => absurd rfl z) fun z => absurd rfl z
  | none =>
    refine core (fun b => if b = a then some (.frz { cls := .type "list", data := .seq vs.toArray } (.lst (ns.map V.int))) else none)
      (fun b => ?_) (.inl (.inr ⟨{ cls := .type "list", data := .seq vs.toArray }, if_pos rfl⟩)) (fun b u z => ?_) (fun b z => ?_) fun _ => hk
    · by_cases hb : b = a
      · exact .inr ⟨_, _, if_pos hb⟩
      · exact .inl (if_neg hb)
    · by_cases hb : b = a
      · have z' := (if_pos hb).symm.trans z
        cases z'
        subst hb
        exact ⟨ha, by rw [List.length_map]; exact hl, vs, _, rv, ha⟩
      · have z' := (if_neg hb).symm.trans z
        cases z'
    · by_cases hb : b = a
      · exact hb
      · exact absurd (if_neg hb) z
theorem walk_ofG {l : PySem.W.OpenLaw} {n k : Nat} {q : Program} {loose : List Str} {XP : (Str → Option Value) → Heap → Prop} {YP : World → Heap → Prop} {d : DefRec} {K : Params → PySem.W.Frag} {sp : World → Sp} {x : Str}
    (hn : l.most = some n) (hn2 : n ≤ sizeLine) (hdf : d.params.defaults = []) (hr : Room k callerA) (hY : ∀ (w : World) (h : Heap), YP w h → (K w.params).In h)
    (F : ∀ (w : World) (mg : Str → Option Value) (fa : Addr) (h : Heap), (K w.params).In h → h.Ns mainGlobals mg → mg d.name = some (.ref fa) →
      ∃ fd : FuncData, (∀ (s : Shared) (u : Value), BindsTo s fd ⟨[u], []⟩ [(x, u)]) ∧
        ∀ base : Heap, (K w.params).In base → base.Ns mainGlobals mg → FnG l.prog w (K w.params) mg base k fa fd [x] (sp w))
    (hsp : ∀ (w : World) (H : Hp) (a : Addr) (ns : List Int), ns.length ≤ n → Only H → SqL (K w.params) H a (ns.map V.int) →
      sp w [.ref a] H (fun v _ => v = .bl true) fun _ _ _ => False) :
    PySem.W.WalkO q loose XP YP l.row.toRowW d [] (fun f vs => PySem.call f vs) := by
  refine Att.attach_call hn hdf fun w s₀ s₁ mg mb fa o pm cd doc a vs ns G Y ho hd hcd hmg hobj hints hlen hg => ?_
  obtain ⟨fd, hb, hF⟩ := F w mg fa _ (hY w _ Y) G.T.g hmg
  exact law_callG (hY w _ Y) G.T.g G.T.b G.T.builtins G.T.nolimit hg hobj hints (Nat.le_trans hlen hn2) hr hF hb
    (fun H hO hS => hsp w H a ns hlen hO hS)
end KS
namespace KS
open PySem PySem.Spec PyProof.Rows L2
/-! ### cells and plans -/
abbrev Cell := Int × Int
def CellAt (K : PySem.W.Frag) (H : Hp) (x : V) (c : Cell) : Prop := ∃ t, x = .ref t ∧ SqT K H t [.int c.1, .int c.2]
abbrev CellsAt (K : PySem.W.Frag) (H : Hp) : List V → List Cell → Prop := Paired (CellAt K H)
def lt2 (a b : Cell) : Prop := a.1 < b.1 ∨ (a.1 = b.1 ∧ a.2 < b.2)
def InGrid (c : Cell) : Prop := 0 ≤ c.1 ∧ c.1 ≤ 7 ∧ 0 ≤ c.2 ∧ c.2 ≤ 7
structure Good (cs : List Cell) : Prop where
  asc : cs.Pairwise lt2
  grid : ∀ c ∈ cs, InGrid c
  ne : cs ≠ []
/-- tuples are kept -/
def KT (K : PySem.W.Frag) (H H' : Hp) : Prop := ∀ a xs, SqT K H a xs → SqT K H' a xs
section
variable {K : PySem.W.Frag} {H H1 H2 H' : Hp}
theorem KT.trans (a : KT K H H1) (b : KT K H1 H2) : KT K H H2 := fun x xs h => b x xs (a x xs h)
theorem KT.of_same (a : Same H H1) : KT K H H1 := fun _ _ h => same_seqT a h
theorem KT.of_keepX {p : Addr} (hp : PoolO (H p)) (a : KeepX p H H1) : KT K H H1 := fun _ _ h => keepX_seqT hp a h
theorem KT.upd {e : Addr} {ys : List V} {o : HO} (h : H e = some (.lst ys)) : KT K H (upd H e o) := fun a xs q => by
  rcases q with (q | ⟨ob, q⟩) | q
  · exact .inl (.inl (by rw [upd_ne (ne_of q h (by intro z; cases z))]; exact q))
  · exact .inl (.inr ⟨ob, by rw [upd_ne (ne_of q h (by intro z; cases z))]; exact q⟩)
  · exact .inr q
theorem CellAt.kt {x : V} {c : Cell} (k : KT K H H') (h : CellAt K H x c) : CellAt K H' x c := by
  obtain ⟨t, e, q⟩ := h
  exact ⟨t, e, k _ _ q⟩
theorem cells_kt {xs : List V} {cs : List Cell} (k : KT K H H') (h : CellsAt K H xs cs) : CellsAt K H' xs cs := Paired.mono (fun _ _ q => q.kt k) h
end
theorem paired_append {α β : Type} {F : α → β → Prop} : ∀ {l₁ l₁' : List α} {l₂ l₂' : List β}, Paired F l₁ l₂ → Paired F l₁' l₂' → Paired F (l₁ ++ l₁') (l₂ ++ l₂')
  | _, _, _, _, .nil, h => h
  | _, _, _, _, .cons r t, h => .cons r (paired_append t h)
theorem paired_get {α β : Type} {F : α → β → Prop} : ∀ {l₁ : List α} {l₂ : List β} {i : Nat} {x : α}, Paired F l₁ l₂ → l₁[i]? = some x → ∃ y, l₂[i]? = some y ∧ F x y
  | _, _, _, _, .nil, h => by simp at h
  | _, _, 0, _, .cons r t, h => by
    simp at h
    subst h
    exact ⟨_, rfl, r⟩
  | _, _, i + 1, _, .cons r t, h => by
    simp at h
    obtain ⟨y, e, f⟩ := paired_get t h
    exact ⟨y, by simpa using e, f⟩
theorem paired_erase {α β : Type} {F : α → β → Prop} : ∀ {l₁ : List α} {l₂ : List β} (i : Nat), Paired F l₁ l₂ → Paired F (l₁.eraseIdx i) (l₂.eraseIdx i)
  | _, _, _, .nil => .nil
  | _, _, 0, .cons r t => t
  | _, _, i + 1, .cons r t => .cons r (paired_erase i t)
/-- the cells of one row -/
def rowCells (r c : Int) (n : Nat) : List Cell := (List.range n).map fun (s : Nat) => (r, c + (s : Int))
theorem rowCells_succ (r c : Int) (n : Nat) : rowCells r c (n + 1) = rowCells r c n ++ [(r, c + (n : Int))] := by
  unfold rowCells
  rw [List.range_succ, List.map_append]
  rfl
theorem rowCells_mem {r c : Int} {n : Nat} {x : Cell} (h : x ∈ rowCells r c n) : x.1 = r ∧ c ≤ x.2 ∧ x.2 < c + n := by
  unfold rowCells at h
  obtain ⟨s, hs, rfl⟩ := List.mem_map.mp h
  have := List.mem_range.mp hs
  refine ⟨rfl, ?_, ?_⟩ <;> show _ <;> simp <;> omega
theorem rowCells_asc (r c : Int) : ∀ n : Nat, (rowCells r c n).Pairwise lt2
  | 0 => List.Pairwise.nil
  | n + 1 => by
    rw [rowCells_succ, List.pairwise_append]
    refine ⟨rowCells_asc r c n, List.pairwise_singleton _ _, fun a ha b hb => ?_⟩
    obtain ⟨e1, e2, e3⟩ := rowCells_mem ha
    rw [List.mem_singleton] at hb
    subst hb
    exact .inr ⟨e1, e3⟩
theorem rowCells_len (r c : Int) (n : Nat) : (rowCells r c n).length = n := by
  unfold rowCells
  rw [List.length_map, List.length_range]
def PlanAt (K : PySem.W.Frag) (H : Hp) (a : Addr) (cs : List Cell) : Prop := ∃ xs, SqT K H a xs ∧ CellsAt K H xs cs
theorem PlanAt.kt {K : PySem.W.Frag} {H H' : Hp} {a : Addr} {cs : List Cell} (k : KT K H H') (h : PlanAt K H a cs) : PlanAt K H' a cs := by
  obtain ⟨xs, h1, h2⟩ := h
  exact ⟨xs, k _ _ h1, cells_kt k h2⟩
def spPlan (K : PySem.W.Frag) : Sp := fun vs H Q _ => ∃ (p : Addr) (m : Int), vs = [.ref p, .int m] ∧ PoolO (H p) ∧ 1 ≤ m ∧ m ≤ 24 ∧
  ∀ H' a cs, KeepX p H H' → PoolO (H' p) → PlanAt K H' a cs → Good cs → (cs.length : Int) ≤ m → H a = none → Q (.ref a) H'
/-- where _law_plan stands behind its first loop -/
structure PlSt (K : PySem.W.Frag) (p : Addr) (H : Hp) (m mode wide high top left : Int) (σ : L2.St) (H' : Hp) : Prop where
  ex : ∃ (e : Addr) (xs : List V) (cs : List Cell) (y8 y9 y10 : Option V),
    σ = [some (.ref p), some (.int m), some (.int mode), some (.int wide), some (.int high), some (.int top), some (.int left), some (.ref e), y8, y9, y10, none, none] ∧
    H e = none ∧ e ≠ p ∧ H' e = some (.lst xs) ∧ CellsAt K H' xs cs ∧ Good cs ∧ cs.length ≤ 64
  kx : KeepX p H H'
  po : PoolO (H' p)
/-- every = [spot for spot in every if ..] or every -/
def tFil (K : PySem.W.Frag) (tc : TT) : TS := tAsg (tOrT K (tLc (iList K (tVar 7)) (gName 12) tc (tVar 12) [12]) (tVar 7)) (gName 7)
theorem small64 {n : Nat} (h : n ≤ 64) : n < sizeLine := by
  rw [sizeLine_eq]
  omega
theorem fil_ok {K : PySem.W.Frag} {p : Addr} {H : Hp} {m mode wide high top left : Int} {tc : TT} {D : Ends} {σ : L2.St} {H' : Hp} (h : PlSt K p H m mode wide high top left σ H')
    (htc : ∀ (t : Addr) (c : Cell) (H2 : Hp) (R : Bool → Hp → Prop), SqT K H2 t [.int c.1, .int c.2] → PoolO (H2 p) → (∀ b H3, KeepX p H2 H3 → PoolO (H3 p) → R b H3) → tc (σ.set 12 (some (.ref t))) H2 R)
    (k : ∀ σ' H'', PlSt K p H m mode wide high top left σ' H'' → D.nx σ' H'') : tFil K tc D σ H' := by
  obtain ⟨⟨e, xs, cs, y8, y9, y10, rfl, he0, hep, he, hc, gd, hl⟩, kx, po⟩ := h
  have hlen := Paired.length hc
  refine ⟨_, rfl, e, rfl, ⟨_, SqL.of he⟩, fun d nd => ?_⟩
  have ned : e ≠ d := ne_of_none he nd
  have npd : p ≠ d := po.ne nd
  refine lc_list (K := K) (a := e) (xs := xs) (fun i H2 => ∃ (acc : List V) (cs' : List Cell), H2 d = some (.lst acc) ∧ CellsAt K H2 acc cs' ∧ cs'.Sublist (cs.take i) ∧
    KeepX p H H2 ∧ PoolO (H2 p) ∧ H2 e = some (.lst xs) ∧ CellsAt K H2 xs cs) ?_ ?_ ?_ ?_
  · have s1 := same_new (o := .lst []) nd
    refine ⟨[], [], upd_same, .nil, List.nil_sublist _, kx.trans (.of_same s1), po.same s1, s1 _ _ he, cells_kt (.of_same s1) hc⟩
  · rintro i H2 _ ⟨acc, cs', _, _, _, _, _, h6, _⟩
    exact SqL.of h6
  · rintro i x H2 hi ⟨acc, cs', h1, h2, h3, h4, h5, h6, h7⟩
    obtain ⟨c, hci, t, rfl, ht⟩ := paired_get h7 hi
    have hlt : i < cs.length := (List.getElem?_eq_some_iff.mp hci).1
    have tk : cs.take (i + 1) = cs.take i ++ [c] := by
      rw [List.take_add_one, hci]
      rfl
    refine ⟨rfl, htc t c H2 _ ht h5 (fun b H3 k3 p3 => ?_)⟩
    have q3 : KT K H2 H3 := KT.of_keepX h5 k3
    have hd3 : H3 d = some (.lst acc) := k3 _ _ (Ne.symm npd) h1
    have he3 : H3 e = some (.lst xs) := k3 _ _ hep h6
    have hal : acc.length ≤ 64 := by
      rw [Paired.length h2]
      exact Nat.le_trans h3.length_le (by rw [List.length_take]; omega)
    refine ite2 (fun _ => ?_) (fun _ => ?_)
    · refine ⟨_, rfl, acc, hd3, small64 hal, acc ++ [.ref t], cs' ++ [c], upd_same, ?_, ?_, ?_, ?_, ?_, ?_⟩
      · exact cells_kt (q3.trans (KT.upd hd3)) (paired_append h2 (.cons ⟨t, rfl, ht⟩ .nil))
      · rw [tk]
        exact List.Sublist.append h3 (List.Sublist.refl _)
      · intro b o n e2
        rw [upd_ne (fun z => by
          subst z
          have q := kx b o n e2
          rw [nd] at q
          cases q)]
        exact k3 _ _ n (h4 _ _ n e2)
      · rw [upd_ne npd]
        exact p3
      · rw [upd_ne ned]
        exact he3
      · exact cells_kt (q3.trans (KT.upd hd3)) h7
    · refine ⟨acc, cs', hd3, cells_kt q3 h2, ?_, h4.trans k3, p3, he3, cells_kt q3 h7⟩
      rw [tk]
      exact List.Sublist.trans h3 (List.sublist_append_left _ _)
  · rintro H2 ⟨acc, cs', h1, h2, h3, h4, h5, h6, h7⟩
    have h3' : cs'.Sublist cs := List.Sublist.trans h3 (List.take_sublist _ _)
    refine ⟨!acc.isEmpty, .inl ⟨acc, SqL.of h1, rfl⟩, ite2 (fun e1 => ?_) (fun e1 => ?_)⟩
    · refine k _ _ ⟨⟨d, acc, cs', y8, y9, y10, rfl, ?_, Ne.symm npd, h1, h2, ⟨gd.asc.sublist h3', fun c hc => gd.grid c (h3'.subset hc), ?_⟩, Nat.le_trans h3'.length_le hl⟩, h4, h5⟩
      · cases q : H d with
        | none => rfl
        | some o =>
          have z := kx d o (Ne.symm npd) q
          rw [nd] at z
          cases z
      · intro z
        subst z
        cases h2
        cases e1
    · exact ⟨_, rfl, k _ _ ⟨⟨e, xs, cs, y8, y9, y10, rfl, he0, hep, h6, h7, gd, hl⟩, h4, h5⟩⟩
end KS
namespace KS
open PySem PySem.Spec PyProof.Rows L2
abbrev tDr (tm : TE) : TE := tCall spDraw [] E0 (tCons (tVar 0) (tCons tm tNil))
abbrev rAdd : V → V → Hp → VK → Prop := rI0 fun i j => .int (i + j)
/-- if mode == 2: high, wide = 1 + draw(pool, 8), 1 + draw(pool, 8) -/
theorem par_if {p : Addr} {m mode wide high : Int} {σr : L2.St} {H2 : Hp} {D : Ends} (po : PoolO (H2 p)) (hw : 1 ≤ wide ∧ wide ≤ 8) (hh : 1 ≤ high ∧ high ≤ 8)
    (k : ∀ (wide' high' : Int) (H3 : Hp), KeepX p H2 H3 → PoolO (H3 p) → 1 ≤ wide' ∧ wide' ≤ 8 → 1 ≤ high' ∧ high' ≤ 8 → D.nx (some (.ref p) :: some (.int m) :: some (.int mode) :: some (.int wide') :: some (.int high') :: σr) H3) :
    tIfS (tTest (tOp rEq (tVar 2) (tC (.int 2)))) (tPar 4 3 (tCons (tOp rAdd (tC (.int 1)) (tDr (tC (.int 8)))) (tCons (tOp rAdd (tC (.int 1)) (tDr (tC (.int 8)))) tNil))) tNext D
      (some (.ref p) :: some (.int m) :: some (.int mode) :: some (.int wide) :: some (.int high) :: σr) H2 := by
  refine ⟨_, rfl, rfl, _, rfl, ite2 (fun e => ?_) (fun e => ?_)⟩
  · refine ⟨_, rfl, p, 8, rfl, po, by decide, by decide, fun H3 a k3 po3 a0 a1 => ?_⟩
    refine ⟨_, _, rfl, rfl, _, rfl, p, 8, rfl, po3, by decide, by decide, fun H4 b k4 po4 b0 b1 => ?_⟩
    exact ⟨_, _, rfl, rfl, _, _, rfl, k (1 + b) (1 + a) H4 (k3.trans k4) po4 ⟨by omega, by omega⟩ ⟨by omega, by omega⟩⟩
  · exact k wide high H2 (KeepX.refl _ _) po hw hh
/-- if mode == n: every = [spot for spot in every if ..] or every -/
theorem fil_if {K : PySem.W.Frag} {p : Addr} {H : Hp} {m mode wide high top left n : Int} {tc : TT} {D : Ends} {σ : L2.St} {H' : Hp} (h : PlSt K p H m mode wide high top left σ H')
    (htc : ∀ (t : Addr) (c : Cell) (H2 : Hp) (R : Bool → Hp → Prop), SqT K H2 t [.int c.1, .int c.2] → PoolO (H2 p) → (∀ b H3, KeepX p H2 H3 → PoolO (H3 p) → R b H3) → tc (σ.set 12 (some (.ref t))) H2 R)
    (k : ∀ σ' H'', PlSt K p H m mode wide high top left σ' H'' → D.nx σ' H'') : tIfS (tTest (tOp rEq (tVar 2) (tC (.int n)))) (tFil K tc) tNext D σ H' := by
  obtain ⟨e, xs, cs, y8, y9, y10, es, rest⟩ := h.ex
  refine ⟨.int mode, by rw [es]; rfl, rfl, _, rfl, ite2 (fun e => ?_) (fun e => ?_)⟩
  · exact fil_ok h htc k
  · exact k _ _ h
theorem draw_test {K : PySem.W.Frag} {p : Addr} {H : Hp} {m mode wide high top left n : Int} {σ : L2.St} {H' : Hp} (h : PlSt K p H m mode wide high top left σ H') (n0 : 0 < n) (n1 : n < 1073741824)
    (t : Addr) (c : Cell) (H2 : Hp) (R : Bool → Hp → Prop) (ht : SqT K H2 t [.int c.1, .int c.2]) (po : PoolO (H2 p)) (k : ∀ b H3, KeepX p H2 H3 → PoolO (H3 p) → R b H3) :
    tTest (tOp (rI0 fun i j => .bl (decide (i > j))) (tDr (tC (.int n))) (tC (.int 0))) (σ.set 12 (some (.ref t))) H2 R := by
  obtain ⟨e, xs, cs, y8, y9, y10, es, rest⟩ := h.ex
  subst es
  exact ⟨_, rfl, p, n, rfl, po, n0, n1, fun H3 r k3 po3 r0 r1 => ⟨_, _, rfl, rfl, _, rfl, k _ _ k3 po3⟩⟩
end KS
namespace KS
open PySem PySem.Spec PyProof.Rows L2
abbrev rSub : V → V → Hp → VK → Prop := rI0 fun i j => .int (i - j)
abbrev rLe : V → V → Hp → VK → Prop := rI0 fun i j => .bl (decide (i ≤ j))
theorem fil3_if {K : PySem.W.Frag} {p : Addr} {H : Hp} {m mode wide high top left : Int} {D : Ends} {σ : L2.St} {H' : Hp} (h : PlSt K p H m mode wide high top left σ H')
    (k : ∀ σ' H'', PlSt K p H m mode wide high top left σ' H'' → D.nx σ' H'') :
    tIfS (tTest (tOp rEq (tVar 2) (tC (.int 3)))) (tSeq (tAsg (tOp rAdd (tOp rAdd (tVar 5) (tVar 6)) (tDr (tC (.int 4)))) (gName 9))
      (tSeq (tAsg (tOp rSub (tOp rSub (tOp rAdd (tOp rAdd (tOp rAdd (tVar 5) (tVar 6)) (tVar 4)) (tVar 3)) (tC (.int 2))) (tDr (tC (.int 4)))) (gName 10))
      (tFil K (tTest (tChain rLe rLe (tVar 9) (tCB (rSumT K) (tCons (tVar 12) tNil)) (tVar 10)))))) tNext D σ H' := by
  obtain ⟨⟨e, xs, cs, y8, y9, y10, rfl, he0, hep, he, hc, gd, hl⟩, kx, po⟩ := id h
  refine ⟨_, rfl, rfl, _, rfl, ite2 (fun e => ?_) (fun e => ?_)⟩
  · refine ⟨_, rfl, _, rfl, _, _, rfl, rfl, _, rfl, p, 4, rfl, po, by decide, by decide, fun H1 a k1 po1 _ _ => ⟨_, _, rfl, rfl, ?_⟩⟩
    refine ⟨_, rfl, _, rfl, _, _, rfl, rfl, _, rfl, _, _, rfl, rfl, _, rfl, _, _, rfl, rfl, _, _, rfl, rfl, _, rfl, p, 4, rfl, po1, by decide, by decide, fun H2 b k2 po2 _ _ => ⟨_, _, rfl, rfl, ?_⟩⟩
    have k12 := k1.trans k2
    refine fil_ok (p := p) (H := H) (m := m) (mode := mode) (wide := wide) (high := high) (top := top) (left := left)
      ⟨⟨_, xs, cs, y8, _, _, rfl, he0, hep, k12 _ _ hep he, cells_kt (KT.of_keepX po k12) hc, gd, hl⟩, kx.trans k12, po2⟩ (fun t c H3 R ht p3 kk => ?_) k
    refine ⟨_, rfl, _, rfl, t, [c.1, c.2], rfl, ht, _, _, rfl, rfl, _, rfl, ite2 (fun e1 => ?_) (fun e1 => ?_)⟩
    · exact ⟨_, rfl, _, _, rfl, rfl, _, rfl, kk _ _ (KeepX.refl _ _) p3⟩
    · exact ⟨_, rfl, kk _ _ (KeepX.refl _ _) p3⟩
  · exact k _ _ h
end KS
namespace KS
open PySem PySem.Spec PyProof.Rows L2
theorem tyx_tup {K : PySem.W.Frag} {H : Hp} {a : Addr} {xs : List V} (h : SqT K H a xs) : TyX K H (.ref a) (.type "tuple") := by
  rcases h with (h | ⟨o, h⟩) | h
  · exact .base (.tup h)
  · exact .fTuple h
  · obtain ⟨o, its, n, e, c, r⟩ := h
    exact .kTuple e c
theorem bl_true {p : Prop} [Decidable p] (h : p) : V.bl (decide p) = V.bl true := by rw [decide_eq_true h]
theorem bl_false {p : Prop} [Decidable p] (h : ¬ p) : V.bl (decide p) = V.bl false := by rw [decide_eq_false h]
/-- a number of a row or column -/
def Place (v : Int) : Prop := 0 ≤ v ∧ v ≤ 7
def spWhole : Sp := fun vs H Q _ => ∃ i : Int, vs = [.int i] ∧ Q (.bl true) H
def spBetween : Sp := fun vs H Q _ => ∃ i lo hi : Int, vs = [.int i, .int lo, .int hi] ∧ lo ≤ i ∧ i ≤ hi ∧ Q (.bl true) H
def spPlace : Sp := fun vs H Q _ => ∃ i : Int, vs = [.int i] ∧ Place i ∧ Q (.bl true) H
def spIsCell (K : PySem.W.Frag) : Sp := fun vs H Q _ => ∃ (a : Addr) (c : Cell), vs = [.ref a] ∧ SqT K H a [.int c.1, .int c.2] ∧ InGrid c ∧ Q (.bl true) H
def spCheck (K : PySem.W.Frag) : Sp := fun vs H Q _ => ∃ (a : Addr) (cs : List Cell), vs = [.ref a] ∧ PlanAt K H a cs ∧ Good cs ∧ cs.length ≤ 24 ∧ ∀ H', Same H H' → Q .non H'
theorem good_step {cs : List Cell} (g : cs.Pairwise lt2) {i : Nat} {a b : Cell} (h1 : cs[i]? = some a) (h2 : cs[i + 1]? = some b) : lt2 a b := by
  obtain ⟨l1, e1⟩ := List.getElem?_eq_some_iff.mp h1
  obtain ⟨l2, e2⟩ := List.getElem?_eq_some_iff.mp h2
  have := (List.pairwise_iff_getElem.mp g) i (i + 1) l1 l2 (by omega)
  rw [e1, e2] at this
  exact this
theorem not_le2 {a b : Cell} (h : lt2 a b) : Ob.lexAt (fun j => decide (([b.1, b.2] : List Int).getD j 0 = ([a.1, a.2] : List Int).getD j 0)) (fun j => decide (([b.1, b.2] : List Int).getD j 0 ≤ ([a.1, a.2] : List Int).getD j 0)) (decide (([b.1, b.2] : List Int).length ≤ ([a.1, a.2] : List Int).length)) 0 (min ([b.1, b.2] : List Int).length ([a.1, a.2] : List Int).length) = false := by
  show Ob.lexAt _ _ _ 0 2 = false
  rw [Ob.lexAt_succ, Ob.lexAt_succ]
  show (if decide (b.1 = a.1) = true then (if decide (b.2 = a.2) = true then _ else decide (b.2 ≤ a.2)) else decide (b.1 ≤ a.1)) = false
  rcases h with h | ⟨h1, h2⟩
  · rw [if_neg (by simp; omega)]
    simp
    omega
  · rw [if_pos (by simp; omega), if_neg (by simp; omega)]
    simp
    omega
end KS
namespace KS
open PySem PySem.Spec PyProof.Rows L2
/-! ### f(k = v, ..), keywords alone -/
structure KwBinds (fd : FuncData) (ps ks : List Str) (g : List Value → List Value) (gV : List V → List V) : Prop where
  to : ∀ (s : Shared) (ws : List Value), (g ws).length = ps.length → BindsTo s fd ⟨[], ks.zip ws⟩ (ps.zip (g ws))
  rel : ∀ {zs : List V} {ws : List Value}, Vals zs ws → Vals (gV zs) (g ws)
def tCallKw (sp : Sp) (gV : List V → List V) (E : XK) (tk : TA) : TE := fun σ H Q => tk σ H fun zs H2 => sp (gV zs) H2 Q E
section
variable {X : Cx} {CX : CXT} {k : Nat} {f : Addr} {fd : FuncData} {ps ks : List Str} {sp : Sp} {E : XK} {x : Str} {p pos : Pos} {kws : List Keyword} {tk : TA} {g : List Value → List Value} {gV : List V → List V}
theorem pe_callKw (F : FnOk X.prog X.w X.K X.mg X.base CX k f fd ps sp) (hr : Room k X.A) (hg : Gl X x) (hm : X.mg x = some (.ref f)) (hk : PySem.W.keepIn X.K (.ref f) = true) (hb : KwBinds fd ps ks g gV)
    (hx : Passes CX X E) (hkw : PK X kws tk) (hall : (backToKw pos (keywordEach kws X.env)).all (·.1.isSome) = true := by rfl)
    (hks : (backToKw pos (keywordEach kws X.env)).filterMap (·.1) = ks := by rfl) (hdb : (x == ("__debug__" : Str)) = false := by decide)
    (hpl : ((backTo pos (starEach [] X.env)).any (·.1) || (backToKw pos (keywordEach kws X.env)).any (·.1.isNone)) = false := by rfl) :
    PE X (.Call (.Name x p) [] kws pos) (tCallKw sp gV E tk) := by
  refine ⟨fun pins s σ H Q I h => wpAny_Call_Name_kw (ld_glob I hg hm ?_ hdb)⟩
  refine PySem.W.callWith_KW0 (h₀ := X.base) I.ok.mod.kin hk hall ?_ hpl
  refine thn (hkw.run pos pins s σ H _ I h) fun ws s2 hh => ?_
  obtain ⟨zs, H2, I2, rz, q2⟩ := hh
  refine ⟨I2.kIn, ?_⟩
  rw [hks]
  have r2 := hb.rel rz
  have hl : (g ws).length = ps.length := by
    rw [← r2.length]
    exact F.len _ _ _ _ q2
  show wpAny _ _ (call (.ref f) [] (ks.zip ws)) _ _ _
  refine wpAny_call (codeAny_mono (F.run X.A X.stack s2 H2 ⟨[], ks.zip ws⟩ (g ws) (gV zs) Q E hr I2.env0 (hb.to s2 ws hl) r2 q2) fun z s' hq => ?_)
  cases z with
  | error e => exact hx pins σ H2 s2 e s' I2 hq
  | ok fl =>
    cases fl with
    | ret u => exact I2.after hq
    | next => cases hq
    | brk => cases hq
    | cont => cases hq
end
theorem kw_binds {K : PySem.W.Frag} {x qual : Str} {st : Stmt} {f : Addr} {fd : FuncData} {ps ks : List Str} {g : List Value → List Value} {gV : List V → List V} (F : Fun K x qual st f fd)
    (h : ∀ (kV doc pm : Value) (an : Option Addr) (cdv ct : Value) (ws : List Value), (g ws).length = ps.length →
      bindArgs (PySem.W.fnOf x qual (defArgs st) (defBody st) (defScope st) .none kV doc pm an cdv ct) ⟨[], ks.zip ws⟩ = pure (ps.zip (g ws)))
    (rel : ∀ {zs : List V} {ws : List Value}, Vals zs ws → Vals (gV zs) (g ws)) : KwBinds fd ps ks g gV := by
  obtain ⟨oc, od, kV, doc, pm, an, cdv, ct, osl, rfl, lk, hcd⟩ := F.ex
  exact ⟨fun s ws hl => .of_eq (h kV doc pm an cdv ct ws hl), rel⟩
/-- two keywords, in the other order -/
def swap2 {α : Type} : List α → List α
  | [a, b] => [b, a]
  | _ => []
theorem swap2_rel {zs : List V} {ws : List Value} (r : Vals zs ws) : Vals (swap2 zs) (swap2 ws) := by
  cases r with
  | nil => exact .nil
  | cons r1 r2 =>
    cases r2 with
    | nil => exact .nil
    | cons r3 r4 =>
      cases r4 with
      | nil => exact .cons r3 (.cons r1 .nil)
      | cons _ _ => exact .nil
/-! ### lines, as numbers -/
/-- row (false) or column (true) of a cell -/
def pick (b : Bool) (c : Cell) : Int := if b = true then c.2 else c.1
/-- the indexes below i of cells in line r -/
def idxs (b : Bool) (cs : List Cell) (i : Nat) (r : Int) : List Int := ((List.range i).filter fun j => decide ((cs[j]?).map (pick b) = some r)).map fun (j : Nat) => (j : Int)
theorem idxs_zero (b : Bool) (cs : List Cell) (r : Int) : idxs b cs 0 r = [] := rfl
theorem idxs_hit {b : Bool} {cs : List Cell} {i : Nat} {c : Cell} (h : cs[i]? = some c) : idxs b cs (i + 1) (pick b c) = idxs b cs i (pick b c) ++ [(i : Int)] := by
  unfold idxs
  rw [List.range_succ, List.filter_append, List.map_append]
  congr 1
  rw [List.filter_cons_of_pos (by simp [h])]
  rfl
theorem idxs_miss {b : Bool} {cs : List Cell} {i : Nat} {c : Cell} {r : Int} (h : cs[i]? = some c) (n : pick b c ≠ r) : idxs b cs (i + 1) r = idxs b cs i r := by
  unfold idxs
  rw [List.range_succ, List.filter_append, List.map_append]
  rw [List.filter_cons_of_neg (by simp [h, n])]
  simp
def lnsOf (b : Bool) (cs : List Cell) : List (List Int) := ((List.range 8).map fun (r : Nat) => idxs b cs cs.length (r : Int)).filter fun l => decide (l ≠ [])
theorem idxs_mem {b : Bool} {cs : List Cell} {i : Nat} {r x : Int} (h : x ∈ idxs b cs i r) : 0 ≤ x ∧ x < (i : Int) := by
  unfold idxs at h
  obtain ⟨j, hj, rfl⟩ := List.mem_map.mp h
  have := List.mem_range.mp (List.mem_filter.mp hj).1
  omega
theorem idxs_len (b : Bool) (cs : List Cell) (i : Nat) (r : Int) : (idxs b cs i r).length ≤ i := by
  unfold idxs
  rw [List.length_map]
  exact Nat.le_trans (List.length_filter_le _ _) (by simp)
theorem idxs_grid {b : Bool} {cs : List Cell} {i : Nat} {r : Int} (g : ∀ c ∈ cs, InGrid c) (h : idxs b cs i r ≠ []) : 0 ≤ r ∧ r < 8 := by
  cases e : idxs b cs i r with
  | nil => exact absurd e h
  | cons x l =>
    have hx : x ∈ idxs b cs i r := by
      rw [e]
      exact List.mem_cons_self
    unfold idxs at hx
    obtain ⟨j, hj, rfl⟩ := List.mem_map.mp hx
    have q := of_decide_eq_true (List.mem_filter.mp hj).2
    cases z : cs[j]? with
    | none =>
      rw [z] at q
      cases q
    | some c =>
      rw [z] at q
      have q' : pick b c = r := Option.some.inj q
      have gc := g c (List.mem_of_getElem? z)
      unfold pick at q'
      unfold InGrid at gc
      split at q' <;> omega
/-- two strictly ascending lists with the same members are one -/
theorem asc_ext : ∀ {l m : List Int}, l.Pairwise (· < ·) → m.Pairwise (· < ·) → (∀ x, x ∈ l ↔ x ∈ m) → l = m
  | [], [], _, _, _ => rfl
  | [], y :: m, _, _, h => absurd ((h y).mpr List.mem_cons_self) (by simp)
  | x :: l, [], _, _, h => absurd ((h x).mp List.mem_cons_self) (by simp)
  | x :: l, y :: m, h1, h2, h => by
    rw [List.pairwise_cons] at h1 h2
    have e : x = y := by
      rcases List.mem_cons.mp ((h x).mp List.mem_cons_self) with z | z
      · exact z
      · rcases List.mem_cons.mp ((h y).mpr List.mem_cons_self) with z2 | z2
        · exact z2.symm
        · have a := h2.1 x z
          have b := h1.1 y z2
          omega
    subst e
    congr 1
    refine asc_ext h1.2 h2.2 fun z => ⟨fun hz => ?_, fun hz => ?_⟩
    · rcases List.mem_cons.mp ((h z).mp (List.mem_cons_of_mem _ hz)) with e | e
      · have := h1.1 z hz
        omega
      · exact e
    · rcases List.mem_cons.mp ((h z).mpr (List.mem_cons_of_mem _ hz)) with e | e
      · have := h2.1 z hz
        omega
      · exact e
theorem strict_of {l : List Int} (h : l.Pairwise (· ≤ ·)) (n : l.Nodup) : l.Pairwise (· < ·) := by
  rw [List.nodup_iff_pairwise_ne] at n
  exact (h.and n).imp fun {a b} q => by omega
/-- the lines in use, by number -/
def usedOf (b : Bool) (cs : List Cell) : List Int := ((List.range 8).map fun (r : Nat) => (r : Int)).filter fun r => decide (idxs b cs cs.length r ≠ [])
theorem used_asc (b : Bool) (cs : List Cell) : (usedOf b cs).Pairwise (· < ·) := by
  unfold usedOf
  exact List.Pairwise.sublist List.filter_sublist (by decide)
theorem used_lines (b : Bool) (cs : List Cell) : (usedOf b cs).map (fun r => idxs b cs cs.length r) = lnsOf b cs := by
  unfold usedOf lnsOf
  rw [List.filter_map, List.filter_map, List.map_map]
  rfl
theorem used_mem {b : Bool} {cs : List Cell} (g : ∀ c ∈ cs, InGrid c) (r : Int) : r ∈ usedOf b cs ↔ idxs b cs cs.length r ≠ [] := by
  unfold usedOf
  rw [List.mem_filter]
  refine ⟨fun h => of_decide_eq_true h.2, fun h => ⟨?_, decide_eq_true h⟩⟩
  have := idxs_grid g h
  rw [List.mem_map]
  exact ⟨r.toNat, List.mem_range.mpr (by omega), by omega⟩
/-! ### lines, in the heap -/
def TupI (K : PySem.W.Frag) (H : Hp) (x : V) (l : List Int) : Prop := ∃ t, x = .ref t ∧ SqT K H t (l.map V.int)
def LstI (H : Hp) (x : V) (l : List Int) : Prop := ∃ t, x = .ref t ∧ H t = some (.lst (l.map V.int))
abbrev lineD (l : List Int) : PyData := .tuple (l.map PyData.int)
abbrev linesD (ls : List (List Int)) : PyData := .tuple (ls.map lineD)
theorem dp_ints {K : PySem.W.Frag} {H : Hp} : ∀ l : List Int, DpAll K H (l.map V.int) (l.map PyData.int)
  | [] => .nil
  | x :: l => .cons (.int x) (dp_ints l)
theorem dp_lines {K : PySem.W.Frag} {H : Hp} : ∀ {xs : List V} {ls : List (List Int)}, Paired (TupI K H) xs ls → DpAll K H xs (ls.map lineD)
  | _, _, .nil => .nil
  | _, _, .cons ⟨t, e, h⟩ r => by
    subst e
    exact .cons (.tup h (dp_ints _)) (dp_lines r)
theorem tupI_kt {K : PySem.W.Frag} {H H' : Hp} (k : KT K H H') {xs : List V} {ls : List (List Int)} (h : Paired (TupI K H) xs ls) : Paired (TupI K H') xs ls :=
  Paired.mono (fun _ _ ⟨t, e, q⟩ => ⟨t, e, k _ _ q⟩) h
def spIsKind : Sp := fun vs H Q _ => ∃ b : Bool, vs = [.str (if b = true then "C" else "R")] ∧ ∀ H', Same H H' → Q (.bl true) H'
def spKind : Sp := fun vs H Q _ => ∃ b : Bool, vs = [.str (if b = true then "C" else "R")] ∧ ∀ H', Same H H' → Q .non H'
def spLines (K : PySem.W.Frag) : Sp := fun vs H Q _ => ∃ (a : Addr) (b : Bool) (cs : List Cell), vs = [.ref a, .str (if b = true then "C" else "R")] ∧ PlanAt K H a cs ∧ Good cs ∧ cs.length ≤ 24 ∧
  ∀ H' p xs, Same H H' → SqT K H' p xs → Paired (TupI K H') xs (lnsOf b cs) → Q (.ref p) H'
def spLawLines (K : PySem.W.Frag) : Sp := fun vs H Q _ => ∃ (a : Addr) (b : Bool) (cs : List Cell), vs = [.ref a, .str (if b = true then "C" else "R")] ∧ PlanAt K H a cs ∧ cs.length ≤ 24 ∧
  ∀ H' p xs, Same H H' → H' p = some (.lst xs) → Paired (LstI H') xs (lnsOf b cs) → Q (.ref p) H'
end KS
namespace KS
open PySem PySem.Spec PyProof.Rows L2
/-- 0 if kind == "R" else 1 -/
theorem side_ok {b : Bool} {σ : L2.St} {H : Hp} {Q : VK} (hσ : σ[1]? = some (some (.str (if b = true then "C" else "R")))) (k : Q (.int (if b = true then 1 else 0)) H) :
    tIf (tTest (tOp rEq (tVar 1) (tC (.str "R")))) (tC (.int 0)) (tC (.int 1)) σ H Q := by
  refine ⟨_, hσ, by cases b <;> rfl, _, rfl, ?_⟩
  cases b
  · rw [if_pos (by decide +kernel)]
    exact k
  · rw [if_neg (by decide +kernel)]
    exact k
theorem at_pick {b : Bool} {c : Cell} : atI [V.int c.1, V.int c.2] (if b = true then 1 else 0) = some (V.int (pick b c)) := by
  cases b <;> rfl
/-- the dict of lines behind i cells -/
structure Grp (b : Bool) (cs : List Cell) (i : Nat) (d : Addr) (kvs : List (Key × V)) (ad : Int → Addr) (H : Hp) : Prop where
  dict : H d = some (.dK kvs)
  keys : ∃ ks : List Int, kvs.map (·.1) = ks.map Sum.inl ∧ ks.Nodup ∧ ks.length ≤ i
  val : ∀ r : Int, valV kvs (.inl r) = if idxs b cs i r = [] then none else some (.ref (ad r))
  lst : ∀ r : Int, idxs b cs i r ≠ [] → H (ad r) = some (.lst ((idxs b cs i r).map V.int))
  inj : ∀ r r' : Int, idxs b cs i r ≠ [] → idxs b cs i r' ≠ [] → ad r = ad r' → r = r'
theorem Grp.same {b : Bool} {cs : List Cell} {i : Nat} {d : Addr} {kvs : List (Key × V)} {ad : Int → Addr} {H H' : Hp} (g : Grp b cs i d kvs ad H) (s : Same H H') : Grp b cs i d kvs ad H' :=
  ⟨s _ _ g.dict, g.keys, g.val, fun r h => s _ _ (g.lst r h), g.inj⟩
theorem Grp.more {b : Bool} {cs : List Cell} {i : Nat} {d : Addr} {kvs : List (Key × V)} {ad : Int → Addr} {H : Hp} {c : Cell} (g : Grp b cs i d kvs ad H) (hc : cs[i]? = some c) (h : idxs b cs i (pick b c) ≠ []) :
    Grp b cs (i + 1) d kvs ad (upd H (ad (pick b c)) (.lst ((idxs b cs i (pick b c)).map V.int ++ [.int (i : Nat)]))) := by
  have same : ∀ r, (idxs b cs (i + 1) r = []) ↔ (idxs b cs i r = []) := fun r => by
    by_cases e : pick b c = r
    · subst e
      rw [idxs_hit hc]
      simp [h]
    · rw [idxs_miss hc e]
  have hd : d ≠ ad (pick b c) := ne_of g.dict (g.lst _ h) (by intro z; cases z)
  obtain ⟨ks, k1, k2, k3⟩ := g.keys
  refine ⟨by rw [upd_ne hd]; exact g.dict, ⟨ks, k1, k2, by omega⟩, fun r => ?_, fun r hr => ?_, fun r r' h1 h2 => g.inj r r' (fun z => h1 ((same r).mpr z)) (fun z => h2 ((same r').mpr z))⟩
  · rw [g.val r]
    by_cases e : idxs b cs i r = []
    · rw [if_pos e, if_pos ((same r).mpr e)]
    · rw [if_neg e, if_neg (fun z => e ((same r).mp z))]
  · have hr' : idxs b cs i r ≠ [] := fun z => hr ((same r).mpr z)
    by_cases e : pick b c = r
    · subst e
      rw [upd_same, idxs_hit hc, List.map_append]
      rfl
    · rw [upd_ne (fun z => e (g.inj _ _ h hr' z.symm)), idxs_miss hc e]
      exact g.lst r hr'
theorem Grp.new {b : Bool} {cs : List Cell} {i : Nat} {d z : Addr} {kvs : List (Key × V)} {ad : Int → Addr} {H : Hp} {c : Cell} (g : Grp b cs i d kvs ad H) (hc : cs[i]? = some c) (h : idxs b cs i (pick b c) = []) (nz : H z = none) :
    Grp b cs (i + 1) d (putK kvs (.inl (pick b c)) (.ref z)) (fun r => if r = pick b c then z else ad r) (upd (upd (upd H z (.lst [])) d (.dK (putK kvs (.inl (pick b c)) (.ref z)))) z (.lst ([] ++ [.int (i : Nat)]))) := by
  have hv : valV kvs (.inl (pick b c)) = none := by
    rw [g.val, if_pos h]
  have hdz : d ≠ z := ne_of_none g.dict nz
  have hput : putK kvs (Sum.inl (pick b c)) (V.ref z) = kvs ++ [(Sum.inl (pick b c), V.ref z)] := by
    unfold putK
    rw [if_neg]
    rw [valV_any, hv]
    simp
  have hit : idxs b cs (i + 1) (pick b c) = [(i : Int)] := by
    rw [idxs_hit hc, h]
    rfl
  obtain ⟨ks, k1, k2, k3⟩ := g.keys
  refine ⟨?_, ⟨ks ++ [pick b c], ?_, ?_, ?_⟩, fun r => ?_, fun r hr => ?_, fun r r' h1 h2 => ?_⟩
  · rw [upd_ne hdz, upd_same]
  · rw [hput, List.map_append, List.map_append, k1]
    rfl
  · rw [List.nodup_append]
    refine ⟨k2, by simp, fun x hx y hy e => ?_⟩
    rw [List.mem_singleton] at hy
    subst hy
    subst e
    apply valV_not hv
    rw [k1]
    exact List.mem_map.mpr ⟨_, hx, rfl⟩
  · rw [List.length_append]
    simp
    omega
  · rw [valV_put]
    by_cases e : r = pick b c
    · subst e
      rw [if_pos rfl, hit, if_neg (by simp), if_pos rfl]
    · rw [if_neg (fun q => e (Sum.inl.inj q)), g.val, idxs_miss hc (Ne.symm e), if_neg e]
  · by_cases e : r = pick b c
    · subst e
      show upd _ _ _ (if _ then z else _) = _
      rw [if_pos rfl, upd_same, hit]
      rfl
    · show upd _ _ _ (if _ then z else _) = _
      rw [if_neg e]
      rw [idxs_miss hc (Ne.symm e)] at hr ⊢
      have hl := g.lst r hr
      rw [upd_ne (ne_of_none hl nz), upd_ne (ne_of hl g.dict (by intro q; cases q)), upd_ne (ne_of_none hl nz)]
      exact hl
  · intro e
    by_cases e1 : r = pick b c
    · by_cases e2 : r' = pick b c
      · rw [e1, e2]
      · have e' : (if r = pick b c then z else ad r) = (if r' = pick b c then z else ad r') := e
        rw [if_pos e1, if_neg e2] at e'
        rw [idxs_miss hc (Ne.symm e2)] at h2
        have := g.lst r' h2
        rw [← e', nz] at this
        cases this
    · have e' : (if r = pick b c then z else ad r) = (if r' = pick b c then z else ad r') := e
      rw [idxs_miss hc (Ne.symm e1)] at h1
      by_cases e2 : r' = pick b c
      · rw [if_neg e1, if_pos e2] at e'
        have := g.lst r h1
        rw [e', nz] at this
        cases this
      · rw [if_neg e1, if_neg e2] at e'
        rw [idxs_miss hc (Ne.symm e2)] at h2
        exact g.inj r r' h1 h2 e'
/-- the sorted keys are the lines in use -/
theorem Grp.used {b : Bool} {cs : List Cell} {d : Addr} {kvs : List (Key × V)} {ad : Int → Addr} {H : Hp} {ks ys : List Int} (g : Grp b cs cs.length d kvs ad H) (gr : ∀ c ∈ cs, InGrid c) (e : kvs.map (·.1) = ks.map Sum.inl) (n : ks.Nodup) (p : ys.Perm ks) (s : ys.Pairwise (· ≤ ·)) : ys = usedOf b cs := by
  refine asc_ext (strict_of s (p.nodup_iff.mpr n)) (used_asc b cs) fun r => ?_
  rw [p.mem_iff, used_mem gr]
  have key : r ∈ ks ↔ (Sum.inl r : Key) ∈ kvs.map (·.1) := by
    rw [e, List.mem_map]
    exact ⟨fun h => ⟨r, h, rfl⟩, fun ⟨x, hx, q⟩ => by cases q; exact hx⟩
  rw [key]
  constructor
  · intro h z
    have hv : valV kvs (.inl r) = none := by rw [g.val, if_pos z]
    exact valV_not hv h
  · intro h
    exact valV_in (v := .ref (ad r)) (by rw [g.val, if_neg h])
end KS
namespace KS
open PySem PySem.Spec PyProof.Rows L2
theorem ints_lay : ∀ l : List Int, PyData.canLayAll0 (l.map PyData.int) = true ∧ PyData.depthAll (l.map PyData.int) = 0
  | [] => ⟨by simp only [List.map_nil, PyData.canLayAll0], by simp only [List.map_nil, PyData.depthAll]⟩
  | x :: l => by
    obtain ⟨h1, h2⟩ := ints_lay l
    simp only [List.map_cons, PyData.canLayAll0, PyData.depthAll, PyData.canLay0, PyData.depth, h1, h2, Bool.and_self, Nat.max_self, and_self]
theorem ints_shaped (l : List Int) : SeqAt.shaped (.list (l.map PyData.int)) = true := by
  obtain ⟨h1, h2⟩ := ints_lay l
  unfold SeqAt.shaped
  simp only [PyData.canLay0, PyData.depth, h1, h2]
  decide
theorem ints_eqv_nil (l : List Int) : PyData.eqv (.list (l.map PyData.int)) (.list []) = l.isEmpty := by
  cases l with
  | nil => decide
  | cons x l => rfl
theorem kind_test (b : Bool) : decide (V.str (if b = true then "C" else "R") = V.str "C") = b := by
  cases b <;> decide +kernel
/-- the lines below r that are in use -/
def lnsTo (b : Bool) (cs : List Cell) (r : Nat) : List (List Int) := ((List.range r).map fun (r : Nat) => idxs b cs cs.length (r : Int)).filter fun l => decide (l ≠ [])
theorem lnsTo_hit {b : Bool} {cs : List Cell} {r : Nat} (h : idxs b cs cs.length (r : Int) ≠ []) : lnsTo b cs (r + 1) = lnsTo b cs r ++ [idxs b cs cs.length (r : Int)] := by
  unfold lnsTo
  rw [List.range_succ, List.map_append, List.filter_append]
  congr 1
  rw [List.map_cons, List.filter_cons_of_pos (by simpa using h)]
  rfl
theorem lnsTo_miss {b : Bool} {cs : List Cell} {r : Nat} (h : idxs b cs cs.length (r : Int) = []) : lnsTo b cs (r + 1) = lnsTo b cs r := by
  unfold lnsTo
  rw [List.range_succ, List.map_append, List.filter_append, List.map_cons, List.filter_cons_of_neg (by simp [h])]
  simp
theorem lnsTo_len (b : Bool) (cs : List Cell) (r : Nat) : (lnsTo b cs r).length ≤ r := by
  unfold lnsTo
  exact Nat.le_trans (List.length_filter_le _ _) (by simp)
end KS
namespace KS
open PySem PySem.Spec PyProof.Rows L2
/-! ### small data can be shown -/
theorem small_int {x : Int} (h0 : 0 ≤ x) (h1 : x < 10000) : PyData.leavesShort 8 (.int x) = true ∧ PyData.showable (.int x) = true ∧ PyData.weight (.int x) ≤ 14 := by
  obtain ⟨n, rfl⟩ := Int.eq_ofNat_of_zero_le h0
  have hn : n < 10000 := by omega
  have hlog : n.log2 < 14 := by
    rcases Nat.eq_zero_or_pos n with z | z
    · subst z
      decide
    · exact (Nat.log2_lt (by omega)).mpr (by omega)
  refine ⟨?_, ?_, ?_⟩
  · simp only [PyData.leavesShort]
    exact decide_eq_true (by
      simp only [PyData.shown]
      exact toString_length_le (k := 8) (by omega) (by decide) (by show (n : Int) < 10 ^ 8; omega))
  · simp only [PyData.showable]
    exact decide_eq_true (by show n.log2 < 1920; omega)
  · simp only [PyData.weight]
    split
    · omega
    · show n.log2 + 1 ≤ 14
      omega
/-- what repr asks of its data -/
structure Shows (d : PyData) (n : Nat) : Prop where
  short : d.leavesShort 8 = true
  show_ : d.showable = true
  nod : d.hasDict = false
  wt : d.weight ≤ n
structure ShowsAll (ds : List PyData) (n : Nat) : Prop where
  short : PyData.leavesShortAll 8 ds = true
  show_ : PyData.showableAll ds = true
  nod : PyData.hasDictAll ds = false
  wt : PyData.weightAll ds ≤ (n + 1) * ds.length
theorem showsAll_of {n : Nat} : ∀ {ds : List PyData}, (∀ d ∈ ds, Shows d n) → ShowsAll ds n
  | [], _ => ⟨by simp only [PyData.leavesShortAll], by simp only [PyData.showableAll], by simp only [PyData.hasDictAll], by simp [PyData.weightAll]⟩
  | d :: ds, h => by
    have h1 := h d List.mem_cons_self
    have h2 := showsAll_of fun x hx => h x (List.mem_cons_of_mem _ hx)
    refine ⟨?_, ?_, ?_, ?_⟩
    · simp only [PyData.leavesShortAll, h1.short, h2.short, Bool.and_self]
    · simp only [PyData.showableAll, h1.show_, h2.show_, Bool.and_self]
    · simp only [PyData.hasDictAll, h1.nod, h2.nod, Bool.or_self]
    · simp only [PyData.weightAll, List.length_cons]
      have a := h1.wt
      have b := h2.wt
      rw [Nat.mul_add, Nat.mul_one]
      omega
theorem shows_tuple {n m : Nat} {ds : List PyData} (h : ShowsAll ds n) (hm : (n + 1) * ds.length ≤ m) : Shows (.tuple ds) m := by
  refine ⟨?_, ?_, ?_, ?_⟩
  · simp only [PyData.leavesShort, h.short]
  · simp only [PyData.showable, h.show_]
  · simp only [PyData.hasDict, h.nod]
  · simp only [PyData.weight]
    exact Nat.le_trans h.wt hm
theorem shows_int {x : Int} (h0 : 0 ≤ x) (h1 : x < 10000) : Shows (.int x) 14 := by
  obtain ⟨a, b, c⟩ := small_int h0 h1
  exact ⟨a, b, by simp only [PyData.hasDict], c⟩
theorem Shows.len {d : PyData} {n : Nat} (h : Shows d n) (hn : n ≤ 1048576) : d.shown.length ≤ sizeLine :=
  PyData.shown_fits (B := 8) (by decide) (by decide) h.short (Nat.le_trans h.wt (by
    show n ≤ 2 ^ 20
    have : (2 : Nat) ^ 20 = 1048576 := by decide
    omega))
theorem shows_line {l : List Int} (h : ∀ x ∈ l, 0 ≤ x ∧ x < 10000) (hl : l.length ≤ 64) : Shows (lineD l) 960 := by
  refine shows_tuple (n := 14) (showsAll_of fun d hd => ?_) ?_
  · obtain ⟨x, hx, rfl⟩ := List.mem_map.mp hd
    exact shows_int (h x hx).1 (h x hx).2
  · rw [List.length_map]
    omega
theorem shows_lines {ls : List (List Int)} (h : ∀ l ∈ ls, (∀ x ∈ l, 0 ≤ x ∧ x < 10000) ∧ l.length ≤ 64) (hl : ls.length ≤ 64) : Shows (linesD ls) 61504 := by
  refine shows_tuple (n := 960) (showsAll_of fun d hd => ?_) ?_
  · obtain ⟨l, hx, rfl⟩ := List.mem_map.mp hd
    exact shows_line (h l hx).1 (h l hx).2
  · rw [List.length_map]
    omega
theorem depth_line (l : List Int) : (lineD l).depth = 1 := by
  simp only [PyData.depth, (ints_lay l).2]
theorem depth_lines : ∀ ls : List (List Int), PyData.depthAll (ls.map lineD) ≤ 1
  | [] => by simp [PyData.depthAll]
  | l :: ls => by
    have a := depth_lines ls
    have b := depth_line l
    simp only [List.map_cons, PyData.depthAll]
    omega
theorem lns_small {b : Bool} {cs : List Cell} (hl : cs.length ≤ 24) : Shows (linesD (lnsOf b cs)) 61504 ∧ (linesD (lnsOf b cs)).depth ≤ 64 := by
  refine ⟨shows_lines (fun l h => ?_) ?_, ?_⟩
  · unfold lnsOf at h
    obtain ⟨r, _, rfl⟩ := List.mem_map.mp (List.mem_filter.mp h).1
    refine ⟨fun x hx => ?_, ?_⟩
    · have := idxs_mem hx
      omega
    · have := idxs_len b cs cs.length (r : Int)
      omega
  · have : (lnsOf b cs).length ≤ 8 := lnsTo_len b cs 8
    omega
  · have := depth_lines (lnsOf b cs)
    simp only [PyData.depth]
    omega
/-! ### sorted cells -/
def keyOf (H : Hp) : V → Int × Int
  | .ref t => match H t with
    | some (.tup [.int i, .int j]) => (i, j)
    | _ => (0, 0)
  | _ => (0, 0)
theorem keyOf_at {H : Hp} {t : Addr} {i j : Int} (h : H t = some (.tup [.int i, .int j])) : keyOf H (.ref t) = (i, j) := by
  show (match H t with
    | some (.tup [.int i, .int j]) => ((i, j) : Int × Int)
    | _ => (0, 0)) = (i, j)
  rw [h]
theorem nodup_of_asc {cs : List Cell} (h : cs.Pairwise lt2) : cs.Nodup := by
  rw [List.nodup_iff_pairwise_ne]
  refine h.imp fun {a b} q e => ?_
  subst e
  rcases q with q | q <;> omega
/-- new cells, in a list -/
def NewCells (H : Hp) : List V → List Cell → Prop := Paired fun x c => ∃ t, x = .ref t ∧ H t = some (.tup [.int c.1, .int c.2])
theorem newCells_mono {H H' : Hp} (k : ∀ t ys, H t = some (.tup ys) → H' t = some (.tup ys)) {xs : List V} {cs : List Cell} (h : NewCells H xs cs) : NewCells H' xs cs :=
  Paired.mono (fun _ _ ⟨t, e, q⟩ => ⟨t, e, k _ _ q⟩) h
theorem newCells_key {H : Hp} : ∀ {xs : List V} {cs : List Cell}, NewCells H xs cs → xs.map (keyOf H) = cs
  | _, _, .nil => rfl
  | _, _, .cons ⟨t, e, h⟩ r => by
    subst e
    rw [List.map_cons, keyOf_at h, newCells_key r]
theorem newCells_mem {H : Hp} : ∀ {xs : List V} {cs : List Cell}, NewCells H xs cs → ∀ x ∈ xs, ∃ t, x = .ref t ∧ H t = some (.tup [.int (keyOf H x).1, .int (keyOf H x).2])
  | _, _, .nil, _, h => nomatch h
  | _, _, .cons ⟨t, e, h⟩ r, x, hx => by
    rcases List.mem_cons.mp hx with z | z
    · subst z
      subst e
      exact ⟨t, rfl, by rw [keyOf_at h]; exact h⟩
    · exact newCells_mem r x z
theorem cells_of_mem {K : PySem.W.Frag} {H : Hp} : ∀ {ys : List V}, (∀ x ∈ ys, ∃ t, x = .ref t ∧ H t = some (.tup [.int (keyOf H x).1, .int (keyOf H x).2])) → CellsAt K H ys (ys.map (keyOf H))
  | [], _ => .nil
  | y :: ys, h => by
    obtain ⟨t, e, q⟩ := h y List.mem_cons_self
    exact .cons ⟨t, e, SqT.of q⟩ (cells_of_mem fun x hx => h x (List.mem_cons_of_mem _ hx))
/-- sorted of new cells, all different: they ascend -/
theorem sorted_cells {K : PySem.W.Frag} {H : Hp} {xs ys : List V} {cs : List Cell} (h : NewCells H xs cs) (nd : cs.Nodup) (hs : SrtO.Srtd (ltP (keyOf H)) ys) (hp : ys.Perm xs) :
    CellsAt K H ys (ys.map (keyOf H)) ∧ (ys.map (keyOf H)).Perm cs ∧ (ys.map (keyOf H)).Pairwise lt2 := by
  have p1 : (ys.map (keyOf H)).Perm cs := by
    rw [← newCells_key h]
    exact hp.map _
  refine ⟨cells_of_mem fun x hx => newCells_mem h x (hp.mem_iff.mp hx), p1, ?_⟩
  have n1 : (ys.map (keyOf H)).Nodup := p1.nodup_iff.mpr nd
  have s1 : (ys.map (keyOf H)).Pairwise fun a b => SrtO.lexB b a = false := by
    rw [List.pairwise_map]
    exact hs
  rw [List.nodup_iff_pairwise_ne] at n1
  refine (s1.and n1).imp fun {a b} q => ?_
  obtain ⟨q1, q2⟩ := q
  have q3 : ¬ (b.1 < a.1 ∨ (b.1 = a.1 ∧ b.2 < a.2)) := fun z => by
    rw [SrtO.lexB_iff.mpr z] at q1
    cases q1
  by_cases e1 : a.1 < b.1
  · exact .inl e1
  · by_cases e2 : a.1 = b.1
    · refine .inr ⟨e2, ?_⟩
      by_cases e3 : a.2 = b.2
      · exact absurd (Prod.ext e2 e3) q2
      · have : ¬ b.2 < a.2 := fun z => q3 (.inr ⟨e2.symm, z⟩)
        omega
    · exact absurd (.inl (by omega)) q3
def mir (c : Cell) : Cell := (c.1, 7 - c.2)
theorem nodup_mir {cs : List Cell} (h : cs.Nodup) : (cs.map mir).Nodup := by
  rw [List.nodup_iff_pairwise_ne] at h ⊢
  rw [List.pairwise_map]
  refine h.imp fun {a b} q e => q ?_
  have e0 : ((a.1, 7 - a.2) : Int × Int) = (b.1, 7 - b.2) := e
  injection e0 with e1 e2
  exact Prod.ext e1 (by omega)
theorem good_mir {cs ds : List Cell} (g : Good cs) (p : ds.Perm (cs.map mir)) (a : ds.Pairwise lt2) : Good ds ∧ ds.length = cs.length := by
  have hl : ds.length = cs.length := by rw [p.length_eq, List.length_map]
  refine ⟨⟨a, fun d hd => ?_, fun z => ?_⟩, hl⟩
  · obtain ⟨c, hc, rfl⟩ := List.mem_map.mp (p.mem_iff.mp hd)
    have := g.grid c hc
    unfold InGrid at this ⊢
    show 0 ≤ c.1 ∧ c.1 ≤ 7 ∧ 0 ≤ 7 - c.2 ∧ 7 - c.2 ≤ 7
    omega
  · rw [z] at hl
    exact g.ne (List.eq_nil_of_length_eq_zero hl.symm)
def spRight : Sp := fun vs H Q _ => ∃ p : Addr, vs = [.ref p] ∧ PoolO (H p) ∧ ∀ H', KeepX p H H' → Q (.bl true) H'
def spLaw (K : PySem.W.Frag) : Sp := fun vs H Q _ => ∃ (a : Addr) (ns : List Int), vs = [.ref a] ∧ SqL K H a (ns.map V.int) ∧ ns.length ≤ 63 ∧ ∀ H', Q (.bl true) H'
end KS
namespace KS
open PySem PySem.Spec PyProof.Rows L2
/-! ### x in t, t a tuple of plain data -/
def rInT (K : PySem.W.Frag) : V → V → Hp → VK → Prop := fun x y H Q => ∃ d ds, Dp K H x d ∧ Dp K H y (.tuple ds) ∧ SeqAt.shaped d = true ∧ SeqAt.shaped (.tuple ds) = true ∧ Q (.bl (ds.any fun z => PyData.eqv z d)) H
theorem op_inT {X : Cx} (hu : X.A.units + 65 < cLine) : OpR X (compareOp .In) (rInT X.K) := by
  intro pins s σ H x y v u Q I rx ry h
  obtain ⟨d, ds, hd, he, sd, se, q⟩ := h
  obtain ⟨as, r1⟩ := Dp.reads I d x v hd rx
  obtain ⟨bs, r2⟩ := Dp.reads I (.tuple ds) y u he ry
  refine SeqAt.in_tuple_reads r2 r1 (SeqAt.canLay_of_shaped se) (SeqAt.canLay_of_shaped sd) ?_ ⟨.bl _, H, I, rfl, q⟩
  have := SeqAt.depth_of_shaped sd
  have h2 : min (PyData.depthAll ds) d.depth ≤ d.depth := Nat.min_le_right _ _
  omega
/-! ### plans as data -/
abbrev cellD (c : Cell) : PyData := .tuple [.int c.1, .int c.2]
abbrev planD (cs : List Cell) : PyData := .tuple (cs.map cellD)
theorem dp_cell {K : PySem.W.Frag} {H : Hp} {t : Addr} {c : Cell} (h : SqT K H t [.int c.1, .int c.2]) : Dp K H (.ref t) (cellD c) := .tup h (.cons (.int _) (.cons (.int _) .nil))
theorem dp_cells {K : PySem.W.Frag} {H : Hp} : ∀ {xs : List V} {cs : List Cell}, CellsAt K H xs cs → DpAll K H xs (cs.map cellD)
  | _, _, .nil => .nil
  | _, _, .cons ⟨t, e, h⟩ r => by
    subst e
    exact .cons (dp_cell h) (dp_cells r)
theorem PlanAt.dp {K : PySem.W.Frag} {H : Hp} {a : Addr} {cs : List Cell} (h : PlanAt K H a cs) : Dp K H (.ref a) (planD cs) := by
  obtain ⟨xs, h1, h2⟩ := h
  exact .tup h1 (dp_cells h2)
theorem cell_lay (c : Cell) : (cellD c).canLay0 = true ∧ (cellD c).depth = 1 := by
  simp [PyData.canLay0, PyData.canLayAll0, PyData.depth, PyData.depthAll]
theorem cells_lay : ∀ cs : List Cell, PyData.canLayAll0 (cs.map cellD) = true ∧ PyData.depthAll (cs.map cellD) ≤ 1
  | [] => ⟨by simp only [List.map_nil, PyData.canLayAll0], by simp [PyData.depthAll]⟩
  | c :: cs => by
    obtain ⟨a, b⟩ := cells_lay cs
    obtain ⟨x, y⟩ := cell_lay c
    refine ⟨?_, ?_⟩
    · rw [List.map_cons, PyData.canLayAll0, x, a]
      rfl
    · rw [List.map_cons, PyData.depthAll, y]
      omega
theorem cell_shaped (c : Cell) : SeqAt.shaped (cellD c) = true := by
  obtain ⟨x, y⟩ := cell_lay c
  unfold SeqAt.shaped
  rw [x, y]
  rfl
theorem plan_shaped (cs : List Cell) : SeqAt.shaped (planD cs) = true := by
  obtain ⟨a, b⟩ := cells_lay cs
  unfold SeqAt.shaped
  rw [Bool.and_eq_true]
  refine ⟨?_, decide_eq_true ?_⟩
  · simp only [PyData.canLay0, a]
  · simp only [PyData.depth]
    omega
theorem cell_eqv (a b : Cell) : PyData.eqv (cellD a) (cellD b) = decide (a = b) := by
  have h : PyData.eqv (cellD a) (cellD b) = (a.1 == b.1 && (a.2 == b.2 && true)) := by
    simp only [PyData.eqv, PyData.eqvAll]
  rw [h, Bool.and_true]
  by_cases e : a = b
  · subst e
    simp
  · rw [decide_eq_false e]
    by_cases e1 : a.1 = b.1
    · have e2 : a.2 ≠ b.2 := fun z => e (Prod.ext e1 z)
      simp [e1, e2]
    · simp [e1]
theorem in_plan (cs : List Cell) (c : Cell) : ((cs.map cellD).any fun z => PyData.eqv z (cellD c)) = decide (c ∈ cs) := by
  rw [List.any_map]
  by_cases h : c ∈ cs
  · rw [decide_eq_true h, List.any_eq_true]
    exact ⟨c, h, by show PyData.eqv (cellD c) (cellD c) = true; rw [cell_eqv]; simp⟩
  · rw [decide_eq_false h, List.any_eq_false]
    intro x hx z
    have z' : PyData.eqv (cellD x) (cellD c) = true := z
    rw [cell_eqv] at z'
    have := of_decide_eq_true z'
    subst this
    exact h hx
theorem shows_plan {cs : List Cell} (g : ∀ c ∈ cs, InGrid c) (hl : cs.length ≤ 64) : Shows (planD cs) 1984 ∧ (planD cs).depth ≤ 64 := by
  refine ⟨shows_tuple (n := 30) (showsAll_of fun d hd => ?_) ?_, ?_⟩
  · obtain ⟨c, hc, rfl⟩ := List.mem_map.mp hd
    have := g c hc
    unfold InGrid at this
    refine shows_tuple (n := 14) (showsAll_of fun d hd => ?_) (by show (14 + 1) * 2 ≤ 30; decide)
    rcases List.mem_cons.mp hd with z | z
    · subst z
      exact shows_int (by omega) (by omega)
    · rcases List.mem_cons.mp z with z | z
      · subst z
        exact shows_int (by omega) (by omega)
      · cases z
  · rw [List.length_map]
    omega
  · have := (cells_lay cs).2
    simp only [PyData.depth]
    omega
/-! ### ascending lists of cells -/
theorem asc_ext2 : ∀ {l m : List Cell}, l.Pairwise lt2 → m.Pairwise lt2 → (∀ x, x ∈ l ↔ x ∈ m) → l = m
  | [], [], _, _, _ => rfl
  | [], y :: m, _, _, h => absurd ((h y).mpr List.mem_cons_self) (by simp)
  | x :: l, [], _, _, h => absurd ((h x).mp List.mem_cons_self) (by simp)
  | x :: l, y :: m, h1, h2, h => by
    rw [List.pairwise_cons] at h1 h2
    have no : ∀ a b : Cell, lt2 a b → lt2 b a → False := fun a b p q => by
      unfold lt2 at p q
      omega
    have e : x = y := by
      rcases List.mem_cons.mp ((h x).mp List.mem_cons_self) with z | z
      · exact z
      · rcases List.mem_cons.mp ((h y).mpr List.mem_cons_self) with z2 | z2
        · exact z2.symm
        · exact (no _ _ (h2.1 x z) (h1.1 y z2)).elim
    subst e
    congr 1
    refine asc_ext2 h1.2 h2.2 fun z => ⟨fun hz => ?_, fun hz => ?_⟩
    · rcases List.mem_cons.mp ((h z).mp (List.mem_cons_of_mem _ hz)) with e | e
      · exact (no _ _ (h1.1 z hz) (e ▸ h1.1 z hz)).elim
      · exact e
    · rcases List.mem_cons.mp ((h z).mpr (List.mem_cons_of_mem _ hz)) with e | e
      · exact (no _ _ (h2.1 z hz) (e ▸ h2.1 z hz)).elim
      · exact e
theorem asc_perm {l m : List Cell} (h1 : l.Pairwise lt2) (h2 : m.Pairwise lt2) (p : l.Perm m) : l = m := asc_ext2 h1 h2 fun x => p.mem_iff
def swp (c : Cell) : Cell := (c.2, c.1)
theorem nodup_swp {cs : List Cell} (h : cs.Nodup) : (cs.map swp).Nodup := by
  rw [List.nodup_iff_pairwise_ne] at h ⊢
  rw [List.pairwise_map]
  refine h.imp fun {a b} q e => q ?_
  have e0 : ((a.2, a.1) : Int × Int) = (b.2, b.1) := e
  injection e0 with e1 e2
  exact Prod.ext e2 e1
theorem good_swp {cs ds : List Cell} (g : Good cs) (p : ds.Perm (cs.map swp)) (a : ds.Pairwise lt2) : Good ds ∧ ds.length = cs.length := by
  have hl : ds.length = cs.length := by rw [p.length_eq, List.length_map]
  refine ⟨⟨a, fun d hd => ?_, fun z => ?_⟩, hl⟩
  · obtain ⟨c, hc, rfl⟩ := List.mem_map.mp (p.mem_iff.mp hd)
    have := g.grid c hc
    unfold InGrid at this ⊢
    show 0 ≤ c.2 ∧ c.2 ≤ 7 ∧ 0 ≤ c.1 ∧ c.1 ≤ 7
    omega
  · rw [z] at hl
    exact g.ne (List.eq_nil_of_length_eq_zero hl.symm)
theorem swp_back {cs ds es : List Cell} (g : cs.Pairwise lt2) (p : ds.Perm (cs.map swp)) (p2 : es.Perm (ds.map swp)) (a : es.Pairwise lt2) : es = cs := by
  refine asc_perm a g (p2.trans ?_)
  have := p.map swp
  refine this.trans ?_
  rw [List.map_map]
  have e : (swp ∘ swp) = id := by
    funext c
    rfl
  rw [e, List.map_id]
/-! ### rectangles -/
def Full (cs : List Cell) : Prop := ∀ r k : Int, (∃ c ∈ cs, c.1 ≤ r) → (∃ c ∈ cs, r ≤ c.1) → (∃ c ∈ cs, c.2 ≤ k) → (∃ c ∈ cs, k ≤ c.2) → (r, k) ∈ cs
noncomputable def rectB (cs : List Cell) : Bool := @decide (Full cs) (Classical.propDecidable _)
theorem rectB_true {cs : List Cell} (h : Full cs) : rectB cs = true := by
  unfold rectB
  exact @decide_eq_true _ (Classical.propDecidable _) h
theorem rectB_false {cs : List Cell} (h : ¬ Full cs) : rectB cs = false := by
  unfold rectB
  exact @decide_eq_false _ (Classical.propDecidable _) h
theorem full_swp {cs ds : List Cell} (p : ds.Perm (cs.map swp)) (h : Full cs) : Full ds := by
  have to : ∀ c : Cell, c ∈ ds → swp c ∈ cs := fun c hc => by
    obtain ⟨x, hx, rfl⟩ := List.mem_map.mp (p.mem_iff.mp hc)
    exact hx
  intro r k ⟨a, ha, a1⟩ ⟨b, hb, b1⟩ ⟨c, hc, c1⟩ ⟨d, hd, d1⟩
  have := h k r ⟨swp c, to c hc, c1⟩ ⟨swp d, to d hd, d1⟩ ⟨swp a, to a ha, a1⟩ ⟨swp b, to b hb, b1⟩
  exact p.mem_iff.mpr (List.mem_map.mpr ⟨(k, r), this, rfl⟩)
theorem rectB_swp {cs ds : List Cell} (p : ds.Perm (cs.map swp)) : rectB ds = rectB cs := by
  have q : cs.Perm (ds.map swp) := by
    have := (p.map swp).symm
    rw [List.map_map] at this
    have e : (swp ∘ swp) = id := by
      funext c
      rfl
    rw [e, List.map_id] at this
    exact this
  by_cases h : Full cs
  · rw [rectB_true h, rectB_true (full_swp p h)]
  · rw [rectB_false h, rectB_false fun z => h (full_swp q z)]
theorem len_of_subset : ∀ {l m : List Cell}, l.Nodup → (∀ x ∈ l, x ∈ m) → l.length ≤ m.length
  | [], _, _, _ => Nat.zero_le _
  | x :: l, m, n, h => by
    rw [List.nodup_cons] at n
    have hx := h x List.mem_cons_self
    have ih := len_of_subset (m := m.erase x) n.2 fun y hy => by
      have hne : y ≠ x := fun e => n.1 (e ▸ hy)
      exact (List.mem_erase_of_ne hne).mpr (h y (List.mem_cons_of_mem _ hy))
    rw [List.length_erase_of_mem hx] at ih
    have : 0 < m.length := List.length_pos_of_mem hx
    rw [List.length_cons]
    omega
/-- the cells of a box: n rows from r, k columns from c -/
def boxOf (r c : Int) (n k : Nat) : List Cell := (List.range n).flatMap fun (i : Nat) => rowCells (r + (i : Int)) c k
theorem box_len (r c : Int) (n k : Nat) : (boxOf r c n k).length = n * k := by
  unfold boxOf
  rw [List.length_flatMap]
  induction n with
  | zero => simp
  | succ n ih =>
    rw [List.range_succ, List.map_append, List.sum_append, ih, List.map_cons, rowCells_len, Nat.succ_mul]
    simp
theorem box_mem {r c : Int} {n k : Nat} {x : Cell} : x ∈ boxOf r c n k ↔ r ≤ x.1 ∧ x.1 < r + n ∧ c ≤ x.2 ∧ x.2 < c + k := by
  unfold boxOf
  rw [List.mem_flatMap]
  constructor
  · rintro ⟨i, hi, hx⟩
    have := List.mem_range.mp hi
    have := rowCells_mem hx
    omega
  · rintro ⟨h1, h2, h3, h4⟩
    refine ⟨(x.1 - r).toNat, List.mem_range.mpr (by omega), ?_⟩
    unfold rowCells
    refine List.mem_map.mpr ⟨(x.2 - c).toNat, List.mem_range.mpr (by omega), ?_⟩
    refine Prod.ext ?_ ?_
    · show r + ((x.1 - r).toNat : Int) = x.1
      omega
    · show c + ((x.2 - c).toNat : Int) = x.2
      omega
theorem box_asc (r c : Int) (k : Nat) : ∀ n : Nat, (boxOf r c n k).Pairwise lt2
  | 0 => List.Pairwise.nil
  | n + 1 => by
    have e : boxOf r c (n + 1) k = boxOf r c n k ++ rowCells (r + (n : Int)) c k := by
      unfold boxOf
      rw [List.range_succ, List.flatMap_append]
      simp
    rw [e, List.pairwise_append]
    refine ⟨box_asc r c k n, rowCells_asc _ _ _, fun a ha b hb => .inl ?_⟩
    have := box_mem.mp ha
    have := rowCells_mem hb
    omega
/-- the count of cells tells the rectangle -/
theorem rect_count {cs : List Cell} {a b c d : Int} (nd : cs.Nodup) (ha : a ∈ cs.map (·.1)) (ha' : ∀ x ∈ cs.map (·.1), a ≤ x) (hb : b ∈ cs.map (·.1)) (hb' : ∀ x ∈ cs.map (·.1), x ≤ b)
    (hc : c ∈ cs.map (·.2)) (hc' : ∀ x ∈ cs.map (·.2), c ≤ x) (hd : d ∈ cs.map (·.2)) (hd' : ∀ x ∈ cs.map (·.2), x ≤ d) : decide ((cs.length : Int) = (b - a + 1) * (d - c + 1)) = rectB cs := by
  have hab : a ≤ b := ha' b hb
  have hcd : c ≤ d := hc' d hd
  have inb : ∀ x ∈ cs, x ∈ boxOf a c (b - a + 1).toNat (d - c + 1).toNat := fun x hx => by
    have h1 := ha' x.1 (List.mem_map.mpr ⟨x, hx, rfl⟩)
    have h2 := hb' x.1 (List.mem_map.mpr ⟨x, hx, rfl⟩)
    have h3 := hc' x.2 (List.mem_map.mpr ⟨x, hx, rfl⟩)
    have h4 := hd' x.2 (List.mem_map.mpr ⟨x, hx, rfl⟩)
    exact box_mem.mpr ⟨h1, by omega, h3, by omega⟩
  have area : (((b - a + 1).toNat * (d - c + 1).toNat : Nat) : Int) = (b - a + 1) * (d - c + 1) := by
    rw [Int.natCast_mul, Int.toNat_of_nonneg (by omega), Int.toNat_of_nonneg (by omega)]
  have le1 := len_of_subset nd inb
  rw [box_len] at le1
  by_cases h : Full cs
  · rw [rectB_true h]
    have le2 : (boxOf a c (b - a + 1).toNat (d - c + 1).toNat).length ≤ cs.length := len_of_subset (nodup_of_asc (box_asc _ _ _ _)) fun x hx => by
      have := box_mem.mp hx
      obtain ⟨xa, ma, ea⟩ := List.mem_map.mp ha
      obtain ⟨xb, mb, eb⟩ := List.mem_map.mp hb
      obtain ⟨xc, mc, ec⟩ := List.mem_map.mp hc
      obtain ⟨xd, md, ed⟩ := List.mem_map.mp hd
      have := h x.1 x.2 ⟨xa, ma, by omega⟩ ⟨xb, mb, by omega⟩ ⟨xc, mc, by omega⟩ ⟨xd, md, by omega⟩
      exact this
    rw [box_len] at le2
    exact decide_eq_true (by rw [← area]; omega)
  · rw [rectB_false h]
    refine decide_eq_false fun e => h ?_
    rw [← area] at e
    have e' : cs.length = (b - a + 1).toNat * (d - c + 1).toNat := by omega
    intro r k ⟨x1, m1, q1⟩ ⟨x2, m2, q2⟩ ⟨x3, m3, q3⟩ ⟨x4, m4, q4⟩
    have h1 := ha' x1.1 (List.mem_map.mpr ⟨x1, m1, rfl⟩)
    have h2 := hb' x2.1 (List.mem_map.mpr ⟨x2, m2, rfl⟩)
    have h3 := hc' x3.2 (List.mem_map.mpr ⟨x3, m3, rfl⟩)
    have h4 := hd' x4.2 (List.mem_map.mpr ⟨x4, m4, rfl⟩)
    have hin : ((r, k) : Cell) ∈ boxOf a c (b - a + 1).toNat (d - c + 1).toNat := box_mem.mpr ⟨by show a ≤ r; omega, by show r < _; omega, by show c ≤ k; omega, by show k < _; omega⟩
    by_cases hm : ((r, k) : Cell) ∈ cs
    · exact hm
    · have le3 := len_of_subset (l := (r, k) :: cs) (List.nodup_cons.mpr ⟨hm, nd⟩) fun x hx => by
        rcases List.mem_cons.mp hx with z | z
        · subst z
          exact hin
        · exact inb x z
      rw [box_len, List.length_cons] at le3
      omega
end KS
namespace KS
open PySem PySem.Spec PyProof.Rows L2
/-! ### t[::-1], t a tuple -/
section
variable {prog : Program} {w : World} {A : Around} {E : Value → Shared → Prop} {s : Shared}
theorem adjust_rev (n : Nat) : Builtin.Slice.sliceAdjust none none (-1) (n : Int) = ((n : Int) - 1, -1) := by
  first
  | rfl
  | simp [Builtin.Slice.sliceAdjust]
theorem places_rev (n : Nat) : Builtin.Slice.slicePlaces ((n : Int) - 1) (-1) (-1) = n := by
  unfold Builtin.Slice.slicePlaces
  by_cases h : n = 0
  · subst h
    decide
  · simp
    omega
theorem applied_rev {sl : Addr} {vl vu vs : Value} {n : Nat} {Q : Int × Int × Nat → Shared → Prop} (hs : s.heap.IsSliceOf sl vl vu vs) (pl : IsPart vl none) (pu : IsPart vu none) (ps : IsPart vs (some (-1)))
    (h : Q ((n : Int) - 1, -1, n) s) : wpAny (model prog w) A (Builtin.Slice.sliceApplied (.ref sl) (pure (n : Int))) Q E s := by
  obtain ⟨os, hos, hcs, hds⟩ := id hs
  unfold Builtin.Slice.sliceApplied Builtin.Slice.sliceFields
  refine wpAny_bind (wpAny_bind (wpAny_field hos hds (x := vl) rfl
    (wpAny_bind (wpAny_field hos hds (x := vu) rfl (wpAny_bind (wpAny_field hos hds (x := vs) rfl (wpAny_pure ?_)))))))
  refine wpAny_bind (HT.slicePart_ ps ?_)
  show wpAny _ _ (if ((-1 : Int) == 0) = true then _ else _) _ _ s
  rw [if_neg (by decide)]
  refine wpAny_bind (HT.slicePart_ pl (wpAny_bind (HT.slicePart_ pu (wpAny_bind (wpAny_pure ?_)))))
  show wpAny _ _ (match Builtin.Slice.sliceAdjust none none (-1) (n : Int) with | (lo, hi) => pure (lo, (-1 : Int), Builtin.Slice.slicePlaces lo hi (-1))) _ _ s
  rw [adjust_rev n]
  show wpAny _ _ (pure ((n : Int) - 1, (-1 : Int), Builtin.Slice.slicePlaces ((n : Int) - 1) (-1) (-1))) _ _ s
  rw [places_rev]
  exact wpAny_pure h
theorem pick_rev (xs : Array Value) : ((List.range xs.size).filterMap fun (k : Nat) => xs[(((xs.size : Int) - 1) + (k : Int) * (-1)).toNat]?).toArray = xs.toList.reverse.toArray := by
  have e : (fun (k : Nat) => xs[(((xs.size : Int) - 1) + (k : Int) * (-1)).toNat]?) = (xs[·]?) ∘ fun k => xs.size - 1 - k := by
    funext k
    show xs[(((xs.size : Int) - 1) + (k : Int) * (-1)).toNat]? = xs[xs.size - 1 - k]?
    have z : (((xs.size : Int) - 1) + (k : Int) * (-1)).toNat = xs.size - 1 - k := by omega
    rw [z]
  rw [e, ← List.filterMap_map, PySem.W.krv_range, List.filterMap_reverse, PySem.W.krv_all]
theorem getItem_tuple_rev {t sl : Addr} {items : Array Value} {vl vu vs : Value} {Q : Value → Shared → Prop} (ht : IsTup s.heap t items) (hs : s.heap.IsSliceOf sl vl vu vs) (pl : IsPart vl none) (pu : IsPart vu none)
    (ps : IsPart vs (some (-1))) (h : Q (.ref s.heap.objs.size) { s with heap := s.heap.push { cls := .type "tuple", data := .seq items.toList.reverse.toArray } }) (hsz : items.size ≤ sizeLine) :
    wpAny (model prog w) A (getItem (.ref t) (.ref sl)) Q E s := by
  have htake : sizeOk (.seq items.toList.reverse.toArray) := by
    show items.toList.reverse.toArray.size ≤ sizeLine
    rw [List.size_toArray, List.length_reverse, Array.length_toList]
    exact hsz
  obtain ⟨os, hos, hcs, hds⟩ := id hs
  have hTs : s.TypeIs (.ref sl) "slice" := ⟨os, hos, hcs⟩
  unfold getItem
  try with_reducible refine wpAny_holding ?_
  first | refine wpAny_bind (wpAny_pure ?_) | skip
  refine wpAny_bind (wpAny_sequenceKey ht.typeIs (by decide) ?_)
  refine wpAny_bind (wpAny_callSpecial?_slot (name := Str.ofString "__getitem__") ht.typeIs PyProof.Rows.slot_tuple_getitem (wpAny_call_entry PyProof.Rows.slot_tuple_getitem ht.typeIs entry_tuple_getitem ?_ (args_tuple_getitem _ _)))
  show wpAny _ _ (Builtin.Tuple.tupleItemsOf (.ref t) >>= _) _ _ s
  refine wpAny_bind (tupleItemsOf_ ht (wpAny_bind (wpAny_typeOf hTs ?_)))
  rw [if_pos (by decide)]
  refine wpAny_bind (applied_rev hs pl pu ps ?_)
  have hno : ¬ ((((items.size : Int) - 1) == 0 && (-1 : Int) == 1 && items.size == items.size) = true) := by
    simp
  show wpAny _ _ (if (((items.size : Int) - 1) == 0 && (-1 : Int) == 1 && items.size == items.size) = true then _ else _) _ _ s
  rw [if_neg hno, pick_rev]
  first
    | exact wpAny_bind (m := Builtin.Tuple.tupleExact _) (wpAny_newObj_type (wpAny_pure ⟨_, rfl, wpAny_pure h⟩) htake)
    | exact wpAny_bind (m := Builtin.Tuple.tupleExact _) (wpAny_newObj_type (wpAny_bind (wpAny_pure (wpAny_pure ⟨_, rfl, wpAny_pure h⟩))) htake)
    | exact wpAny_bind (wpAny_bind (m := Builtin.Tuple.tupleExact _) (wpAny_newObj_type (wpAny_pure (wpAny_pure ⟨_, rfl, wpAny_pure h⟩)) htake))
    | exact wpAny_bind (wpAny_bind (m := Builtin.Tuple.tupleExact _) (wpAny_newObj_type (wpAny_pure ⟨_, rfl, wpAny_pure h⟩) htake))
end
def tRevT (K : PySem.W.Frag) (te : TE) : TE := fun σ H Q => te σ H fun x H1 => ∃ a xs, x = .ref a ∧ SqT K H1 a xs ∧ ∀ p, H1 p = none → Q (.ref p) (upd H1 p (.tup xs.reverse))
theorem pe_revT {X : Cx} {e : Expr} {te : TE} {k : Nat} {p1 p2 p3 pos : Pos} (he : PE X e te) :
    PE X (.Subscript e (.Slice none none (some (.UnaryOp .USub (.Constant (.int 1) k p1) p2)) p3) pos) (tRevT X.K te) := by
  refine ⟨fun pins s σ H Q I h => Subscript_ (thn (he.run pins s σ H _ I h) fun v s1 hh => ?_)⟩
  obtain ⟨x, H1, I1, r1, a, xs, ex, hx, q⟩ := hh
  subst ex
  cases r1
  have hst : PO X (some (.UnaryOp .USub (.Constant (.int 1) k p1) p2)) (tPart (tUn (rU fun i => .int (-i)) (tC (.int 1)))) := po_some (pe_un un_neg pe_int)
  refine wpAny_Slice (thn (po_none.run pins s1 σ H1 (fun o H2 => o = none ∧ H2 = H1) I1 ⟨rfl, rfl⟩) fun vl s2 h2 => ?_)
  obtain ⟨l, H2, I2, pl, el, e2⟩ := h2
  subst el e2
  refine thn (po_none.run pins s2 σ H2 (fun o H3 => o = none ∧ H3 = H2) I2 ⟨rfl, rfl⟩) fun vu s3 h3 => ?_
  obtain ⟨u, H3, I3, pu, eu, e3⟩ := h3
  subst eu e3
  refine thn (hst.run pins s3 σ H3 (fun o H4 => o = some (-1) ∧ H4 = H3) I3 ⟨1, rfl, -1, rfl, rfl, rfl⟩) fun vs s4 h4 => ?_
  obtain ⟨o, H4, I4, ps, eo, e4⟩ := h4
  subst eo e4
  have I5 : Inv X pins σ H4 { s4 with heap := s4.heap.push { cls := .type "slice", data := .fields #[vl, vu, vs] } } :=
    I4.kept (t' := s4.toks) fun b ob q => Heap.get?_push_of_some _ q
  obtain ⟨its, r, ht, hz⟩ := I5.tuple hx
  have hlen := r.length
  show wpAny (model X.prog X.w) X.A (subscriptTail e (.Slice none none (some (.UnaryOp .USub (.Constant (.int 1) k p1) p2)) p3) (.ref a) (.ref s4.heap.objs.size)) (EP X pins σ Q) X.xe
    { s4 with heap := s4.heap.push { cls := .type "slice", data := .fields #[vl, vu, vs] } }
  refine tail_any (ops := [.ref a, .ref s4.heap.objs.size]) ht.typeIs PyProof.Rows.slot_tuple_getitem.lookup ?_ (by with_unfolding_all rfl)
  refine getItem_tuple_rev ht (Heap.IsSliceOf.new _ vl vu vs) pl pu ps ?_ (by rw [List.size_toArray]; omega)
  refine ⟨.ref _, _, I5.laid (t' := s4.toks) (o := .tup xs.reverse) (fun b ob q => Heap.get?_push_of_some _ q) (Nat.le_refl _) ?_, rfl, q _ (I5.hok.fresh (Nat.le_refl _))⟩
  exact ⟨by rw [List.length_reverse]; exact hz, _, r.reverse, IsTup.new _ _⟩
end KS
namespace KS
open PySem PySem.Spec PyProof.Rows L2
/-! ### t[a::c], t a tuple, a inside it, c at least 1 -/
def stepN (n a c : Nat) : Nat := (n - 1 - a) / c + 1
def cutStep {α : Type} (xs : List α) (a c : Nat) : List α := (List.range (stepN xs.length a c)).filterMap fun k => xs[a + k * c]?
section
variable {prog : Program} {w : World} {A : Around} {E : Value → Shared → Prop} {s : Shared}
theorem adjust_step {n a c : Nat} (ha : a < n) : Builtin.Slice.sliceAdjust (some (a : Int)) none (c : Int) (n : Int) = ((a : Int), (n : Int)) := by
  have h1 : ¬ ((c : Int) < 0) := by omega
  have h2 : ¬ ((a : Int) < 0) := by omega
  have h3 : min (a : Int) (n : Int) = (a : Int) := by omega
  simp [Builtin.Slice.sliceAdjust, h1, h2, h3]
theorem places_step {n a c : Nat} (ha : a < n) (hc : 1 ≤ c) : Builtin.Slice.slicePlaces (a : Int) (n : Int) (c : Int) = stepN n a c := by
  unfold Builtin.Slice.slicePlaces stepN
  rw [if_pos (by omega), if_pos (by omega)]
  have e : ((n : Int) - (a : Int) - 1) = ((n - 1 - a : Nat) : Int) := by omega
  rw [e, ← Int.natCast_ediv]
  generalize (n - 1 - a) / c = q
  omega
theorem applied_step {sl : Addr} {vl vu vs : Value} {n a c : Nat} {Q : Int × Int × Nat → Shared → Prop} (hs : s.heap.IsSliceOf sl vl vu vs) (pl : IsPart vl (some (a : Int))) (pu : IsPart vu none) (ps : IsPart vs (some (c : Int)))
    (ha : a < n) (hc : 1 ≤ c) (h : Q ((a : Int), (c : Int), stepN n a c) s) : wpAny (model prog w) A (Builtin.Slice.sliceApplied (.ref sl) (pure (n : Int))) Q E s := by
  obtain ⟨os, hos, hcs, hds⟩ := id hs
  unfold Builtin.Slice.sliceApplied Builtin.Slice.sliceFields
  refine wpAny_bind (wpAny_bind (wpAny_field hos hds (x := vl) rfl
    (wpAny_bind (wpAny_field hos hds (x := vu) rfl (wpAny_bind (wpAny_field hos hds (x := vs) rfl (wpAny_pure ?_)))))))
  refine wpAny_bind (HT.slicePart_ ps ?_)
  have hz : ¬ (((c : Int) == 0) = true) := by
    intro z
    have := eq_of_beq z
    omega
  show wpAny _ _ (if ((c : Int) == 0) = true then _ else _) _ _ s
  rw [if_neg hz]
  refine wpAny_bind (HT.slicePart_ pl (wpAny_bind (HT.slicePart_ pu (wpAny_bind (wpAny_pure ?_)))))
  show wpAny _ _ (match Builtin.Slice.sliceAdjust (some (a : Int)) none (c : Int) (n : Int) with | (lo, hi) => pure (lo, (c : Int), Builtin.Slice.slicePlaces lo hi (c : Int))) _ _ s
  rw [adjust_step ha]
  show wpAny _ _ (pure ((a : Int), (c : Int), Builtin.Slice.slicePlaces (a : Int) (n : Int) (c : Int))) _ _ s
  rw [places_step ha hc]
  exact wpAny_pure h
theorem pick_step (xs : Array Value) (a c : Nat) : ((List.range (stepN xs.size a c)).filterMap fun (k : Nat) => xs[((a : Int) + (k : Int) * (c : Int)).toNat]?).toArray = (cutStep xs.toList a c).toArray := by
  have e : (fun (k : Nat) => xs[((a : Int) + (k : Int) * (c : Int)).toNat]?) = fun k => xs.toList[a + k * c]? := by
    funext k
    have z : ((a : Int) + (k : Int) * (c : Int)).toNat = a + k * c := by
      rw [← Int.natCast_mul]
      omega
    rw [z, Array.getElem?_toList]
  rw [e]
  unfold cutStep
  rw [Array.length_toList]
theorem cutStep_len {α : Type} (xs : List α) (a c : Nat) : (cutStep xs a c).length ≤ stepN xs.length a c := by
  unfold cutStep
  refine Nat.le_trans (List.length_filterMap_le _ _) ?_
  rw [List.length_range]
  exact Nat.le_refl _
theorem stepN_le (n a c : Nat) : stepN n a c ≤ n + 1 := by
  unfold stepN
  have := Nat.div_le_self (n - 1 - a) c
  omega
theorem getItem_tuple_step {t sl : Addr} {items : Array Value} {vl vu vs : Value} {a c : Nat} {Q : Value → Shared → Prop} (ht : IsTup s.heap t items) (hs : s.heap.IsSliceOf sl vl vu vs) (pl : IsPart vl (some (a : Int))) (pu : IsPart vu none)
    (ps : IsPart vs (some (c : Int))) (ha : a < items.size) (hc : 1 ≤ c) (hn : ¬ (a = 0 ∧ c = 1)) (h : Q (.ref s.heap.objs.size) { s with heap := s.heap.push { cls := .type "tuple", data := .seq (cutStep items.toList a c).toArray } }) (hsz : items.size < sizeLine) :
    wpAny (model prog w) A (getItem (.ref t) (.ref sl)) Q E s := by
  have htake : sizeOk (.seq (cutStep items.toList a c).toArray) := by
    show (cutStep items.toList a c).toArray.size ≤ sizeLine
    rw [List.size_toArray]
    have h1 := cutStep_len items.toList a c
    have h2 := stepN_le items.toList.length a c
    rw [Array.length_toList] at h1 h2
    exact Nat.le_trans h1 (Nat.le_trans h2 hsz)
  obtain ⟨os, hos, hcs, hds⟩ := id hs
  have hTs : s.TypeIs (.ref sl) "slice" := ⟨os, hos, hcs⟩
  unfold getItem
  try with_reducible refine wpAny_holding ?_
  first | refine wpAny_bind (wpAny_pure ?_) | skip
  refine wpAny_bind (wpAny_sequenceKey ht.typeIs (by decide) ?_)
  refine wpAny_bind (wpAny_callSpecial?_slot (name := Str.ofString "__getitem__") ht.typeIs PyProof.Rows.slot_tuple_getitem (wpAny_call_entry PyProof.Rows.slot_tuple_getitem ht.typeIs entry_tuple_getitem ?_ (args_tuple_getitem _ _)))
  show wpAny _ _ (Builtin.Tuple.tupleItemsOf (.ref t) >>= _) _ _ s
  refine wpAny_bind (tupleItemsOf_ ht (wpAny_bind (wpAny_typeOf hTs ?_)))
  rw [if_pos (by decide)]
  refine wpAny_bind (applied_step hs pl pu ps ha hc ?_)
  have hno : ¬ (((a : Int) == 0 && (c : Int) == 1 && stepN items.size a c == items.size) = true) := by
    intro z
    rw [Bool.and_eq_true, Bool.and_eq_true] at z
    have z1 := eq_of_beq z.1.1
    have z2 := eq_of_beq z.1.2
    exact hn ⟨by omega, by omega⟩
  show wpAny _ _ (if ((a : Int) == 0 && (c : Int) == 1 && stepN items.size a c == items.size) = true then _ else _) _ _ s
  rw [if_neg hno, pick_step]
  first
    | exact wpAny_bind (m := Builtin.Tuple.tupleExact _) (wpAny_newObj_type (wpAny_pure ⟨_, rfl, wpAny_pure h⟩) htake)
    | exact wpAny_bind (m := Builtin.Tuple.tupleExact _) (wpAny_newObj_type (wpAny_bind (wpAny_pure (wpAny_pure ⟨_, rfl, wpAny_pure h⟩))) htake)
    | exact wpAny_bind (wpAny_bind (m := Builtin.Tuple.tupleExact _) (wpAny_newObj_type (wpAny_pure (wpAny_pure ⟨_, rfl, wpAny_pure h⟩)) htake))
    | exact wpAny_bind (wpAny_bind (m := Builtin.Tuple.tupleExact _) (wpAny_newObj_type (wpAny_pure ⟨_, rfl, wpAny_pure h⟩) htake))
theorem getItem_tuple_step1 {t sl : Addr} {items : Array Value} {vl vu vs : Value} {Q : Value → Shared → Prop} (ht : IsTup s.heap t items) (hs : s.heap.IsSliceOf sl vl vu vs) (pl : IsPart vl (some ((0 : Nat) : Int))) (pu : IsPart vu none)
    (ps : IsPart vs (some ((1 : Nat) : Int))) (ha : 0 < items.size) (h : Q (.ref t) s) :
    wpAny (model prog w) A (getItem (.ref t) (.ref sl)) Q E s := by
  obtain ⟨os, hos, hcs, hds⟩ := id hs
  have hTs : s.TypeIs (.ref sl) "slice" := ⟨os, hos, hcs⟩
  unfold getItem
  try with_reducible refine wpAny_holding ?_
  first | refine wpAny_bind (wpAny_pure ?_) | skip
  refine wpAny_bind (wpAny_sequenceKey ht.typeIs (by decide) ?_)
  refine wpAny_bind (wpAny_callSpecial?_slot (name := Str.ofString "__getitem__") ht.typeIs PyProof.Rows.slot_tuple_getitem (wpAny_call_entry PyProof.Rows.slot_tuple_getitem ht.typeIs entry_tuple_getitem ?_ (args_tuple_getitem _ _)))
  show wpAny _ _ (Builtin.Tuple.tupleItemsOf (.ref t) >>= _) _ _ s
  refine wpAny_bind (tupleItemsOf_ ht (wpAny_bind (wpAny_typeOf hTs ?_)))
  rw [if_pos (by decide)]
  refine wpAny_bind (applied_step hs pl pu ps ha (Nat.le_refl 1) ?_)
  have hn : stepN items.size 0 1 = items.size := by
    unfold stepN
    rw [Nat.div_one]
    omega
  have hyes : (((0 : Nat) : Int) == 0 && ((1 : Nat) : Int) == 1 && stepN items.size 0 1 == items.size) = true := by
    rw [hn]
    simp
  show wpAny _ _ (if (((0 : Nat) : Int) == 0 && ((1 : Nat) : Int) == 1 && stepN items.size 0 1 == items.size) = true then _ else _) _ _ s
  rw [if_pos hyes]
  unfold Builtin.Tuple.tupleIsExact
  refine wpAny_bind (wpAny_bind (wpAny_typeOf ht.typeIs (wpAny_pure ?_)))
  rw [if_pos (by decide)]
  first
    | exact wpAny_bind (wpAny_rule (wpAny_pure ⟨_, rfl, wpAny_pure h⟩))
    | exact wpAny_bind (wpAny_rule (wpAny_ret ⟨_, rfl, wpAny_pure h⟩))
    | skip
end
def tStepT (K : PySem.W.Frag) (te ta tc : TE) : TE := fun σ H Q => te σ H fun x H1 => tPart ta σ H1 fun oa H2 => tPart tc σ H2 fun oc H3 => ∃ (p : Addr) (xs : List V) (a c : Nat), x = .ref p ∧ oa = some (a : Int) ∧ oc = some (c : Int) ∧ SqT K H3 p xs ∧ a < xs.length ∧ 1 ≤ c ∧ xs.length ≤ 1000 ∧
  (a = 0 ∧ c = 1 → Q (.ref p) H3) ∧ (¬ (a = 0 ∧ c = 1) → ∀ q, H3 q = none → Q (.ref q) (upd H3 q (.tup (cutStep xs a c))))
theorem vals_cut {xs : List V} {its : List Value} (r : Vals xs its) (a c : Nat) : Vals (cutStep xs a c) (cutStep its a c) := by
  unfold cutStep
  rw [r.length]
  generalize List.range (stepN its.length a c) = l
  induction l with
  | nil => exact .nil
  | cons k l ih =>
    by_cases h : a + k * c < xs.length
    · have h2 : a + k * c < its.length := by rw [← r.length]; exact h
      obtain ⟨u, hu, ru⟩ := r.get (List.getElem?_eq_getElem h)
      rw [List.filterMap_cons_some (f := fun k => xs[a + k * c]?) (List.getElem?_eq_getElem h), List.filterMap_cons_some (f := fun k => its[a + k * c]?) hu]
      exact .cons ru ih
    · rw [List.filterMap_cons_none (f := fun k => xs[a + k * c]?) (List.getElem?_eq_none (by omega)), List.filterMap_cons_none (f := fun k => its[a + k * c]?) (List.getElem?_eq_none (by have := r.length; omega))]
      exact ih
theorem pe_stepT {X : Cx} {e ea ec : Expr} {te ta tc : TE} {p3 pos : Pos} (he : PE X e te) (ha : PE X ea ta) (hc : PE X ec tc) :
    PE X (.Subscript e (.Slice (some ea) none (some ec) p3) pos) (tStepT X.K te ta tc) := by
  refine ⟨fun pins s σ H Q I h => Subscript_ (thn (he.run pins s σ H _ I h) fun v s1 hh => ?_)⟩
  obtain ⟨x, H1, I1, r1, q1⟩ := hh
  refine wpAny_Slice (thn ((po_some ha).run pins s1 σ H1 _ I1 q1) fun vl s2 h2 => ?_)
  obtain ⟨oa, H2, I2, pl, q2⟩ := h2
  refine thn (po_none.run pins s2 σ H2 (fun o H3 => o = none ∧ H3 = H2) I2 ⟨rfl, rfl⟩) fun vu s3 h3 => ?_
  obtain ⟨u, H3, I3, pu, eu, e3⟩ := h3
  subst eu e3
  refine thn ((po_some hc).run pins s3 σ H3 _ I3 q2) fun vs s4 h4 => ?_
  obtain ⟨oc, H4, I4, ps, q4⟩ := h4
  obtain ⟨p, xs, a, c, rfl, rfl, rfl, hx, hax, hc1, hz, qa, qb⟩ := q4
  cases r1
  have I5 : Inv X pins σ H4 { s4 with heap := s4.heap.push { cls := .type "slice", data := .fields #[vl, vu, vs] } } :=
    I4.kept (t' := s4.toks) fun b ob q => Heap.get?_push_of_some _ q
  obtain ⟨its, r, ht, hz2⟩ := I5.tuple hx
  have hlen := r.length
  show wpAny (model X.prog X.w) X.A (subscriptTail e (.Slice (some ea) none (some ec) p3) (.ref p) (.ref s4.heap.objs.size)) (EP X pins σ Q) X.xe
    { s4 with heap := s4.heap.push { cls := .type "slice", data := .fields #[vl, vu, vs] } }
  refine tail_any (ops := [.ref p, .ref s4.heap.objs.size]) ht.typeIs PyProof.Rows.slot_tuple_getitem.lookup ?_ (by with_unfolding_all rfl)
  by_cases hn : a = 0 ∧ c = 1
  · obtain ⟨rfl, rfl⟩ := hn
    refine getItem_tuple_step1 ht (Heap.IsSliceOf.new _ vl vu vs) pl pu ps (by rw [List.size_toArray]; omega) ?_
    exact ⟨.ref _, H4, I5, rfl, qa ⟨rfl, rfl⟩⟩
  · refine getItem_tuple_step ht (Heap.IsSliceOf.new _ vl vu vs) pl pu ps (by rw [List.size_toArray]; omega) hc1 hn ?_ (by rw [List.size_toArray, sizeLine_eq]; omega)
    refine ⟨.ref _, _, I5.laid (t' := s4.toks) (o := .tup (cutStep xs a c)) (fun b ob q => Heap.get?_push_of_some _ q) (Nat.le_refl _) ?_, rfl, qb hn _ (I5.hok.fresh (Nat.le_refl _))⟩
    have h1 := cutStep_len xs a c
    have h2 := stepN_le xs.length a c
    refine ⟨by rw [sizeLine_eq]; omega, _, vals_cut r a c, IsTup.new _ _⟩
end KS
namespace KS
open PySem PySem.Spec PyProof.Rows L2
def topS (i : Nat) : Stmt := PySem.Challenge.pw_keepsort_k50_origins_by_all_tables.main.body.getD i (.Pass ⟨0, 0, 0, 0⟩)
abbrev sCell : Stmt := topS 23
abbrev sPool : Stmt := topS 24
abbrev sDraw : Stmt := topS 25
theorem scCell : FnScope ["_law_script", "_law_k", "_law_state", "_law_item"] ["_law_script", "_law_k"] (defScope sCell) := ⟨rfl, rfl, rfl, by decide +kernel, rfl, by decide +kernel, by decide +kernel⟩
theorem scPool : FnScope ["_law_item", "_law_digits"] ["_law_item"] (defScope sPool) := ⟨rfl, rfl, rfl, by decide +kernel, rfl, by decide +kernel, by decide +kernel⟩
theorem scDraw : FnScope ["_law_pool_here", "_law_most", "_law_state", "_law_digit"] ["_law_pool_here", "_law_most"] (defScope sDraw) := ⟨rfl, rfl, rfl, by decide +kernel, rfl, by decide +kernel, by decide +kernel⟩
section
variable {P : Program} {w : World} {K : PySem.W.Frag} {mg : Str → Option Value} {base : Heap}
theorem ok_cell {f : Addr} {fd : FuncData} (F : Fun K "_law_cell" "_law_cell" sCell f fd) (ml : mg "len" = none) : FnOk P w K mg base CX0 1 f fd ["_law_script", "_law_k"] (spCell K) := by
  refine F.ok scCell (fun vs H Q E h => ?_) (fun cdv A outer s H vs Q E hr h => ?_)
  · obtain ⟨a, ns, k, rfl, _⟩ := h
    rfl
  · obtain ⟨a, ns, k, rfl, hS, hk, q⟩ := h
    refine ⟨_, pss_cons (ps_if (pt_cmpR op_lt (pv 1) (pe_callB call_len_seq (by rfl) ml PySem.boot_len (pa_cons (pv 0) pa_nil)) (nomark _))
        (pss_one (ps_ret (pe_ix ix_list (pv 0) (pv 1) (fun _ _ => rfl)))) pss_nil)
      (pss_cons (ps_set (i := 2) scCell.nd rfl (.inl rfl) (pe_op op_mod (pe_op op_mul pe_int (pe_op op_add (pe_op op_add (pe_op op_mul (pv 1) (pv 1)) (pe_op op_mul pe_int (pv 1))) pe_int)) pe_int))
      (pss_cons (ps_for PassesOwn.never rfl (pi_list (pe_slice sl_list (pv 0) po_none (po_some pe_int))) (pg_name (i := 3) scCell.nd rfl (.inl rfl))
        (pss_one (ps_set (i := 2) scCell.nd rfl (.inl rfl) (pe_op op_mod (pe_op op_add (pe_op op_mul (pv 2) pe_int) (pv 3)) pe_int))))
      (pss_one (ps_ret (pv 2))))), ?_⟩
    refine ⟨_, rfl, _, rfl, a, ns.map V.int, rfl, .inl hS, _, _, rfl, rfl, _, rfl, ite2 (fun e => ?_) (fun e => ?_)⟩
    · have e0 : (k : Int) < ((ns.map V.int).length : Int) := of_decide_eq_true e
      rw [List.length_map] at e0
      have hj : k < ns.length := by omega
      refine ⟨_, rfl, _, rfl, a, _, _, .int ns[k], rfl, rfl, hS, atI_nat (j := k) ?_, q H _ (Same.refl H)⟩
      rw [List.getElem?_map, List.getElem?_eq_getElem hj]
      rfl
    · refine ⟨_, rfl, _, rfl, _, _, rfl, rfl, .inl ⟨by omega, by omega⟩, _, rfl, _, _, rfl, rfl, .inl ⟨by omega, by omega⟩, _, _, rfl, rfl, _, _, rfl, rfl, _, _, rfl, rfl, .inl ⟨by omega, by omega⟩, _, _, rfl, rfl, by show (0 : Int) < 2147483249; decide, ?_⟩
      refine ⟨_, rfl, 3, rfl, a, _, rfl, hS, fun c nc => ?_⟩
      have s1 := same_new (o := .lst (cutV (ns.map V.int) none (some 3))) nc
      have hc : SqL K (upd H c (.lst (cutV (ns.map V.int) none (some 3)))) c (cutV (ns.map V.int) none (some 3)) := SqL.of upd_same
      refine ⟨c, rfl, ⟨_, hc⟩, for_list (K := K) (a := c) (xs := cutV (ns.map V.int) none (some 3)) (fun i σ H' => ∃ (st : Int) (y : Option V), σ = [some (.ref a), some (.int k), some (.int st), y] ∧ 0 ≤ st ∧ st < 2147483249 ∧ H' = upd H c (.lst (cutV (ns.map V.int) none (some 3)))) ?_ ?_ ?_ ?_⟩
      · have b := int_mod_bd (60013 * ((k : Int) * k + 5 * k + 3)) (m := 2147483249) (by decide)
        exact ⟨_, none, rfl, b.1, b.2, rfl⟩
      · rintro i σ H' _ ⟨st, y, rfl, _, _, rfl⟩
        exact hc
      · rintro i x σ H' hi ⟨st, y, rfl, h0, h1, rfl⟩
        have hm : x ∈ ns.map V.int := by
          have := List.mem_of_getElem? hi
          unfold cutV at this
          exact List.mem_of_mem_drop (List.mem_of_mem_take this)
        obtain ⟨n, _, rfl⟩ := List.mem_map.mp hm
        have b := int_mod_bd (st * 41221 + n) (m := 2147483249) (by decide)
        refine ⟨_, rfl, _, _, rfl, rfl, .inl ⟨by omega, by omega⟩, _, rfl, _, _, rfl, rfl, _, _, rfl, rfl, by show (0 : Int) < 2147483249; decide, ?_⟩
        exact ⟨_, some (.int n), rfl, b.1, b.2, rfl⟩
      · rintro σ H' ⟨st, y, rfl, h0, h1, rfl⟩
        exact ⟨_, rfl, q _ _ s1⟩
theorem ok_pool {f : Addr} {fd : FuncData} (F : Fun K "_law_pool" "_law_pool" sPool f fd) (ma : mg "abs" = none) : FnOk P w K mg base CX0 1 f fd ["_law_item"] spPool := by
  refine F.ok scPool (fun vs H Q E h => ?_) (fun cdv A outer s H vs Q E hr h => ?_)
  · obtain ⟨n, rfl, _⟩ := h
    rfl
  · obtain ⟨n, rfl, q⟩ := h
    refine ⟨_, pss_cons (ps_set (i := 1) scPool.nd rfl (.inl rfl) (pe_ifExp (PW.pt (pw_or (pt_cmpR op_lt (pv 0) pe_int (nomark _)) (pw_or1 (pt_cmpR op_ge (pv 0) (pe_op op_pow pe_int pe_int) (nomark _)))))
        (pe_callB call_abs (by rfl) ma (by decide +kernel) (pa_cons (pv 0) pa_nil)) pe_int))
      (pss_one (ps_ret (pe_lst (pa_cons (pe_op op_mod (pv 0) pe_int) (pa_cons (pv 1) (pa_cons pe_int pa_nil)))))), ?_⟩
    have b := int_mod_bd n (m := 2147483249) (by decide)
    have fin : ∀ d : Int, 0 ≤ d → tRet (tLst (tCons (tOp (rI (fun _ j => 0 < j) fun i j => .int (i % j)) (tVar 0) (tC (.int 2147483249))) (tCons (tVar 1) (tCons (tC (.int 0)) tNil)))) { nx := fun _ H' => Q .non H', rt := Q } [some (.int n), some (.int d)] H := fun d hd => by
      refine ⟨_, rfl, _, _, rfl, rfl, by show (0 : Int) < 2147483249; decide, _, rfl, (by show 3 ≤ sizeLine; decide), fun p np => ?_⟩
      exact q _ _ (same_new np) np ⟨_, _, _, upd_same, b.1, b.2, hd⟩
    refine ⟨_, rfl, _, _, rfl, rfl, _, rfl, ite2 (fun e => ?_) (fun e => ?_)⟩
    · have e0 : n < 0 := of_decide_eq_true e
      refine iteT ⟨_, rfl, n, rfl, ?_⟩
      rw [if_pos e0]
      exact fin _ (by omega)
    · refine ⟨_, rfl, _, _, rfl, rfl, ⟨by decide, by decide, by decide⟩, _, _, rfl, rfl, _, rfl, ite2 (fun e1 => ?_) (fun e1 => ?_)⟩
      · have e0 : ¬ n < 0 := fun z => e (decide_eq_true z)
        refine ⟨_, rfl, n, rfl, ?_⟩
        rw [if_neg e0]
        exact fin _ (by omega)
      · exact fin _ (by omega)
theorem ok_draw {f : Addr} {fd : FuncData} (F : Fun K "_law_draw" "_law_draw" sDraw f fd) (md : mg "divmod" = none) : FnOk P w K mg base CX0 1 f fd ["_law_pool_here", "_law_most"] spDraw := by
  refine F.ok scDraw (fun vs H Q E h => ?_) (fun cdv A outer s H vs Q E hr h => ?_)
  · obtain ⟨p, m, rfl, _⟩ := h
    rfl
  · obtain ⟨p, m, rfl, ⟨a, b, c, hp, a0, a1, b0⟩, m0, m1, q⟩ := h
    refine ⟨_, pss_cons (ps_asg (pe_op op_add (pe_ix ix_list (pv 0) pe_int (fun _ _ => rfl)) pe_int) (pg_sub (pv 0) pe_int set_list))
      (pss_cons (ps_set (i := 2) scDraw.nd rfl (.inl rfl) (pe_ix ix_list (pv 0) pe_int (fun _ _ => rfl)))
      (pss_cons (ps_asg (pe_op op_mod (pe_op op_add (pe_op op_mul (pv 2) (pe_op op_add (pe_op op_mod (pv 2) pe_int) pe_int)) (pe_op op_mul pe_int (pe_ix ix_list (pv 0) pe_int (fun _ _ => rfl)))) pe_int) (pg_sub (pv 0) pe_int set_list))
      (pss_cons (ps_if (pt_cmpR op_gt (pe_ix ix_list (pv 0) pe_int (fun _ _ => rfl)) pe_int (nomark _))
        (pss_cons (ps_asg (pe_callB call_divmod (by rfl) md (by decide +kernel) (pa_cons (pe_ix ix_list (pv 0) pe_int (fun _ _ => rfl)) (pa_cons (pv 1) pa_nil)))
            (pg_tup (by rfl) (pgs_cons (pg_sub (pv 0) pe_int set_list) (pgs_cons (pg_name (i := 3) scDraw.nd rfl (.inl rfl)) pgs_nil))))
          (pss_one (ps_ret (pv 3)))) pss_nil)
      (pss_one (ps_ret (pe_op op_mod (pe_op op_fdiv (pe_ix ix_list (pv 0) pe_int (fun _ _ => rfl)) pe_int) (pv 1))))))), ?_⟩
    -- pool[2] = pool[2] + 1
    refine ⟨_, rfl, p, _, 2, .int c, rfl, rfl, SqL.of hp, rfl, _, _, rfl, rfl, _, rfl, p, _, 2, 2, rfl, rfl, hp, rfl, ?_⟩
    refine ⟨_, rfl, p, _, 0, .int a, rfl, rfl, SqL.of upd_same, rfl, ?_⟩
    have bm := int_mod_bd a (m := 50021) (by decide)
    refine ⟨_, rfl, _, rfl, _, _, rfl, rfl, by show (0 : Int) < 50021; decide, _, _, rfl, rfl, _, _, rfl, rfl, .inl ⟨by omega, by omega⟩, _, rfl, p, _, 2, .int (c + 1), rfl, rfl, SqL.of upd_same, rfl, _, _, rfl, rfl, .inl ⟨by decide, by decide⟩, _, _, rfl, rfl, _, _, rfl, rfl, by show (0 : Int) < 2147483249; decide, ?_⟩
    refine ⟨_, rfl, p, _, 0, 0, rfl, rfl, upd_same, rfl, ?_⟩
    have bz := int_mod_bd (a * (a % 50021 + 30011) + 80021 * (c + 1)) (m := 2147483249) (by decide)
    rw [upd_upd]
    show _
    refine ⟨_, rfl, p, _, 1, .int b, rfl, rfl, SqL.of upd_same, rfl, _, _, rfl, rfl, _, rfl, ite2 (fun e => ?_) (fun e => ?_)⟩
    · refine ⟨_, rfl, p, _, 1, .int b, rfl, rfl, SqL.of upd_same, rfl, _, rfl, b, m, rfl, ⟨m0, m1⟩, fun t nt => ?_⟩
      have npt : p ≠ t := ne_of_none upd_same nt
      refine ⟨t, _, rfl, SqT.of upd_same, rfl, _, _, rfl, ?_⟩
      refine ⟨_, rfl, p, _, 1, 1, rfl, rfl, by rw [upd_ne npt]; exact upd_same, rfl, _, [], rfl, rfl, ?_⟩
      have br := int_mod_bd b m0
      refine ⟨_, rfl, q _ _ (fun x o n e => ?_) ⟨_, _, _, upd_same, bz.1, bz.2, Int.ediv_nonneg b0 (by omega)⟩ br.1 br.2⟩
      rw [upd_ne n, upd_ne, upd_ne n]
      · exact e
      · intro z
        rw [z] at e
        rw [upd_ne (Ne.symm npt)] at nt
        rw [nt] at e
        cases e
    · refine ⟨_, rfl, p, _, 0, .int ((a * (a % 50021 + 30011) + 80021 * (c + 1)) % 2147483249), rfl, rfl, SqL.of upd_same, rfl, _, _, rfl, rfl, ⟨by decide, by decide⟩, _, rfl, _, _, rfl, rfl, m0, ?_⟩
      have br := int_mod_bd ((a * (a % 50021 + 30011) + 80021 * (c + 1)) % 2147483249 / 64) m0
      exact q _ _ keepX_upd ⟨_, _, _, upd_same, bz.1, bz.2, b0⟩ br.1 br.2
end
end KS
namespace KS
open PySem PySem.Spec PyProof.Rows L2
/-! ### a sort of lines, as mathematics -/
def sortI (l : List Int) : List Int := l.mergeSort (fun a b => decide (a ≤ b))
theorem sortI_perm (l : List Int) : (sortI l).Perm l := List.mergeSort_perm _ _
theorem sortI_asc (l : List Int) : (sortI l).Pairwise (· ≤ ·) := by
  have h := List.pairwise_mergeSort (le := fun (a b : Int) => decide (a ≤ b)) (by
    intro a b c h1 h2
    have h1 := of_decide_eq_true h1
    have h2 := of_decide_eq_true h2
    exact decide_eq_true (by omega)) (by
    intro a b
    rw [Bool.or_eq_true, decide_eq_true_eq, decide_eq_true_eq]
    omega) l
  exact h.imp fun z => of_decide_eq_true z
theorem sortI_eq {l m : List Int} (p : m.Perm l) (a : m.Pairwise (· ≤ ·)) : m = sortI l :=
  List.Perm.eq_of_pairwise (fun x y _ _ h1 h2 => by omega) a (sortI_asc l) (p.trans (sortI_perm l).symm)
theorem sortI_len (l : List Int) : (sortI l).length = l.length := (sortI_perm l).length_eq
def getI (vs : List Int) (k : Int) : Int := vs.getD k.toNat 0
def putZ (acc : List Int) (zs : List (Int × Int)) : List Int := zs.foldl (fun a z => a.set z.1.toNat z.2) acc
theorem putZ_len (zs : List (Int × Int)) : ∀ acc, (putZ acc zs).length = acc.length := by
  induction zs with
  | nil => intro acc; rfl
  | cons z zs ih =>
    intro acc
    show (putZ (acc.set z.1.toNat z.2) zs).length = _
    rw [ih, List.length_set]
theorem putZ_more (acc : List Int) (zs : List (Int × Int)) (z : Int × Int) : putZ acc (zs ++ [z]) = (putZ acc zs).set z.1.toNat z.2 := by
  unfold putZ
  rw [List.foldl_append]
  rfl
def srtL (vs acc : List Int) (l : List Int) : List Int := putZ acc (l.zip (sortI (l.map (getI vs))))
def srtTo (vs : List Int) (ls : List (List Int)) : List Int := ls.foldl (srtL vs) vs
/-- the values after a sort of this kind -/
def srt (b : Bool) (cs : List Cell) (vs : List Int) : List Int := srtTo vs (lnsOf b cs)
theorem srtTo_more (vs : List Int) (ls : List (List Int)) (l : List Int) : srtTo vs (ls ++ [l]) = srtL vs (srtTo vs ls) l := by
  unfold srtTo
  rw [List.foldl_append]
  rfl
theorem srtL_len (vs acc l : List Int) : (srtL vs acc l).length = acc.length := putZ_len _ _
theorem foldl_len {f : List Int → List Int → List Int} (h : ∀ a l, (f a l).length = a.length) : ∀ (ls : List (List Int)) (a : List Int), (ls.foldl f a).length = a.length
  | [], _ => rfl
  | l :: ls, a => by
    show (ls.foldl f (f a l)).length = _
    rw [foldl_len h ls, h]
theorem srtTo_len (vs : List Int) (ls : List (List Int)) : (srtTo vs ls).length = vs.length := foldl_len (srtL_len vs) ls vs
theorem srt_len (b : Bool) (cs : List Cell) (vs : List Int) : (srt b cs vs).length = vs.length := srtTo_len _ _
theorem idxs_nat {b : Bool} {cs : List Cell} {i : Nat} {r k : Int} (h : k ∈ idxs b cs i r) : ∃ j : Nat, k = (j : Int) ∧ j < i := by
  unfold idxs at h
  obtain ⟨j, hj, rfl⟩ := List.mem_map.mp h
  exact ⟨j, rfl, List.mem_range.mp (List.mem_filter.mp hj).1⟩
theorem lns_mem {b : Bool} {cs : List Cell} {l : List Int} (h : l ∈ lnsOf b cs) : (∀ k ∈ l, ∃ j : Nat, k = (j : Int) ∧ j < cs.length) ∧ l.length ≤ cs.length := by
  unfold lnsOf at h
  obtain ⟨r, _, rfl⟩ := List.mem_map.mp (List.mem_filter.mp h).1
  exact ⟨fun k hk => idxs_nat hk, idxs_len _ _ _ _⟩
theorem getI_at {vs : List Int} {j : Nat} (h : j < vs.length) : (vs.map V.int)[j]? = some (.int (getI vs (j : Int))) := by
  unfold getI
  rw [List.getElem?_map, Int.toNat_natCast, List.getD_eq_getElem?_getD, List.getElem?_eq_getElem h]
  rfl
theorem ixN_at {n j : Nat} (h : j < n) : ixN n (j : Int) = some j := by
  unfold ixN
  rw [if_pos (by omega), if_pos (by omega), Int.toNat_natCast]
/-- the law's own sort: of a tuple of whole numbers -/
def spLSorted (K : PySem.W.Frag) : Sp := fun xs H Q _ => ∃ (a t : Addr) (b : Bool) (cs : List Cell) (vs : List Int), xs = [.ref a, .ref t, .str (if b = true then "C" else "R")] ∧ PlanAt K H a cs ∧ cs.length ≤ 24 ∧
  SqT K H t (vs.map V.int) ∧ vs.length = cs.length ∧ ∀ H' u, Same H H' → SqT K H' u ((srt b cs vs).map V.int) → H u = none → Q (.ref u) H'
end KS
namespace KS
open PySem PySem.Spec PyProof.Rows L2
theorem ints_eqvAll : ∀ l m : List Int, PyData.eqvAll (l.map PyData.int) (m.map PyData.int) = decide (l = m)
  | [], [] => by simp [PyData.eqvAll]
  | [], _ :: _ => by simp [PyData.eqvAll]
  | _ :: _, [] => by simp [PyData.eqvAll]
  | x :: l, y :: m => by
    have h : PyData.eqvAll ((x :: l).map PyData.int) ((y :: m).map PyData.int) = (x == y && PyData.eqvAll (l.map PyData.int) (m.map PyData.int)) := by
      simp only [List.map_cons, PyData.eqvAll, PyData.eqv]
    rw [h, ints_eqvAll l m]
    by_cases e : x = y <;> by_cases e2 : l = m <;> simp [e, e2]
theorem ints_eqvL (l m : List Int) : PyData.eqv (.list (l.map PyData.int)) (.list (m.map PyData.int)) = decide (l = m) := by
  have h : PyData.eqv (.list (l.map PyData.int)) (.list (m.map PyData.int)) = PyData.eqvAll (l.map PyData.int) (m.map PyData.int) := by simp only [PyData.eqv]
  rw [h, ints_eqvAll]
theorem ints_eqvT (l m : List Int) : PyData.eqv (.tuple (l.map PyData.int)) (.tuple (m.map PyData.int)) = decide (l = m) := by
  have h : PyData.eqv (.tuple (l.map PyData.int)) (.tuple (m.map PyData.int)) = PyData.eqvAll (l.map PyData.int) (m.map PyData.int) := by simp only [PyData.eqv]
  rw [h, ints_eqvAll]
/-- whether the values of a line ascend -/
def upL (vs l : List Int) : Bool := decide (l.map (getI vs) = sortI (l.map (getI vs)))
/-- whether each line of the kind ascends -/
def rises (b : Bool) (cs : List Cell) (vs : List Int) : Bool := (lnsOf b cs).all (upL vs)
def spLRises (K : PySem.W.Frag) : Sp := fun xs H Q _ => ∃ (a t : Addr) (b : Bool) (cs : List Cell) (vs : List Int), xs = [.ref a, .ref t, .str (if b = true then "C" else "R")] ∧ PlanAt K H a cs ∧ cs.length ≤ 24 ∧
  SqT K H t (vs.map V.int) ∧ vs.length = cs.length ∧ ∀ H', Same H H' → Q (.bl (rises b cs vs)) H'
/-- the law's own words: the sorts of the letters, from left to right -/
def kindS (b : Bool) : Str := if b = true then "C" else "R"
def aft (cs : List Cell) (w : List Bool) (vs : List Int) : List Int := w.foldl (fun a b => srt b cs a) vs
theorem aft_len (cs : List Cell) : ∀ (w : List Bool) (vs : List Int), (aft cs w vs).length = vs.length
  | [], _ => rfl
  | b :: w, vs => by
    show (aft cs w (srt b cs vs)).length = _
    rw [aft_len cs w, srt_len]
theorem aft_more (cs : List Cell) (w : List Bool) (b : Bool) (vs : List Int) : aft cs (w ++ [b]) vs = srt b cs (aft cs w vs) := by
  unfold aft
  rw [List.foldl_append]
  rfl
end KS
namespace KS
open PySem PySem.Spec PyProof.Rows L2
/-- the values of a line, a new list -/
theorem pick_line {K : PySem.W.Frag} {t' : Addr} {σ : L2.St} {H : Hp} {Q : VK} {vs l : List Int} {i1 i2 i3 : Nat} {tt : Addr} (h1 : σ[i1]? = some (some (.ref t'))) (h2 : σ[i2]? = some (some (.ref tt))) (hlt : H t' = some (.lst (l.map V.int))) (ht : SqT K H tt (vs.map V.int))
    (hm : ∀ k ∈ l, ∃ j : Nat, k = (j : Int) ∧ j < vs.length) (hl : l.length ≤ 24) (h3 : i3 < σ.length) (h13 : i2 ≠ i3)
    (k : ∀ D, H D = none → Q (.ref D) (upd H D (.lst ((l.map (getI vs)).map V.int)))) :
    tLc (iList K (tVar i1)) (gName i3) tYes (tOp (rIxT K) (tVar i2) (tVar i3)) [i3] σ H Q := by
  refine ⟨_, h1, t', rfl, ⟨_, SqL.of hlt⟩, fun D nD => ?_⟩
  have ntD : t' ≠ D := ne_of_none hlt nD
  refine lc_list (K := K) (a := t') (xs := l.map V.int) (fun j G => G = upd H D (.lst (((l.take j).map (getI vs)).map V.int))) ?_ ?_ ?_ ?_
  · rfl
  · rintro j G _ rfl
    exact SqL.of (by rw [upd_ne ntD]; exact hlt)
  · rintro j x G hj rfl
    rw [List.getElem?_map] at hj
    cases ev : l[j]? with
    | none =>
      rw [ev] at hj
      cases hj
    | some k =>
      rw [ev] at hj
      cases hj
      obtain ⟨j', rfl, hj'⟩ := hm k (List.mem_of_getElem? ev)
      refine ⟨?_, .ref tt, ?_, .int (j' : Int), ?_, tt, _, _, .int (getI vs (j' : Int)), rfl, rfl, same_seqT (same_new nD) ht, atI_nat (getI_at hj'), _, upd_same, ?_, ?_⟩
      · show ((σ.set i3 none).set i3 _).set i3 none = σ.set i3 none
        rw [List.set_set, List.set_set]
      · show ((σ.set i3 none).set i3 _)[i2]? = _
        rw [List.set_set, List.getElem?_set_ne (Ne.symm h13)]
        exact h2
      · show ((σ.set i3 none).set i3 _)[i3]? = _
        rw [List.set_set, List.getElem?_set_self h3]
      · rw [List.length_map, List.length_map, List.length_take]
        exact small64 (by omega)
      · rw [upd_upd, List.take_add_one, ev, List.map_append, List.map_append]
        rfl
  · rintro G rfl
    rw [List.length_map, List.take_length]
    exact k D nD
end KS
namespace KS
open PySem PySem.Spec PyProof.Rows L2
theorem rd_ifNe {K : PySem.W.Frag} {ta tb : TE} {t u : TS} {D : Ends} {σ : L2.St} {H : Hp} (h : ta σ H fun x H1 => tb σ H1 fun y H2 => rNeD K x y H2 fun v H3 => ∃ k, v = .bl k ∧ if k = true then t D σ H3 else u D σ H3) :
    tIfS (tTest (tOp (rNeD K) ta tb)) t u D σ H := h
theorem rd_cb1 {r : List V → Hp → VK → Prop} {ta : TE} {σ : L2.St} {H : Hp} {Q : VK} (h : ta σ H fun x H1 => r [x] H1 Q) : tCB r (tCons ta tNil) σ H Q := h
theorem up_if {K : PySem.W.Frag} {t' : Addr} {σ : L2.St} {H : Hp} {vs l : List Int} {i1 i2 i3 : Nat} {tt : Addr} {tb : TS} {D : Ends} (h1 : σ[i1]? = some (some (.ref t'))) (h2 : σ[i2]? = some (some (.ref tt))) (hlt : H t' = some (.lst (l.map V.int))) (ht : SqT K H tt (vs.map V.int))
    (hm : ∀ k ∈ l, ∃ j : Nat, k = (j : Int) ∧ j < vs.length) (hl : l.length ≤ 24) (h3 : i3 < σ.length) (h13 : i2 ≠ i3)
    (k1 : ∀ H', Same H H' → upL vs l = true → D.nx σ H') (k2 : ∀ H', Same H H' → upL vs l = false → tb D σ H') :
    tIfS (tTest (tOp (rNeD K) (tLc (iList K (tVar i1)) (gName i3) tYes (tOp (rIxT K) (tVar i2) (tVar i3)) [i3]) (tCB (rSortedI K) (tCons (tLc (iList K (tVar i1)) (gName i3) tYes (tOp (rIxT K) (tVar i2) (tVar i3)) [i3]) tNil)))) tb tNext D σ H := by
  refine rd_ifNe (pick_line (K := K) (σ := σ) h1 h2 hlt ht hm hl h3 h13 (fun D1 n1 => ?_))
  have s1 := same_new (o := .lst ((l.map (getI vs)).map V.int)) n1
  refine rd_cb1 (pick_line (K := K) (σ := σ) h1 h2 (s1 _ _ hlt) (same_seqT s1 ht) hm hl h3 h13 (fun D2 n2 => ?_))
  have s2 := same_new (o := .lst ((l.map (getI vs)).map V.int)) n2
  refine ⟨D2, _, rfl, SqL.of upd_same, fun ys D3 perm asc n3 => ?_⟩
  have ey := sortI_eq perm asc
  have s3 := same_new (o := .lst (ys.map V.int)) n3
  refine ⟨_, _, .lst (SqL.of (s3 _ _ (s2 _ _ upd_same))) (dp_ints _), .lst (SqL.of upd_same) (dp_ints _), ints_shaped _, ints_shaped _, _, rfl, ?_⟩
  rw [ints_eqvL]
  have sm := (s1.trans s2).trans s3
  by_cases c : l.map (getI vs) = ys
  · rw [decide_eq_true c]
    refine k1 _ sm ?_
    unfold upL
    rw [← ey]
    exact decide_eq_true c
  · rw [decide_eq_false c]
    refine k2 _ sm ?_
    unfold upL
    rw [← ey]
    exact decide_eq_false c
end KS
namespace KS
open PySem PySem.Spec PyProof.Rows L2
/-- so many different whole numbers from 1 to 9999 -/
structure Vals9 (n : Nat) (fs : List Int) : Prop where
  len : fs.length = n
  nd : fs.Nodup
  bd : ∀ v ∈ fs, 1 ≤ v ∧ v ≤ 9999
def spValues (K : PySem.W.Frag) : Sp := fun vs H Q _ => ∃ (p : Addr) (n : Nat), vs = [.ref p, .int n] ∧ PoolO (H p) ∧ 1 ≤ n ∧ n ≤ 24 ∧
  ∀ H' t fs, KeepX p H H' → PoolO (H' p) → SqT K H' t (fs.map V.int) → Vals9 n fs → H t = none → Q (.ref t) H'
theorem Vals9.perm {n : Nat} {as bs : List Int} (h : Vals9 n as) (p : as.Perm bs) : Vals9 n bs := ⟨p.length_eq ▸ h.len, p.nodup_iff.mp h.nd, fun v m => h.bd v (p.mem_iff.mpr m)⟩
theorem map_eraseIdx {f : Int → V} : ∀ (l : List Int) (k : Nat), (l.map f).eraseIdx k = (l.eraseIdx k).map f
  | [], _ => rfl
  | _ :: _, 0 => rfl
  | x :: l, k + 1 => by
    show f x :: (l.map f).eraseIdx k = f x :: (l.eraseIdx k).map f
    rw [map_eraseIdx l k]
theorem erase_perm : ∀ {l : List Int} {k : Nat} (h : k < l.length), l.Perm (l[k] :: l.eraseIdx k)
  | _ :: _, 0, _ => List.Perm.refl _
  | x :: l, k + 1, h => ((erase_perm (l := l) (k := k) (Nat.lt_of_succ_lt_succ h)).cons x).trans (List.Perm.swap _ _ _)
theorem pick_perm {fs l : List Int} {k : Nat} (h : k < l.length) : (fs ++ l).Perm ((fs ++ [l[k]]) ++ l.eraseIdx k) := by
  rw [List.append_assoc]
  exact (erase_perm h).append_left fs
def rgI (a b : Int) : List Int := (List.range (b - a).toNat).map fun (i : Nat) => a + (i : Int)
theorem rgV_ints (a b : Int) : rgV a b = (rgI a b).map V.int := by
  unfold rgV rgI
  rw [List.map_map]
  rfl
theorem rgI_len (a b : Int) : (rgI a b).length = (b - a).toNat := by
  unfold rgI
  rw [List.length_map, List.length_range]
theorem rgI_nd (a b : Int) : (rgI a b).Nodup := by
  unfold rgI
  refine List.pairwise_map.2 (List.nodup_range.imp ?_)
  intro x y h e
  exact h (by omega)
theorem rgI_mem {a b v : Int} (h : v ∈ rgI a b) : a ≤ v ∧ v < b := by
  unfold rgI at h
  obtain ⟨i, hi, rfl⟩ := List.mem_map.mp h
  have := List.mem_range.mp hi
  omega
theorem vals9_low {n : Nat} (n1 : n ≤ 24) : Vals9 n (rgI 1 ((n : Int) + 1)) := by
  refine ⟨by rw [rgI_len]; omega, rgI_nd _ _, fun v h => ?_⟩
  have := rgI_mem h
  omega
theorem vals9_high {n : Nat} (n1 : n ≤ 24) : Vals9 n (rgI (10000 - (n : Int)) 10000) := by
  refine ⟨by rw [rgI_len]; omega, rgI_nd _ _, fun v h => ?_⟩
  have := rgI_mem h
  omega
theorem vals9_step {n : Nat} {st : Int} (n0 : 1 ≤ n) (s0 : 1 ≤ st) (s1 : st ≤ 9999 / (n : Int)) : Vals9 n ((rgI 1 ((n : Int) + 1)).map fun v => st * v) := by
  refine ⟨by rw [List.length_map, rgI_len]; omega, List.pairwise_map.2 ((rgI_nd _ _).imp ?_), fun v h => ?_⟩
  · intro x y h e
    exact h (Int.eq_of_mul_eq_mul_left (by omega) e)
  · obtain ⟨u, hu, rfl⟩ := List.mem_map.mp h
    have b := rgI_mem hu
    have h1 : st * (n : Int) ≤ 9999 := (Int.le_ediv_iff_mul_le (by omega)).mp s1
    have h2 : st * u ≤ st * (n : Int) := Int.mul_le_mul_of_nonneg_left (by omega) (by omega)
    have h3 : 1 * 1 ≤ st * u := Int.mul_le_mul s0 b.1 (by omega) (by omega)
    omega
def VSt (p : Addr) (n : Nat) (mode : Int) (H : Hp) (σ : L2.St) (H' : Hp) : Prop := ∃ (e : Addr) (y4 : Option V) (ls : List Int), σ = [some (.ref p), some (.int n), some (.int mode), some (.ref e), y4, none, none, none] ∧
  H e = none ∧ e ≠ p ∧ H' e = some (.lst (ls.map V.int)) ∧ Vals9 n ls ∧ KeepX p H H' ∧ PoolO (H' p)
theorem KeepX.free {p q : Addr} {H H' : Hp} (k : KeepX p H H') (po : PoolO (H' p)) (n : H' q = none) : H q = none := by
  cases z : H q with
  | none => rfl
  | some o =>
    have := k q o (Ne.symm (po.ne n)) z
    rw [n] at this
    cases this
theorem vals_ifs {K : PySem.W.Frag} {p e : Addr} {n : Nat} {mode : Int} {H H2 : Hp} {tr : TS} {D : Ends} (n0 : 1 ≤ n) (n1 : n ≤ 24) (he0 : H e = none) (hep : e ≠ p) (he : H2 e = some (.lst (rgV 1 ((n : Int) + 1)))) (kx : KeepX p H H2) (po : PoolO (H2 p))
    (k : ∀ σ' H', VSt p n mode H σ' H' → tr D σ' H') :
    tSeq (tIfS (tTest (tOp rEq (tVar 2) (tC (V.int 1)))) (tAsg (tLstRg (tRg2 (tOp (rI0 fun i j => V.int (i - j)) (tC (V.int 10000)) (tVar 1)) (tC (V.int 10000)))) (gName 3)) tNext)
      (tSeq (tIfS (tTest (tOp (rI0 fun i j => V.bl (decide (i > j))) (tVar 2) (tC (V.int 1))))
        (tSeq (tAsg (tOp (rI0 fun i j => V.int (i + j)) (tC (V.int 1)) (tCall spDraw [] E0 (tCons (tVar 0) (tCons (tOp (rI CDiv fun i j => V.int (i / j)) (tC (V.int 9999)) (tVar 1)) tNil)))) (gName 4))
          (tAsg (tLc (iList K (tVar 3)) (gName 7) tYes (tOp (rI CMul fun i j => V.int (i * j)) (tVar 4) (tVar 7)) [7]) (gName 3))) tNext) tr) D
      [some (.ref p), some (.int n), some (.int mode), some (.ref e), none, none, none, none] H2 := by
  refine ⟨_, rfl, rfl, _, rfl, ite2 (fun c => ?_) (fun c => ?_)⟩
  · have cm : mode = 1 := V.int.inj (of_decide_eq_true c)
    subst cm
    refine ⟨_, rfl, _, _, rfl, rfl, _, _, rfl, rfl, ⟨by omega, by omega, by omega, by omega, by omega⟩, fun g ng => ?_⟩
    have sg := same_new (o := .lst (rgV (10000 - (n : Int)) 10000)) ng
    refine ⟨_, rfl, _, _, rfl, rfl, _, rfl, ite2 (fun c => ?_) (fun c => ?_)⟩
    · exact absurd (of_decide_eq_true c) (by decide)
    · refine k _ _ ⟨g, none, rgI (10000 - (n : Int)) 10000, rfl, kx.free po ng, Ne.symm (po.ne ng), ?_, vals9_high n1, kx.trans (.of_same sg), po.same sg⟩
      rw [upd_same, rgV_ints]
  · refine ⟨_, rfl, _, _, rfl, rfl, _, rfl, ite2 (fun c => ?_) (fun c => ?_)⟩
    · have qd : 1 ≤ (9999 : Int) / (n : Int) := (Int.le_ediv_iff_mul_le (by omega)).mpr (by omega)
      have qu : (9999 : Int) / (n : Int) ≤ 9999 := Int.ediv_le_self _ (by decide)
      refine ⟨_, rfl, _, rfl, _, _, rfl, rfl, ⟨by omega, by omega⟩, p, _, rfl, po, by omega, by omega, fun H3 r k3 po3 r0 r1 => ?_⟩
      refine ⟨_, _, rfl, rfl, ?_⟩
      have he3 := k3 _ _ hep he
      refine ⟨_, rfl, e, rfl, ⟨_, SqL.of he3⟩, fun D0 nD => ?_⟩
      have neD : e ≠ D0 := ne_of_none he3 nD
      refine lc_list (K := K) (a := e) (xs := rgV 1 ((n : Int) + 1)) (fun j G => G = upd H3 D0 (.lst (((rgI 1 ((n : Int) + 1)).take j).map fun v => V.int ((1 + r) * v)))) ?_ ?_ ?_ ?_
      · rfl
      · rintro j G _ rfl
        exact SqL.of (by rw [upd_ne neD]; exact he3)
      · rintro j x G hj rfl
        rw [rgV_ints, List.getElem?_map] at hj
        cases ev : (rgI 1 ((n : Int) + 1))[j]? with
        | none =>
          rw [ev] at hj
          cases hj
        | some v =>
          rw [ev] at hj
          cases hj
          have hv := rgI_mem (List.mem_of_getElem? ev)
          refine ⟨rfl, _, rfl, _, rfl, _, _, rfl, rfl, .inl ⟨by omega, by omega⟩, _, upd_same, ?_, ?_⟩
          · rw [List.length_map, List.length_take]
            refine small64 ?_
            rw [rgI_len]
            omega
          · rw [upd_upd, List.take_add_one, ev, List.map_append]
            rfl
      · rintro G rfl
        rw [rgV_length, List.take_of_length_le (by rw [rgI_len]; omega)]
        have sD := same_new (o := .lst ((rgI 1 ((n : Int) + 1)).map fun v => V.int ((1 + r) * v))) nD
        refine k _ _ ⟨D0, _, (rgI 1 ((n : Int) + 1)).map fun v => (1 + r) * v, rfl, (kx.trans k3).free po3 nD, Ne.symm (po3.ne nD), ?_, vals9_step n0 (by omega) (by omega), (kx.trans k3).trans (.of_same sD), po3.same sD⟩
        rw [upd_same, List.map_map]
        rfl
    · refine k _ _ ⟨e, none, rgI 1 ((n : Int) + 1), rfl, he0, hep, ?_, vals9_low n1, kx, po⟩
      rw [← rgV_ints]
      exact he
end KS
namespace KS
open PySem PySem.Spec PyProof.Rows L2
def Small4 (l : List Int) : Prop := ∀ x ∈ l, 0 ≤ x ∧ x < 10000
theorem Vals9.small {n : Nat} {vs : List Int} (h : Vals9 n vs) : Small4 vs := fun x hx => by
  have := h.bd x hx
  omega
theorem getI_small {vs : List Int} (h : Small4 vs) (k : Int) : 0 ≤ getI vs k ∧ getI vs k < 10000 := by
  unfold getI
  rw [List.getD_eq_getElem?_getD]
  cases e : vs[k.toNat]? with
  | none => exact ⟨by decide, by decide⟩
  | some v => exact h v (List.mem_of_getElem? e)
theorem putZ_small : ∀ {zs : List (Int × Int)} {acc : List Int}, Small4 acc → (∀ z ∈ zs, 0 ≤ z.2 ∧ z.2 < 10000) → Small4 (putZ acc zs)
  | [], _, h, _ => h
  | z :: zs, acc, h, hz => by
    refine putZ_small (zs := zs) (acc := acc.set z.1.toNat z.2) (fun x hx => ?_) (fun y hy => hz y (List.mem_cons_of_mem _ hy))
    rcases List.mem_or_eq_of_mem_set hx with m | rfl
    · exact h x m
    · exact hz z List.mem_cons_self
theorem srtL_small {vs acc l : List Int} (h : Small4 vs) (ha : Small4 acc) : Small4 (srtL vs acc l) := by
  refine putZ_small ha fun z hz => ?_
  have m := (List.of_mem_zip (show (z.1, z.2) ∈ _ from hz)).2
  have m2 := (sortI_perm _).mem_iff.mp m
  obtain ⟨k, _, e⟩ := List.mem_map.mp m2
  rw [← e]
  exact getI_small h k
theorem foldl_small {vs : List Int} (h : Small4 vs) : ∀ (ls : List (List Int)) {acc : List Int}, Small4 acc → Small4 (ls.foldl (srtL vs) acc)
  | [], _, ha => ha
  | l :: ls, _, ha => foldl_small h ls (srtL_small h ha)
theorem srt_small {b : Bool} {cs : List Cell} {vs : List Int} (h : Small4 vs) : Small4 (srt b cs vs) := foldl_small h _ h
theorem line_small {l : List Int} (h : Small4 l) (hl : l.length ≤ 64) : Shows (lineD l) 960 ∧ (lineD l).depth ≤ 64 := ⟨shows_line h hl, by rw [depth_line]; decide⟩
/-- a plan and its values, as data -/
def tabD (cs : List Cell) (vs : List Int) : PyData := .tuple [planD cs, lineD vs]
theorem tab_small {cs : List Cell} {vs : List Int} (g : ∀ c ∈ cs, InGrid c) (hl : cs.length ≤ 64) (h : Small4 vs) (hv : vs.length ≤ 64) : Shows (tabD cs vs) 8000 ∧ (tabD cs vs).depth ≤ 64 := by
  have hp := shows_plan g hl
  have hn := line_small h hv
  refine ⟨shows_tuple (n := 1984) (showsAll_of fun d hd => ?_) (by show (1984 + 1) * 2 ≤ 8000; decide), ?_⟩
  · rcases List.mem_cons.mp hd with z | z
    · subst z
      exact hp.1
    · rcases List.mem_cons.mp z with z | z
      · subst z
        exact ⟨hn.1.short, hn.1.show_, hn.1.nod, Nat.le_trans hn.1.wt (by decide)⟩
      · cases z
  · have a := (cells_lay cs).2
    have b := (ints_lay vs).2
    show (PyData.tuple [.tuple (cs.map cellD), .tuple (vs.map PyData.int)]).depth ≤ 64
    simp only [PyData.depth, PyData.depthAll]
    omega
def rev3 {α : Type} : List α → List α
  | [a, b, c] => [c, b, a]
  | _ => []
theorem rev3_rel {zs : List V} {ws : List Value} (r : Vals zs ws) : Vals (rev3 zs) (rev3 ws) := by
  cases r with
  | nil => exact .nil
  | cons r1 r =>
    cases r with
    | nil => exact .nil
    | cons r2 r =>
      cases r with
      | nil => exact .nil
      | cons r3 r =>
        cases r with
        | nil => exact .cons r3 (.cons r2 (.cons r1 .nil))
        | cons r4 r => exact .nil
/-- the program's sort -/
def spSortL (K : PySem.W.Frag) : Sp := fun xs H Q _ => ∃ (a t : Addr) (b : Bool) (cs : List Cell) (vs : List Int), xs = [.ref a, .ref t, .str (if b = true then "C" else "R")] ∧ PlanAt K H a cs ∧ Good cs ∧ cs.length ≤ 24 ∧
  SqT K H t (vs.map V.int) ∧ Vals9 cs.length vs ∧ ∀ H' u, Same H H' → SqT K H' u ((srt b cs vs).map V.int) → Q (.ref u) H'
end KS
namespace KS
open PySem PySem.Spec PyProof.Rows L2
/-- the letter of a kind, and a word -/
def ltr (b : Bool) : Nat := if b = true then 67 else 82
def wS (w : List Bool) : Str := ⟨(w.map ltr).toArray⟩
theorem wS_len (w : List Bool) : (wS w).length = w.length := by
  show (w.map ltr).toArray.size = _
  rw [List.size_toArray, List.length_map]
theorem ltr_str (b : Bool) : V.str ⟨#[ltr b]⟩ = V.str (if b = true then "C" else "R") := by
  cases b <;> decide +kernel
theorem wS_at {w : List Bool} {i : Nat} {c : Nat} (h : (wS w).cps[i]? = some c) : ∃ b, w[i]? = some b ∧ c = ltr b := by
  have h' : (w.map ltr).toArray[i]? = some c := h
  rw [List.getElem?_toArray, List.getElem?_map] at h'
  cases e : w[i]? with
  | none =>
    rw [e] at h'
    cases h'
  | some b =>
    rw [e] at h'
    cases h'
    exact ⟨b, rfl, rfl⟩
def spLAfter (K : PySem.W.Frag) : Sp := fun xs H Q _ => ∃ (a t : Addr) (w : List Bool) (cs : List Cell) (vs : List Int), xs = [.ref a, .ref t, .str (wS w)] ∧ PlanAt K H a cs ∧ cs.length ≤ 24 ∧
  SqT K H t (vs.map V.int) ∧ vs.length = cs.length ∧ ∀ H' u, Same H H' → SqT K H' u ((aft cs w vs).map V.int) → Q (.ref u) H'
end KS
namespace KS
open PySem PySem.Spec PyProof.Rows L2
/-- one letter, so many times -/
def rRepC : R2 := fun x y H Q => ∃ (c : Nat) (n : Nat), x = .str ⟨#[c]⟩ ∧ y = .int n ∧ 1 ≤ n ∧ n ≤ 64 ∧ Q (.str ⟨(List.replicate n c).toArray⟩) H
theorem rep_fold (c : Nat) : ∀ (n : Nat) (a : Array Nat), (List.replicate n #[c]).foldl (· ++ ·) a = a ++ (List.replicate n c).toArray
  | 0, a => by simp
  | n + 1, a => by
    rw [List.replicate_succ, List.foldl_cons, rep_fold c n, List.replicate_succ]
    apply Array.ext'
    simp
theorem op_repC {X : Cx} : OpR X (binaryOp .Mult) rRepC := by
  intro pins s σ H x y v u Q I rx ry h
  obtain ⟨c, n, rfl, rfl, n0, n1, q⟩ := h
  obtain ⟨t, rfl⟩ := rx
  obtain ⟨t', rfl⟩ := ry
  have e1 : ¬ ((n : Int) < 1) := by omega
  refine P.mul_str ?_ ?_ ?_ ?_
  · have h1 : ¬ (n : Int) < -(2 ^ 63 : Int) := by omega
    have h2 : ¬ (n : Int) ≥ 2 ^ 63 := by omega
    rw [decide_eq_false h1, decide_eq_false h2]
    rfl
  · intro _ _
    show ¬ ((1 : Int) > (2 ^ 63 - 1) / (n : Int))
    have : (1 : Int) ≤ (2 ^ 63 - 1) / (n : Int) := (Int.le_ediv_iff_mul_le (by omega)).mpr (by omega)
    omega
  · intro _ _
    show decide (1 * (n : Int).toNat > sizeLine) = false
    refine decide_eq_false ?_
    rw [sizeLine_eq]
    omega
  · rw [if_neg e1]
    by_cases e : n = 1
    · subst e
      exact ⟨.str ⟨#[c]⟩, H, I, ⟨_, rfl⟩, q⟩
    · have z : (((n : Int) == 1) || ((⟨#[c]⟩ : Str).length == 0)) = false := by
        have : ((n : Int) == 1) = false := by
          rw [beq_eq_false_iff_ne]
          omega
        rw [this]
        rfl
      rw [if_neg (by rw [z]; decide)]
      have ez : (⟨(List.replicate (n : Int).toNat (⟨#[c]⟩ : Str).cps).foldl (· ++ ·) #[]⟩ : Str) = ⟨(List.replicate n c).toArray⟩ := by
        rw [Int.toNat_natCast]
        show (⟨(List.replicate n #[c]).foldl (· ++ ·) #[]⟩ : Str) = _
        rw [rep_fold]
        simp
      rw [ez]
      refine ⟨?_, .str ⟨(List.replicate n c).toArray⟩, H, I.tok _, ⟨_, rfl⟩, q⟩
      show (List.replicate n c).toArray.size ≤ sizeLine
      rw [List.size_toArray, List.length_replicate, sizeLine_eq]
      omega
theorem wS_app (a b : List Bool) : wS a ++ wS b = wS (a ++ b) := by
  show (⟨(a.map ltr).toArray ++ (b.map ltr).toArray⟩ : Str) = ⟨((a ++ b).map ltr).toArray⟩
  rw [List.map_append]
  simp
theorem wS_rep (b : Bool) (n : Nat) : (⟨(List.replicate n (ltr b)).toArray⟩ : Str) = wS (List.replicate n b) := by
  unfold wS
  rw [List.map_replicate]
theorem wS_cut (a : List Bool) (n : Nat) (h : n ≤ a.length) : cutS (wS a) none (some (n : Int)) = wS (a.take n) := by
  have hl := wS_len a
  unfold cutS
  have e0 : HT.sIx (wS a).length 0 none = 0 := rfl
  have e1 : HT.sIx (wS a).length (wS a).length (some (n : Int)) = n := by
    rw [HT.sIx_nat, hl]
    omega
  rw [e0, e1]
  show (⟨(((a.map ltr).toArray.toList.drop 0).take (n - 0)).toArray⟩ : Str) = ⟨((a.take n).map ltr).toArray⟩
  simp
/-- a word of at most so many letters -/
def spLWord (K : PySem.W.Frag) : Sp := fun xs H Q _ => ∃ (p : Addr) (m : Nat), xs = [.ref p, .int m] ∧ PoolO (H p) ∧ m ≤ 400 ∧ ∀ H' w, KeepX p H H' → PoolO (H' p) → w.length ≤ m → Q (.str (wS w)) H'
end KS
namespace KS
open PySem PySem.Spec PyProof.Rows L2
theorem aft_small {cs : List Cell} : ∀ (w : List Bool) {vs : List Int}, Small4 vs → Small4 (aft cs w vs)
  | [], _, h => h
  | b :: w, _, h => aft_small w (srt_small (b := b) (cs := cs) h)
/-- the program's word -/
def spAfterP (K : PySem.W.Frag) : Sp := fun xs H Q _ => ∃ (a t : Addr) (w : List Bool) (cs : List Cell) (vs : List Int), xs = [.ref a, .ref t, .str (wS w)] ∧ PlanAt K H a cs ∧ Good cs ∧ cs.length ≤ 24 ∧
  SqT K H t (vs.map V.int) ∧ Vals9 cs.length vs ∧ w.length ≤ 400 ∧ ∀ H' u, Same H H' → SqT K H' u ((aft cs w vs).map V.int) → Q (.ref u) H'
theorem wS_nil : V.str (wS []) = V.str "" := by decide +kernel
theorem line_shaped (l : List Int) : SeqAt.shaped (lineD l) = true := by
  obtain ⟨h1, h2⟩ := ints_lay l
  show SeqAt.shaped (.tuple (l.map PyData.int)) = true
  unfold SeqAt.shaped
  simp only [PyData.canLay0, PyData.depth, h1, h2]
  decide
end KS
namespace KS
open PySem PySem.Spec PyProof.Rows L2
def lS (b : Bool) : Str := ⟨#[ltr b]⟩
theorem lS_w (b : Bool) : lS b = wS [b] := rfl
theorem join_ws : ∀ w : List Bool, Str.join "" (w.map lS) = wS w
  | [] => by decide +kernel
  | [b] => rfl
  | b :: c :: r => by
    have h := join_ws (c :: r)
    show lS b ++ "" ++ Str.join "" ((c :: r).map lS) = _
    rw [h, show ("" : Str) = wS [] from by decide +kernel, lS_w, wS_app, wS_app]
    rfl
theorem join_letters (w : List Bool) : Txt.join "" (w.map lS) = wS w := by
  show Builtin.Str.glued "" (w.map lS) = _
  rw [StrLaws.glued_eq_join, join_ws]
theorem lS_sum : ∀ w : List Bool, ((w.map lS).map (·.length)).sum = w.length
  | [] => rfl
  | b :: w => by
    show 1 + ((w.map lS).map (·.length)).sum = _
    rw [lS_sum w, List.length_cons]
    omega
def pcell (j : Nat) : Cell := (((j : Int) / 2), ((j : Int) / 2 + (j : Int) % 2))
def pathTo (n : Nat) : List Cell := (List.range n).map pcell
theorem pathTo_succ (n : Nat) : pathTo (n + 1) = pathTo n ++ [pcell n] := by
  unfold pathTo
  rw [List.range_succ, List.map_append]
  rfl
theorem path_good : Good (pathTo 15) := by
  refine ⟨?_, ?_, by decide⟩
  · unfold pathTo
    refine List.pairwise_map.2 (List.pairwise_lt_range.imp ?_)
    intro x y h
    show ((x : Int) / 2 < (y : Int) / 2) ∨ ((x : Int) / 2 = (y : Int) / 2 ∧ (x : Int) / 2 + (x : Int) % 2 < (y : Int) / 2 + (y : Int) % 2)
    omega
  · intro c hc
    obtain ⟨j, hj, rfl⟩ := List.mem_map.mp hc
    have := List.mem_range.mp hj
    show 0 ≤ (j : Int) / 2 ∧ (j : Int) / 2 ≤ 7 ∧ 0 ≤ (j : Int) / 2 + (j : Int) % 2 ∧ (j : Int) / 2 + (j : Int) % 2 ≤ 7
    omega
def four : List Cell := [(0, 0), (0, 1), (1, 1), (2, 0)]
theorem four_good : Good four := by
  refine ⟨?_, ?_, by decide⟩
  · simp [four, lt2]
  · simp [four, InGrid]
end KS
namespace KS
open PySem PySem.Spec PyProof.Rows L2
/-! ### zip(t, l): t a tuple, l a list, of one length -/
def ItTL (K : PySem.W.Frag) (a b : Addr) : It where
  go := fun i H => ∃ (ts ls : List V) (x y : V), SqT K H a ts ∧ SqL K H b ls ∧ ts[i]? = some x ∧ ls[i]? = some y
  yld := fun i H v H' => ∃ (T : Addr) (x y : V), v = .ref T ∧ H T = none ∧ H' = upd H T (.tup [x, y]) ∧ (∀ ts, SqT K H a ts → ts[i]? = some x) ∧ (∀ ls, SqL K H b ls → ls[i]? = some y)
  stop := fun i H => ∃ ts ls : List V, SqT K H a ts ∧ SqL K H b ls ∧ ts.length = i ∧ ls.length = i
def TLs (a b z TI TO i1 i2 : Addr) (i : Nat) (h : Heap) : Prop :=
  IsZip h z TI TO .none ∧ IsTupOf2 h TI (.ref i1) (.ref i2) ∧ (∃ x y, IsTupOf2 h TO x y) ∧ h.IsTupleIter i1 a i ∧ h.IsListIter i2 b i
theorem mem5 {c z TI TO i1 i2 : Addr} (h : c ∈ [z, TI, TO, i1, i2]) : c = z ∨ c = TI ∨ c = TO ∨ c = i1 ∨ c = i2 := by simpa using h
theorem out4 {c z TI TO i1 i2 : Addr} (h : c ∉ [z, TI, TO, i1, i2]) : c ≠ z ∧ c ≠ TO ∧ c ≠ i1 ∧ c ≠ i2 := by
  simp only [List.mem_cons, not_or] at h
  exact ⟨h.1, h.2.2.1, h.2.2.2.1, h.2.2.2.2.1⟩
theorem apart_sep {z TI TO i1 i2 a b : Addr} (D : ZipApart z TI TO i1 i2 a b) : ZipSep2 z TI TO i1 i2 [i1, a] [i2, b] where
  TIz := D.TIz
  TOz := D.TOz
  TITO := D.TITO
  TIi1 := D.TIi1
  TIi2 := D.TIi2
  mem1 := List.mem_cons_self
  mem2 := List.mem_cons_self
  zf1 := by simp [D.i1z.symm, D.l1z.symm]
  zf2 := by simp [D.i2z.symm, D.l2z.symm]
  Tf1 := by simp [D.TOi1, D.l1TO.symm]
  Tf2 := by simp [D.TOi2, D.l2TO.symm]
  sep1_2 := by simp [D.i12, D.l2i1.symm]
  sep2_1 := by simp [D.i12.symm, D.l1i2.symm]
theorem tls_lt {a b z TI TO i1 i2 : Addr} {i : Nat} {h : Heap} (st : TLs a b z TI TO i1 i2 i h) {c : Addr} (hc : c ∈ [z, TI, TO, i1, i2]) : ∃ o, h.get? c = some o ∧ ∀ v, o.data ≠ .cell v := by
  obtain ⟨q0, q1, ⟨x, y, q2⟩, ⟨o3, q3, _, d3⟩, ⟨o4, q4, _, d4⟩⟩ := st
  rcases mem5 hc with e | e | e | e | e <;> subst e
  · exact ⟨_, q0, fun v z => nomatch z⟩
  · exact ⟨_, q1, fun v z => nomatch z⟩
  · exact ⟨_, q2, fun v z => nomatch z⟩
  · exact ⟨o3, q3, fun v z => by rw [d3] at z; cases z⟩
  · exact ⟨o4, q4, fun v z => by rw [d4] at z; cases z⟩
theorem turn_TL {P : Program} {w : World} {K : PySem.W.Frag} {elts : List Expr} {kk : Nat} {tpos : Pos} {a b z TI TO i1 i2 : Addr} (D : ZipApart z TI TO i1 i2 a b) :
    Turn P w K (.Tuple elts kk tpos) (ItTL K a b) [z, TI, TO, i1, i2] z (TLs a b z TI TO i1 i2) where
  mem := List.mem_cons_self
  obj := fun i h st c hc => tls_lt st hc
  keep := fun i h h' st k => by
    obtain ⟨q0, q1, ⟨x, y, q2⟩, q3, q4⟩ := st
    exact ⟨k z (by simp) _ q0, k TI (by simp) _ q1, ⟨x, y, k TO (by simp) _ q2⟩, q3.at fun o e => k i1 (by simp) o e, q4.at fun o e => k i2 (by simp) o e⟩
  self := fun A i s Q E st h => wpAny_pyIter_zip st.1 h
  item := by
    intro X hP hw hK hc i pins s σ H E I hf st hg
    subst hP hw hK
    have st0 := st
    obtain ⟨q0, q1, ⟨x0, y0, q2⟩, q3, q4⟩ := st
    obtain ⟨ts, ls, x, y, ht, hl, ex, ey⟩ := hg
    obtain ⟨its, rv, p1, _⟩ := I.tuple ht
    obtain ⟨jts, rw', p2, _⟩ := I.list hl
    obtain ⟨u, hu, ru⟩ := rv.get ex
    obtain ⟨v, hv, rv'⟩ := rw'.get ey
    have n1 : i < its.toArray.size := by
      have := (List.getElem?_eq_some_iff.mp hu).1
      simpa using this
    have n2 : i < jts.toArray.size := by
      have := (List.getElem?_eq_some_iff.mp hv).1
      simpa using this
    have hh : X.A.in1.handled = none := I.ok.hd hc
    have zlt : z < s.heap.objs.size := Heap.lt_size q0
    refine wpAny_pyNext_zipD2_item (apart_sep D) (Draws.tuple hh i1 a D.l1i1 its.toArray) (Draws.list hh i2 b D.l2i2 jts.toArray) q0 q1 q2 ⟨q3, p1⟩ ⟨q4, p2.isList⟩ n1 n2 fun u' v' h1 tk hu' hv' z1 o1 a1 b1 hT sz kp => ?_
    have eu : u' = u := by
      have z : its[i]? = some u' := by simpa using hu'
      rw [hu] at z
      exact (Option.some.inj z).symm
    have ev : v' = v := by
      have z : jts[i]? = some v' := by simpa using hv'
      rw [hv] at z
      exact (Option.some.inj z).symm
    subst eu ev
    refine ⟨_, rfl, wpAny_letOwnedTupleGo_zip (s := { s with heap := h1, toks := tk }) z1 fun h2 z2 sb => ?_⟩
    have hT2 : h2.get? s.heap.objs.size = some { cls := .type "tuple", data := .seq #[u', v'] } := (sb.2 _ (Nat.ne_of_gt zlt)).trans hT
    have nw : ObjOk X.prog X.w (upd H s.heap.objs.size (.tup [x, y])) h2 s.heap.objs.size (.tup [x, y]) := ⟨by show 2 ≤ sizeLine; decide, [u', v'], .cons ru (.cons rv' .nil), ⟨_, hT2, rfl, _, rfl⟩⟩
    have I1 : Inv X pins σ (upd H s.heap.objs.size (.tup [x, y])) { s with heap := h2, toks := tk } := by
      refine I.turnedNew (ch := [z, TI, TO, i1, i2]) (fun c o n e => ?_) hf (Nat.le_refl _) nw
      obtain ⟨n1, n2, n3, n4⟩ := out4 n
      exact (sb.2 c n1).trans (kp c o n1 n2 n3 n4 e)
    refine ⟨.ref s.heap.objs.size, _, I1, rfl, ⟨_, x, y, rfl, I.hok.fresh (Nat.le_refl _), rfl, fun m hm => by rw [I.tuple_inj hm ht]; exact ex, fun m hm => by rw [I.list_inj hm hl]; exact ey⟩, ⟨z2, ?_, ⟨u', v', ?_⟩, ?_, ?_⟩, fun c hcm => ?_⟩
    · exact (sb.2 TI D.TIz).trans (kp TI _ D.TIz D.TITO D.TIi1 D.TIi2 q1)
    · exact (sb.2 TO D.TOz).trans o1
    · exact a1.1.at fun o e => (sb.2 i1 D.i1z).trans e
    · exact b1.1.at fun o e => (sb.2 i2 D.i2z).trans e
    · obtain ⟨o, ho, _⟩ := tls_lt st0 hcm
      rw [upd_ne (Nat.ne_of_lt (Heap.lt_size ho))]
      exact (hf c hcm).1
  done := by
    intro X hP hw hK hc i pins s σ H E I hf st hg
    subst hP hw hK
    obtain ⟨q0, q1, ⟨x0, y0, q2⟩, q3, q4⟩ := st
    obtain ⟨ts, ls, ht, hl, e1, e2⟩ := hg
    obtain ⟨its, rv, p1, _⟩ := I.tuple ht
    obtain ⟨jts, rw', p2, _⟩ := I.list hl
    have m1 : its.toArray.size = i := by
      have := rv.length
      simp
      omega
    have m2 : jts.toArray.size = i := by
      have := rw'.length
      simp
      omega
    have hh : X.A.in1.handled = none := I.ok.hd hc
    refine wpAny_pyNext_zipD2_end (apart_sep D) (Draws.tuple hh i1 a D.l1i1 its.toArray) (Draws.list hh i2 b D.l2i2 jts.toArray) q0 q1 q2 ⟨q3, p1⟩ ⟨q4, p2.isList⟩ (by omega) (by omega) (.inl m1.symm) fun h1 tk kp => ⟨rfl, ?_⟩
    refine I.turnedL (ch := [z, TI, TO, i1, i2]) (fun c o n e => ?_) hf
    obtain ⟨n1, n2, n3, n4⟩ := out4 n
    exact kp c o n1 n2 n3 n4 e
def iZipTL (K : PySem.W.Frag) (ta : TA) : TI := fun σ H R => ta σ H fun vs H1 => ∃ a b ts ls, vs = [.ref a, .ref b] ∧ SqT K H1 a ts ∧ SqL K H1 b ls ∧ R (ItTL K a b) H1
theorem pi_zipTL {X : Cx} {e e2 : Expr} {ta : TA} {p pos tpos : Pos} {elts : List Expr} {kk : Nat} (hg : Gl X "zip") (hm : X.mg "zip" = none) (ha : PA X [e, e2] ta)
    (hs : starEach [e, e2] X.env = (false, eval e X.env) :: starEach [e2] X.env := by rfl) (hpl : (backTo pos (starEach [e2] X.env)).any (·.1) = false := by rfl) :
    PI X (.Tuple elts kk tpos) (.Call (.Name "zip" p) [e, e2] [] pos) (iZipTL X.K ta) := by
  refine ⟨fun pins s σ H R I h => Call_ (ld_blt I hg hm PyProof.Rows.boot_zip (PyProof.Rows.callWith_type1 (thn (ha.run pos pins s σ H _ I h) fun us s1 hh => ?_) hs hpl))⟩
  obtain ⟨vs, H1, I1, r1, a, b, ts, ls, ev, ht, hl, q⟩ := hh
  subst ev
  cases r1 with
  | cons r rr =>
    cases rr with
    | cons r' rr =>
      cases rr
      cases r
      cases r'
      obtain ⟨its, rv, p1, _⟩ := I1.tuple ht
      obtain ⟨jts, rw', p2, _⟩ := I1.list hl
      have la : a < s1.heap.objs.size := by
        obtain ⟨o, ho, _⟩ := id p1
        exact Heap.lt_size ho
      refine zip_begins2 (begins_tuple a its.toArray) (begins_list b jts.toArray) p1 p2.isList fun h1 z1 t1 o1 g1 g2 sz kp => wpAny_pyIter_zip z1 ?_
      have I2 : Inv X pins σ H1 { s1 with heap := h1 } := I1.kept (t' := s1.toks) kp
      refine ⟨_, [s1.heap.objs.size + 4, s1.heap.objs.size + 2, s1.heap.objs.size + 3, s1.heap.objs.size, s1.heap.objs.size + 1], _, _, H1, rfl, I2, turn_TL (PySem.W.ktu_apart s1.heap.objs.size a b la p2.lt), ⟨z1, t1, ⟨_, _, o1⟩, ⟨_, g1, rfl, rfl⟩, ⟨_, g2, rfl, rfl⟩⟩, fun c hc => ?_, q⟩
      have le : s1.heap.objs.size ≤ c := by
        rcases mem5 hc with e | e | e | e | e <;> rw [e] <;> first | exact Nat.le_add_right _ _ | exact Nat.le_refl _
      exact I1.fpOk le (I1.hok.fresh le)
/-- a loop over zip(t, l), of one length -/
theorem for_zipTL {K : PySem.W.Frag} {a b : Addr} {xs ys : List V} {g : TG} {tb : TS} {D : Ends} {σ : L2.St} {H : Hp} (hl : xs.length = ys.length) (Pv : Nat → L2.St → Hp → Prop) (h0 : Pv 0 σ H) (hq : ∀ i σ H, Pv i σ H → SqT K H a xs ∧ SqL K H b ys)
    (hs : ∀ (i : Nat) (x y : V) (T : Addr) (σ : L2.St) (G : Hp), xs[i]? = some x → ys[i]? = some y → Pv i σ G → G T = none → g (.ref T) σ (upd G T (.tup [x, y])) fun σ2 G2 => tb { D with nx := Pv (i + 1), ct := Pv (i + 1), bk := D.nx } σ2 G2) (hd : ∀ σ G, Pv xs.length σ G → D.nx σ G) :
    ∃ W : Nat → Nat → L2.St → Hp → Prop, (∃ m, W 0 m σ H) ∧ ∀ i m σ H, W i m σ H → ((ItTL K a b).stop i H ∧ D.nx σ H) ∨ ((ItTL K a b).go i H ∧ ∃ N : L2.St → Hp → Prop, (∀ σ' H', N σ' H' → ∃ m', m' < m ∧ W (i + 1) m' σ' H') ∧
      ∀ v H', (ItTL K a b).yld i H v H' → g v σ H' fun σ2 H2 => tb { D with nx := N, ct := N, bk := D.nx } σ2 H2) := by
  refine ⟨fun i m σ G => m + i = xs.length ∧ Pv i σ G, ⟨xs.length, rfl, h0⟩, fun i m σ G hw => ?_⟩
  obtain ⟨hm, p⟩ := hw
  obtain ⟨qx, qy⟩ := hq i σ G p
  cases m with
  | zero =>
    have e : i = xs.length := by omega
    subst e
    exact .inl ⟨⟨xs, ys, qx, qy, rfl, hl.symm⟩, hd σ G p⟩
  | succ m =>
    have l1 : i < xs.length := by omega
    have l2 : i < ys.length := by omega
    refine .inr ⟨⟨xs, ys, _, _, qx, qy, List.getElem?_eq_getElem l1, List.getElem?_eq_getElem l2⟩, Pv (i + 1), fun σ' G' p' => ⟨m, Nat.lt_succ_self _, by omega, p'⟩, fun v G' y => ?_⟩
    obtain ⟨T, x, y, rfl, nT, rfl, f1, f2⟩ := y
    exact hs i x y T σ G (f1 xs qx) (f2 ys qy) p nT
end KS
namespace KS
open PySem PySem.Spec PyProof.Rows L2
/-! ### what the program's own helpers keep, for good values -/
def spFF (K : PySem.W.Frag) : Sp := fun xs H Q _ => ∃ (t : Addr) (m : Int) (vs : List Int), xs = [.ref t, .int m] ∧ SqT K H t (vs.map V.int) ∧ vs.Nodup ∧ (∀ v ∈ vs, 1 ≤ v ∧ v ≤ m) ∧ ∀ H', Same H H' → Q .non H'
def spCheckF (K : PySem.W.Frag) : Sp := fun xs H Q _ => ∃ (n : Nat) (t : Addr) (vs : List Int), xs = [.int n, .ref t] ∧ SqT K H t (vs.map V.int) ∧ Vals9 n vs ∧ n ≤ 24 ∧ ∀ H', Same H H' → Q .non H'
def spAlong (K : PySem.W.Frag) : Sp := fun xs H Q _ => ∃ (g t : Addr) (gs : List V) (ls : List (List Int)) (vs : List Int), xs = [.ref g, .ref t] ∧ SqT K H g gs ∧ Paired (TupI K H) gs ls ∧
  (∀ l ∈ ls, (∀ k ∈ l, ∃ j : Nat, k = (j : Int) ∧ j < vs.length) ∧ l.length ≤ 24) ∧ SqT K H t (vs.map V.int) ∧ ∀ H' u, Same H H' → SqT K H' u ((srtTo vs ls).map V.int) → H u = none → Q (.ref u) H'
theorem inV_take {vs : List Int} (nd : vs.Nodup) {i : Nat} {v : Int} (h : vs[i]? = some v) : inV (.int v) ((vs.take i).map V.int) = false := by
  unfold inV
  rw [List.any_eq_false]
  intro x hx
  obtain ⟨y, hy, rfl⟩ := List.mem_map.mp hx
  obtain ⟨j, hj⟩ := List.mem_iff_getElem?.mp hy
  rw [List.getElem?_take] at hj
  split at hj
  · rename_i hlt
    show ¬ ((y == v) = true)
    intro e
    have e' : y = v := by simpa using e
    subst e'
    obtain ⟨l1, e1⟩ := List.getElem?_eq_some_iff.mp h
    obtain ⟨l2, e2⟩ := List.getElem?_eq_some_iff.mp hj
    have := (List.pairwise_iff_getElem.mp nd) j i l2 l1 hlt
    rw [e1, e2] at this
    exact this rfl
  · cases hj
theorem flat_ints (l : List Int) : (l.map V.int).all flatV = true := by
  rw [List.all_eq_true]
  intro x hx
  obtain ⟨y, _, rfl⟩ := List.mem_map.mp hx
  rfl
theorem cut_take {l : List V} {i : Nat} (h : i ≤ l.length) : cutV l none (some (i : Int)) = l.take i := by
  unfold cutV
  have e0 : HT.sIx l.length 0 none = 0 := rfl
  have e1 : HT.sIx l.length l.length (some (i : Int)) = i := by
    rw [HT.sIx_nat]
    omega
  rw [e0, e1]
  simp
theorem cut_not {l : List V} {i : Nat} (h : i < l.length) : ¬ (HT.sIx l.length 0 none = 0 ∧ HT.sIx l.length l.length (some (i : Int)) = l.length) := by
  intro z
  have e1 : HT.sIx l.length l.length (some (i : Int)) = i := by
    rw [HT.sIx_nat]
    omega
  omega
theorem lns_ok {b : Bool} {cs : List Cell} {vs : List Int} (hl : cs.length ≤ 24) (hv : vs.length = cs.length) : ∀ l ∈ lnsOf b cs, (∀ k ∈ l, ∃ j : Nat, k = (j : Int) ∧ j < vs.length) ∧ l.length ≤ 24 := fun l h => by
  have := lns_mem h
  rw [hv]
  exact ⟨this.1, by omega⟩
end KS
namespace KS
open PySem PySem.Spec PyProof.Rows L2
section
variable {K : PySem.W.Frag} {σ : L2.St} {H : Hp} {Q : VK} {ta : TA}
theorem catA_ok2 {a b : Addr} {xs ys : List V} (ha : SqT K H a xs) (hb : SqT K H b ys) (hl : xs.length + ys.length ≤ 64)
    (k : ∀ H' u, Same H H' → SqT K H' u (xs ++ ys) → Q (.ref u) H') : rCatA K (.ref a) (.ref b) H Q := by
  refine ⟨a, b, xs, ys, rfl, rfl, ha, hb, Nat.le_of_lt (small64 hl), fun e => ?_, fun _ e => ?_, fun _ _ p np => ?_⟩
  · subst e
    exact k H b (Same.refl _) hb
  · subst e
    exact k H a (Same.refl _) (by rw [List.append_nil]; exact ha)
  · exact k _ p (same_new np) (SqT.of upd_same)
theorem cut_to2 {xs : List V} {k : Nat} (h : k ≤ xs.length) : cutV xs none (some (k : Int)) = xs.take k := by
  unfold cutV
  rw [HT.sIx_none, HT.sIx_nat, Nat.min_eq_left h]
  simp
theorem cut_from2 {xs : List V} {k : Nat} (h : k ≤ xs.length) : cutV xs (some (k : Int)) none = xs.drop k := by
  unfold cutV
  rw [HT.sIx_none, HT.sIx_nat, Nat.min_eq_left h]
  exact List.take_of_length_le (by rw [List.length_drop]; exact Nat.le_refl _)
theorem slTo_ok2 {a : Addr} {xs : List V} {n : Nat} (ha : SqT K H a xs) (hn : n ≤ xs.length) (k : ∀ H' u, Same H H' → SqT K H' u (xs.take n) → Q (.ref u) H') : rSlA K (.ref a) none (some (n : Int)) H Q := by
  refine ⟨a, xs, rfl, ha, fun z => ?_, fun _ p np => ?_⟩
  · obtain ⟨_, z2⟩ := z
    rw [show HT.sIx xs.length xs.length (some (n : Int)) = min n xs.length from HT.sIx_nat _ _ n] at z2
    have e : n = xs.length := by omega
    refine k H a (Same.refl _) ?_
    rw [e, List.take_length]
    exact ha
  · refine k _ p (same_new np) (SqT.of ?_)
    rw [upd_same, cut_to2 hn]
theorem slFrom_ok2 {a : Addr} {xs : List V} {n : Nat} (ha : SqT K H a xs) (hn : n ≤ xs.length) (k : ∀ H' u, Same H H' → SqT K H' u (xs.drop n) → Q (.ref u) H') : rSlA K (.ref a) (some (n : Int)) none H Q := by
  refine ⟨a, xs, rfl, ha, fun z => ?_, fun _ p np => ?_⟩
  · obtain ⟨z1, _⟩ := z
    rw [show HT.sIx xs.length 0 (some (n : Int)) = min n xs.length from HT.sIx_nat _ _ n] at z1
    refine k H a (Same.refl _) ?_
    rcases Nat.eq_zero_or_pos n with e | e
    · subst e
      exact ha
    · have e2 : xs.length = 0 := by omega
      have e3 := List.eq_nil_of_length_eq_zero e2
      subst e3
      simpa using ha
  · refine k _ p (same_new np) (SqT.of ?_)
    rw [upd_same, cut_from2 hn]
end
end KS
namespace KS
open PySem PySem.Spec PyProof.Rows L2
/-! ### ranked tables of rectangles -/
structure Tab (n : Nat) (vs : List Int) : Prop where
  len : vs.length = n
  nd : vs.Nodup
  bd : ∀ v ∈ vs, 1 ≤ v ∧ v ≤ (n : Int)
theorem Tab.perm {n : Nat} {as bs : List Int} (h : Tab n as) (p : as.Perm bs) : Tab n bs := ⟨p.length_eq ▸ h.len, p.nodup_iff.mp h.nd, fun v m => h.bd v (p.mem_iff.mpr m)⟩
theorem tab_low (n : Nat) : Tab n (rgI 1 ((n : Int) + 1)) := by
  refine ⟨by rw [rgI_len]; omega, rgI_nd _ _, fun v h => ?_⟩
  have := rgI_mem h
  omega
/-- a rectangle's sides -/
structure Sides (r c : Nat) : Prop where
  r1 : 1 ≤ r
  c1 : 1 ≤ c
  rc : r * c ≤ 24
theorem Sides.le {r c : Nat} (h : Sides r c) : r ≤ 24 ∧ c ≤ 24 := by
  have h1 := h.r1
  have h2 := h.c1
  have h3 := h.rc
  constructor
  · have := Nat.le_mul_of_pos_right r h2
    omega
  · have := Nat.le_mul_of_pos_left c h1
    omega
def spRcOk : Sp := fun xs H Q _ => ∃ r c : Nat, xs = [.int (r : Nat), .int (c : Nat)] ∧ Sides r c ∧ Q .non H
def spTabOk (K : PySem.W.Frag) : Sp := fun xs H Q _ => ∃ (n : Nat) (t : Addr) (vs : List Int), xs = [.int (n : Nat), .ref t] ∧ SqT K H t (vs.map V.int) ∧ Tab n vs ∧ ∀ H', Same H H' → Q .non H'
/-- how many values of at least the limit stand in the last rows -/
def lastN (r c : Nat) (vs : List Int) (lim : Int) (k : Nat) : Nat := ((vs.drop ((r - k) * c)).filter fun v => decide (lim ≤ v)).length
def spLast (K : PySem.W.Frag) : Sp := fun xs H Q _ => ∃ (r c k : Nat) (t : Addr) (vs : List Int) (lim : Int), xs = [.int (r : Nat), .int (c : Nat), .ref t, .int lim, .int (k : Nat)] ∧ Sides r c ∧ SqT K H t (vs.map V.int) ∧ Tab (r * c) vs ∧ k ≤ r ∧
  ∀ H', Same H H' → Q (.int (lastN r c vs lim k : Nat)) H'
def rev5 {α : Type} : List α → List α
  | [a, b, c, d, e] => [e, d, c, b, a]
  | _ => []
theorem rev5_rel {zs : List V} {ws : List Value} (r : Vals zs ws) : Vals (rev5 zs) (rev5 ws) := by
  cases r with
  | nil => exact .nil
  | cons r1 r =>
    cases r with
    | nil => exact .nil
    | cons r2 r =>
      cases r with
      | nil => exact .nil
      | cons r3 r =>
        cases r with
        | nil => exact .nil
        | cons r4 r =>
          cases r with
          | nil => exact .nil
          | cons r5 r =>
            cases r with
            | nil => exact .cons r5 (.cons r4 (.cons r3 (.cons r2 (.cons r1 .nil))))
            | cons r6 r => exact .nil
/-- the law's own draws -/
def spSides : Sp := fun xs H Q _ => ∃ (p : Addr) (m : Nat), xs = [.ref p, .int (m : Nat)] ∧ PoolO (H p) ∧ 1 ≤ m ∧ m ≤ 24 ∧ ∀ H' t (r c : Nat), KeepX p H H' → PoolO (H' p) → H' t = some (.tup [.int (r : Nat), .int (c : Nat)]) → Sides r c → r * c ≤ m → Q (.ref t) H'
def spMixed (K : PySem.W.Frag) : Sp := fun xs H Q _ => ∃ (p : Addr) (n : Nat), xs = [.ref p, .int (n : Nat)] ∧ PoolO (H p) ∧ 1 ≤ n ∧ n ≤ 24 ∧ ∀ H' t vs, KeepX p H H' → PoolO (H' p) → SqT K H' t (vs.map V.int) → Tab n vs → Q (.ref t) H'
def spIs : Sp := fun xs H Q _ => ∃ i j : Int, xs = [.int i, .int j] ∧ Q (.bl (decide (i = j))) H
end KS
namespace PySem
namespace XInvalidPlan
open PySem.W PySem.Calls PyProof.Rows PySem.HandSPX
/-! ### the text of __init__ -/
def iA (p1 p2 : Pos) : Arguments := { posonlyargs := [], args := [{ arg := "self", annotation := none, pos := p1 }, { arg := "index", annotation := none, pos := p2 }], vararg := none, kwonlyargs := [], kw_defaults := [], kwarg := none, defaults := [] }
def iB (q1 q2 q3 q4 : Pos) : List Stmt := [.Assign [.Attribute (.Name "self" q1) "index" q2] (.Name "index" q3) q4]
def iS : Scope := { kind := .function, names := [(PySem.Str.ofString "self", .local), (PySem.Str.ofString "index", .local)], isGenerator := false, isCoroutine := false, more := [] }
/-- what the written part says of Low, at C, and of its __init__, at fI -/
structure InvalidPlanTxt (K : Frag) (mg : Str → Option Value) (C fI : Addr) : Prop where
  gC : mg "InvalidPlan" = some (.ref C)
  cls : ∃ nm q N bs bm sn sub ab col dd k0 k1 k2 k3 k5, K.lookup C = some (excClassObj nm q C N bs bm true sn sub ab col dd k0 k1 k2 k3 k5 "ValueError.__new__") ∧ refsVE bm = true
  sa : findIn K (.ref C) "__setattr__" = some (some (.builtin "object.__setattr__"))
  ga : findIn K (.ref C) "__getattribute__" = some (some (.builtin "BaseException.__getattribute__"))
  gg : findIn K (.ref C) "__getattr__" = some none
  noN : findIn K (.ref C) "index" = some none
  iC : findIn K (.ref C) "__init__" = some (some (.ref fI))
  tC : typeIn K (.ref fI) = some (.type "function")
  kC : keepIn K (.ref C) = true
  exC : subIn K (.ref C) (.type "BaseException") = some true
  tyC : typeIn K (.ref C) = some (.type "type")
  hdC : hasDictIn K C = true
  te : exmOne K (.ref C) (.ref C) = some true
  fn : ∃ (oc : Value) (od : Option Addr) (doc pm : Value) (an : Option Addr) (cdv ct : Value) (osl : Array (Option Value)) (p1 p2 q1 q2 q3 q4 : Pos),
    K.lookup fI = some ⟨oc, od, .func (fnOf "__init__" "InvalidPlan.__init__" (iA p1 p2) (iB q1 q2 q3 q4) iS .none .none doc pm an cdv ct), osl⟩ ∧ codeIn K cdv "InvalidPlan.__init__" = true
theorem one_size (v : Value) : [v].length ≤ sizeLine := by
  rw [sizeLine_eq]
  exact (by decide : 1 ≤ 16777216)
theorem kept_but {K : Frag} {h h' : Heap} {x : Addr} (X : K.In h) (hx : K.lookup x = none) (k : ∀ b o, b ≠ x → h.get? b = some o → h'.get? b = some o) : K.In h' := fun a o e =>
  k a o (fun z => by rw [z, hx] at e; cases e) (X a o e)
theorem ldC {M : Model} {s : Shared} {name : Str} {scope : Scope} {L a : Addr} {cd : Value} {m : Str → Option Value} {x : Str} {pos : Pos} {v : Value} {Q : Value → Shared → Prop} {A : Around} {E : Value → Shared → Prop} (hn : s.heap.Ns L m) (hv : m x = some v) (h : Q v s)
    (hk : scope.kind = .function := by rfl) (hl : (envOfC name scope L a cd).kindOf x = some .local := by rfl) (hd : (x == ("__debug__" : Str)) = false := by decide) :
    wpAny M A (eval (.Name x pos) (envOfC name scope L a cd)) Q E s := wpAny_Name (wpAny_loadName_local hk hl hn hv h) hd
/-- what __init__ leaves of a fresh exception at x -/
structure InitEnd (h h' : Heap) (x C dx t1 : Addr) (v : Value) : Prop where
  keep : ∀ b o, b ≠ x → h.get? b = some o → h'.get? b = some o
  obj : h'.get? x = some { cls := .ref C, dict := some dx, data := .fields #[.ref t1, .none, .none, .none, .bool false, .none] }
  dbig : h.objs.size ≤ dx
  dne : dx ≠ x
  ns : h'.Ns1 dx (fun y => if y = "index" then some v else none)
/-- made -/
structure OwnMade (h h' : Heap) (e C d : Addr) (v : Value) : Prop where
  keep : ∀ b o, h.get? b = some o → h'.get? b = some o
  new : h.objs.size ≤ e
  obj : ∃ oe vs, h'.get? e = some oe ∧ oe.cls = .ref C ∧ oe.dict = some d ∧ oe.data = .fields vs ∧ vs[1]? = some .none
  dbig : h.objs.size ≤ d
  dne : d ≠ e
  ns : h'.Ns1 d (fun y => if y = "index" then some v else none)
section
variable {prog : Program} {w : World} {A : Around} {E : Value → Shared → Prop} {R : Result → Shared → Prop} {s : Shared} {K : Frag} {mg : Str → Option Value} {C fI : Addr}
theorem _initInvalidPlan (T : InvalidPlanTxt K mg C fI) {x t0 : Addr} {v : Value} (X : K.In s.heap) (hlim : s.heap.NoLimit) (hx : s.heap.get? x = some (excO C t0)) (hnx : K.lookup x = none) (hroom : A.depth < recursionLimit)
    (hq : ∀ h' tk dx, InitEnd s.heap h' x C dx t0 v → R (.ok (.ret .none)) { s with heap := h', toks := tk }) :
    codeAny (model prog w) A (.call (.ref fI) ⟨[.ref x, v], []⟩) R s := by
  obtain ⟨oc, od, doc, pm, an, cdv, ct, osl, p1, p2, q1, q2, q3, q4, ho, hcd⟩ := T.fn
  obtain ⟨nm, q, N, bs, bm, sn, sub, ab, col, dd, k0, k1, k2, k3, k5, hC, hbm⟩ := T.cls
  have hcl : clsIn K C = some { name := nm, bases := bs, mro := .ref C :: bm, ns := N, qualname := q, hasDict := true, slotNames := sn, subclasses := sub, abstract := ab, collection := col, hasDel := false } := by unfold clsIn; rw [hC] <;> rfl
  refine Att.call_fn (binds := [("self", .ref x), ("index", v)]) X hlim ho hcd hroom (BindsTo.of_eq (by first | rfl | with_unfolding_all rfl)) (by first | rfl | decide | with_unfolding_all rfl) (fun s₁ IC => ?_) rfl rfl rfl
  obtain ⟨h₁, tk₁, rfl⟩ := IC.toInCall.same
  have k : ∀ b o, s.heap.get? b = some o → h₁.get? b = some o := IC.toInCall.keep
  have hn := IC.toInCall.ns
  have hxL : s.heap.objs.size ≠ x := Nat.ne_of_gt (Heap.lt_size hx)
  have X₁ : K.In h₁ := X.keeps k
  have hx₁ := k _ _ hx
  -- self.f = f
  show wpAny _ _ (execs _ _) _ _ _
  refine wpAny_execs_cons (plainObj_wpAny_Assign_Attribute ?_)
  refine ldC (v := v) hn (by first | rfl | with_unfolding_all rfl | kernel_rfl) (ldC (v := .ref x) hn (by first | rfl | with_unfolding_all rfl | kernel_rfl) ?_)
  refine set_plain X₁ (ox := excO C t0) (od := none) ⟨hx₁, rfl, rfl, trivial⟩ T.sa ?_
  refine exc_osa X₁ hx₁ hcl (show refsVE (.ref C :: bm) = true from hbm) rfl T.noN (fun h₃ tk₃ dx k₃ dn dne hx₃ hn₃ => ?_)
  show wpAny _ _ (execs _ _) _ _ _
  have z : s.heap.objs.size < h₁.objs.size := hn.lt
  exact wpAny_execs_nil (hq h₃ tk₃ dx ⟨fun b o hb e => k₃ b o hb (k b o e), hx₃, Nat.le_of_lt (Nat.lt_of_lt_of_le z dn), dne, hn₃⟩)
theorem _madeInvalidPlan (T : InvalidPlanTxt K mg C fI) {v : Value} (X : K.In s.heap) (hlim : s.heap.NoLimit) (hroom : A.depth + 1 < recursionLimit)
    (hq : ∀ h' tk e d, OwnMade s.heap h' e C d v → R (.ok (.ret (.ref e))) { s with heap := h', toks := tk }) :
    codeAny (model prog w) A (.call (.ref C) ⟨[v], []⟩) R s := by
  obtain ⟨nm, q, N, bs, bm, sn, sub, ab, col, dd, k0, k1, k2, k3, k5, hC, hbm⟩ := T.cls
  obtain ⟨hp, g, dr, tk, os⟩ := s
  have k : ∀ b o, hp.get? b = some o → ((hp.push (kdv_tup [v])).push (excO C hp.objs.size)).get? b = some o := fun b o e => Heap.get?_push_of_some _ (Heap.get?_push_of_some _ e)
  have hget : ((hp.push (kdv_tup [v])).push (excO C hp.objs.size)).get? (hp.objs.size + 1) = some (excO C hp.objs.size) := by heap_get
  have hnx : K.lookup (hp.objs.size + 1) = none := by
    cases e : K.lookup (hp.objs.size + 1) with
    | none => rfl
    | some o =>
      have z : hp.get? (hp.objs.size + 1) = some o := X _ _ e
      exact absurd (Nat.lt_of_succ_lt (Heap.lt_size z)) (Nat.lt_irrefl _)
  refine call_own F.excBase_ValueError (fun X => refsVE_contains X bm hbm) (X _ _ hC) (looks_findIn X T.iC) (fun self => bind_fn X self T.tC) (one_size v) ?_
  refine _initInvalidPlan (s := ⟨(hp.push (kdv_tup [v])).push (excO C hp.objs.size), g, dr, tk, os⟩) T (X.keeps k) (hlim.keeps k) hget hnx ?_ fun h' tk' dx ⟨k', hx, dn, dne, hns⟩ => ?_
  · show A.depth + 1 < recursionLimit
    exact hroom
  · have old : ∀ b o, hp.get? b = some o → h'.get? b = some o := fun b o e => k' b o (Nat.ne_of_lt (Nat.lt_succ_of_lt (Heap.lt_size e))) (k b o e)
    have z : hp.objs.size + 1 + 1 ≤ dx := by
      first
        | (simpa only [Heap.size_push] using dn)
        | exact dn
        | (have q := dn; rw [Heap.size_push, Heap.size_push] at q; exact q)
    exact ⟨rfl, hq h' tk' (hp.objs.size + 1) dx ⟨old, Nat.le_succ _, ⟨_, _, hx, rfl, rfl, rfl, rfl⟩, Nat.le_trans (Nat.le_trans (Nat.le_succ _) (Nat.le_succ _)) z, dne, hns⟩⟩
end
end XInvalidPlan
end PySem
namespace L2
open PySem PySem.Spec PyProof.Rows
theorem relO_InvalidPlan {v : V} {v' : Value} (r : RelV v v') (f : Str) : RelO (List.lookup f [(("index" : Str), v)]) (if f = "index" then some v' else none) := by
  by_cases hw : f = "index"
  · subst hw
    rw [if_pos rfl]
    have q : List.lookup ("index" : Str) [(("index" : Str), v)] = some v := by simp [List.lookup]
    rw [q]
    exact r
  · rw [if_neg hw]
    have qw : (f == ("index" : Str)) = false := by simpa using hw
    have q2 : List.lookup f [(("index" : Str), v)] = none := by simp [List.lookup, qw]
    rw [q2]
    trivial
section
variable {X : Cx} {C fI : Addr}
/-- Low(e) -/
def tMkInvalidPlan (C : Addr) (ta : TA) : St → Hp → XK → Prop := fun σ H Q => ta σ H fun vs H1 => ∃ v, vs = [v] ∧ ∀ d, H1 d = none → Q (.ref C) (some d) (upd H1 d (.xd [(("index" : Str), v)]))
theorem pmk_InvalidPlan {a : Expr} {ta : TA} {p pos : Pos} {k : Nat} (T : PySem.XInvalidPlan.InvalidPlanTxt X.K X.mg C fI) (hr : Room k X.A) (ha : PA X [a] ta) (hg : Gl X "InvalidPlan" := by rfl)
    (he : starEach (a :: []) X.env = (false, eval a X.env) :: starEach [] X.env := by rfl) (hpl : (backTo pos (starEach [] X.env)).any (·.1) = false := by rfl) :
    PMk X (.Call (.Name "InvalidPlan" p) [a] [] pos) (tMkInvalidPlan C ta) := by
  intro pins s σ H Q I h
  refine wpAny_Call_Name_kw (ld_glob I hg T.gC ?_)
  refine PySem.W.callWith_K (h₀ := X.base) I.ok.mod.kin T.kC (thn (ha.run pos pins s σ H _ I h) fun us s1 hh => ?_) he hpl
  obtain ⟨vs, H1, I1, r1, v, ev, q1⟩ := hh
  subst ev
  refine ⟨I1.kIn, ?_⟩
  cases r1 with
  | cons rv rn =>
    rename_i v' us'
    cases rn
    show wpAny _ _ (call (.ref C) [v']) _ _ _
    have hlim := I1.nolimit
    obtain ⟨hp, g, dr, tk, os⟩ := s1
    refine wpAny_call (PySem.XInvalidPlan._madeInvalidPlan T I1.kIn hlim (by have := hr.dp; omega) fun h' tk' e d M => ?_)
    show MkP X pins σ Q (.ref e) ⟨h', g, dr, tk', os⟩
    obtain ⟨oe, fv, hoe, hc, hd, hdat, h1⟩ := M.obj
    have hns := M.ns
    obtain ⟨G', g1, g2⟩ := restrict h' fun b => decide (b ≠ e)
    have gk : ∀ b, b ≠ e → G'.get? b = h'.get? b := fun b hb => g1 b (decide_eq_true hb)
    have ge : G'.get? e = none := g2 e (by simp)
    have old : ∀ b o, hp.get? b = some o → G'.get? b = some o := fun b o q => (gk b (Nat.ne_of_lt (Nat.lt_of_lt_of_le (Heap.lt_size q) M.new))).trans (M.keep b o q)
    have ob : ObjOk X.prog X.w (upd H1 d (.xd [(("index" : Str), v)])) G' d (.xd [(("index" : Str), v)]) :=
      ⟨_, hns.at (fun o q => (gk d M.dne).trans q), fun f => relO_InvalidPlan rv f⟩
    have J : Inv X pins σ (upd H1 d (.xd [(("index" : Str), v)])) ⟨G', g, dr, tk', os⟩ := I1.laid (t' := tk') old M.dbig ob
    refine ⟨e, oe, fv, ⟨G', g, dr, tk', os⟩, _, .ref C, some d, rfl, J, fun b o q => ?_, ge, hoe, ⟨hc, hd⟩, hdat, h1, ?_, rfl, I1.bare, raises_own T.exC T.tyC, q1 d (I1.hok.fresh M.dbig)⟩
    · by_cases hb : b = e
      · have q' : G'.get? b = some o := q
        rw [hb, ge] at q'; cases q'
      · exact (gk b hb).symm.trans q
    · rw [upd_ne (Ne.symm M.dne)]
      exact I1.hok.fresh M.new
/-- raise C(e) -/
def tRaiseInvalidPlan (C : Addr) (W : WX) (ta : TA) : TS := fun _ σ H => tMkInvalidPlan C ta σ H fun cls d H' => W cls d σ H'
theorem ps_raiseInvalidPlan {a : Expr} {ta : TA} {W : WX} {p pos pos2 : Pos} {k : Nat} (hc : X.calm = true) (T : PySem.XInvalidPlan.InvalidPlanTxt X.K X.mg C fI) (hr : Room k X.A) (tk : Takes X W) (ha : PA X [a] ta) (hg : Gl X "InvalidPlan" := by rfl)
    (he : starEach (a :: []) X.env = (false, eval a X.env) :: starEach [] X.env := by rfl) (hpl : (backTo pos (starEach [] X.env)).any (·.1) = false := by rfl) :
    PS X (.Raise (some (.Call (.Name "InvalidPlan" p) [a] [] pos)) none pos2) (tRaiseInvalidPlan C W ta) := ps_raise hc tk (pmk_InvalidPlan T hr ha hg he hpl)
/-- x.f, low the exception that the suite holds (at a; its class cls, its dict d) -/
def tByInvalidPlan (C : Addr) (a : Addr) (cls : Value) (d : Option Addr) (te : TE) : TE := fun σ H Q => te σ H fun x H1 => x = .ref a ∧ cls = .ref C ∧ ∃ (dd : Addr) (v : V), d = some dd ∧ H1 dd = some (.xd [(("index" : Str), v)]) ∧ Q v H1
theorem pe_byInvalidPlan {a : Addr} {oe : Obj} {cls : Value} {d : Option Addr} {pn : List (Addr × Obj)} {e : Expr} {te : TE} {pos : Pos} (T : PySem.XInvalidPlan.InvalidPlanTxt X.K X.mg C fI) (hz : Zc cls d oe) (hf : ∃ vs, oe.data = .fields vs) (he : PE (X.suite a ((a, oe) :: pn)) e te)
    (hb : attributeBase e "index" X.env (eval e X.env) = eval e X.env := by rfl) :
    PE (X.suite a ((a, oe) :: pn)) (.Attribute e "index" pos) (tByInvalidPlan C a cls d te) := by
  refine ⟨fun pins s σ H Q I h => ?_⟩
  refine attr_of hb (thn (he.run pins s σ H _ I h) fun u s1 hh => ?_)
  obtain ⟨x, H1, I1, rx, ex, ec, dd, v, ed, ea, q⟩ := hh
  subst ex
  obtain rfl : u = Value.ref a := rx
  subst ec
  subst ed
  obtain ⟨ha, _⟩ := I1.pin (a, oe) (List.mem_append_left _ List.mem_cons_self)
  obtain ⟨vs, hd⟩ := hf
  have hx : ObjOk X.prog X.w H1 s1.heap dd (.xd [(("index" : Str), v)]) := I1.hok dd _ ea
  obtain ⟨mA, hns, hr⟩ := hx
  obtain ⟨od, ho, hl⟩ := lookIn_ns hns
  have l : List.lookup ("index" : Str) [(("index" : Str), v)] = some v := by simp [List.lookup]
  obtain ⟨u, hu, ru⟩ := RelO.some_of (v := v) (o := mA "index") (by rw [← l]; exact hr "index")
  have J : PySem.W.InstAt s1.heap a oe C (some od) := ⟨ha, hz.1, by unfold PySem.W.notCls; rw [hd] <;> rfl, by rw [hz.2]; exact ho⟩
  exact HandSPX.exc_get I1.kIn J T.ga T.gg T.exC (PySem.W.findObj_own T.hdC T.noN rfl (by rw [hl, hu])) (handed_of ru) ⟨v, H1, I1.tok _, ru, q⟩
end
end L2

namespace KS
open PySem PySem.Spec PyProof.Rows L2
theorem exm_self {K : PySem.W.Frag} {S : Addr} (h1 : PySem.W.subIn K (.ref S) (.type "BaseException") = some true) (h2 : PySem.W.isClsIn K S = true) (h3 : PySem.W.typeIn K (.ref S) = some (.type "type")) (h4 : PySem.W.subIn K (.ref S) (.ref S) = some true) :
    PySem.W.exmOne K (.ref S) (.ref S) = some true := by
  have e1 : (PySem.W.subIn K (.ref S) (.type "BaseException") == some true) = true := by rw [h1] <;> rfl
  have e2 : ((PySem.W.clsIn K S).isSome && PySem.W.typeIn K (.ref S) == some (.type "type")) = true := by
    have h2' : (PySem.W.clsIn K S).isSome = true := h2
    rw [h2', h3] <;> rfl
  show (if (PySem.W.subIn K (.ref S) (.type "BaseException") == some true) = true then (if ((PySem.W.clsIn K S).isSome && PySem.W.typeIn K (.ref S) == some (.type "type")) = true then PySem.W.subIn K (.ref S) (.ref S) else none) else none) = some true
  rw [if_pos e1, if_pos e2]
  exact h4
end KS
namespace KS
open PySem PySem.Spec PyProof.Rows L2
/-! ### things of any kind, as is_plan and its law look at them -/
inductive Oth (K : PySem.W.Frag) (H : Hp) : V → String → Prop
  | non : Oth K H .non "NoneType"
  | bl (b : Bool) : Oth K H (.bl b) "bool"
  | int (i : Int) : Oth K H (.int i) "int"
  | str (x : Str) : Oth K H (.str x) "str"
  | lst {a : Addr} {xs : List V} : H a = some (.lst xs) → Oth K H (.ref a) "list"
  | dct {a : Addr} {kvs : List (Key × V)} : H a = some (.dK kvs) → Oth K H (.ref a) "dict"
  | tup {a : Addr} {xs : List V} : SqT K H a xs → Oth K H (.ref a) "tuple"
theorem Oth.ty {K : PySem.W.Frag} {H : Hp} {v : V} {t : String} (h : Oth K H v t) : TyX K H v (.type t) := by
  cases h with
  | non => exact .base .non
  | bl b => exact .base (.bl b)
  | int i => exact .base (.int i)
  | str x => exact .base (.str x)
  | lst e => exact .base (.lst e)
  | dct e => exact .base (.dK e)
  | tup e => exact tyx_tup e
/-- a number of a row or column (true), or a known other thing -/
def PlR (K : PySem.W.Frag) (H : Hp) (v : V) : Bool → Prop
  | true => ∃ i, v = .int i ∧ 0 ≤ i ∧ i ≤ 7
  | false => (∃ i, v = .int i ∧ ¬ (0 ≤ i ∧ i ≤ 7)) ∨ ∃ t, Oth K H v t ∧ t ≠ "int"
/-- an int between bounds (true), or a known other thing -/
def BwR (K : PySem.W.Frag) (H : Hp) (v : V) (lo hi : Int) : Bool → Prop
  | true => ∃ i, v = .int i ∧ lo ≤ i ∧ i ≤ hi
  | false => (∃ i, v = .int i ∧ ¬ (lo ≤ i ∧ i ≤ hi)) ∨ ∃ t, Oth K H v t ∧ t ≠ "int"
def spBetweenG (K : PySem.W.Frag) : Sp := fun vs H Q _ => ∃ (v : V) (lo hi : Int) (b : Bool), vs = [v, .int lo, .int hi] ∧ BwR K H v lo hi b ∧ Q (.bl b) H
theorem bw_of_pl {K : PySem.W.Frag} {H : Hp} {v : V} {b : Bool} (h : PlR K H v b) : BwR K H v 0 7 b := by
  cases b <;> exact h
/-- a cell, or a known other thing -/
def ElR (K : PySem.W.Frag) (H : Hp) (x : V) : Option Cell → Prop
  | some c => CellAt K H x c ∧ InGrid c
  | none => (∃ t, Oth K H x t ∧ t ≠ "tuple") ∨ (∃ t ys, x = .ref t ∧ SqT K H t ys ∧ ys.length ≠ 2) ∨
      ∃ t y0 y1 b0 b1, x = .ref t ∧ SqT K H t [y0, y1] ∧ PlR K H y0 b0 ∧ PlR K H y1 b1 ∧ (b0 && b1) = false
abbrev Els (K : PySem.W.Frag) (H : Hp) : List V → List (Option Cell) → Prop := Paired (ElR K H)
/-- the first i elements are cells that ascend -/
def OkTo (rs : List (Option Cell)) (i : Nat) : Prop := ∀ j, j < i → ∃ c, rs[j]? = some (some c) ∧ ∀ k, j = k + 1 → ∃ c', rs[k]? = some (some c') ∧ lt2 c' c
def BadAt (rs : List (Option Cell)) (i : Nat) : Prop := rs[i]? = some none ∨ ∃ c c' k, rs[i]? = some (some c) ∧ i = k + 1 ∧ rs[k]? = some (some c') ∧ ¬ lt2 c' c
inductive Verd | ok | non | at (i : Nat)
/-- what a thing is worth as a plan -/
def PlanV (K : PySem.W.Frag) (H : Hp) (v : V) : Verd → Prop
  | .ok => ∃ a xs rs, v = .ref a ∧ SqT K H a xs ∧ 1 ≤ xs.length ∧ xs.length ≤ 24 ∧ Els K H xs rs ∧ OkTo rs rs.length
  | .non => (∃ t, Oth K H v t ∧ t ≠ "tuple") ∨ ∃ a xs, v = .ref a ∧ SqT K H a xs ∧ (xs.length = 0 ∨ 24 < xs.length)
  | .at i => ∃ a xs rs, v = .ref a ∧ SqT K H a xs ∧ 1 ≤ xs.length ∧ xs.length ≤ 24 ∧ Els K H xs rs ∧ OkTo rs i ∧ BadAt rs i
def Verd.good : Verd → Bool
  | .ok => true
  | _ => false
theorem lt2_dec (a b : Cell) : lt2 a b ∨ ¬ lt2 a b := Classical.em _
/-- each list of verdicts has a first fault, or none -/
theorem first_bad (rs : List (Option Cell)) : ∀ n, n ≤ rs.length → OkTo rs n ∨ ∃ i, i < n ∧ OkTo rs i ∧ BadAt rs i
  | 0, _ => .inl fun j hj => absurd hj (Nat.not_lt_zero _)
  | n + 1, h => by
    rcases first_bad rs n (by omega) with ok | ⟨i, h1, h2, h3⟩
    · have hn : n < rs.length := by omega
      cases e : rs[n]? with
      | none =>
        have := List.getElem?_eq_none_iff.mp e
        omega
      | some o =>
        cases o with
        | none => exact .inr ⟨n, by omega, ok, .inl e⟩
        | some c =>
          have fin : (∀ k, n = k + 1 → ∃ c', rs[k]? = some (some c') ∧ lt2 c' c) → OkTo rs (n + 1) := fun q j hj => by
            by_cases z : j < n
            · exact ok j z
            · have : j = n := by omega
              subst this
              exact ⟨c, e, q⟩
          cases n with
          | zero => exact .inl (fin fun k z => by omega)
          | succ m =>
            obtain ⟨c', e', _⟩ := ok m (by omega)
            rcases lt2_dec c' c with z | z
            · exact .inl (fin fun k hk => by
                have : k = m := by omega
                subst this
                exact ⟨c', e', z⟩)
            · exact .inr ⟨m + 1, by omega, ok, .inr ⟨c, c', m, e, rfl, e', z⟩⟩
    · exact .inr ⟨i, by omega, h2, h3⟩
/-- a tuple whose elements are known has a worth -/
theorem planV_of {K : PySem.W.Frag} {H : Hp} {a : Addr} {xs : List V} {rs : List (Option Cell)} (h : SqT K H a xs) (e : Els K H xs rs) : ∃ v, PlanV K H (.ref a) v := by
  by_cases c : xs.length = 0 ∨ 24 < xs.length
  · exact ⟨.non, .inr ⟨a, xs, rfl, h, c⟩⟩
  · have hl := Paired.length e
    rcases first_bad rs rs.length (Nat.le_refl _) with ok | ⟨i, _, h2, h3⟩
    · exact ⟨.ok, a, xs, rs, rfl, h, by omega, by omega, e, ok⟩
    · exact ⟨.at i, a, xs, rs, rfl, h, by omega, by omega, e, h2, h3⟩
theorem els_cells {K : PySem.W.Frag} {H : Hp} : ∀ {xs : List V} {cs : List Cell}, CellsAt K H xs cs → (∀ c ∈ cs, InGrid c) → Els K H xs (cs.map some)
  | _, _, .nil, _ => .nil
  | _, _, .cons r t, g => .cons ⟨r, g _ List.mem_cons_self⟩ (els_cells t fun c hc => g c (List.mem_cons_of_mem _ hc))
theorem okTo_good {cs : List Cell} (h : cs.Pairwise lt2) : OkTo (cs.map some) (cs.map some).length := by
  intro j hj
  rw [List.length_map] at hj
  refine ⟨cs[j], by rw [List.getElem?_map, List.getElem?_eq_getElem hj]; rfl, fun k hk => ?_⟩
  subst hk
  have hk : k < cs.length := by omega
  exact ⟨cs[k], by rw [List.getElem?_map, List.getElem?_eq_getElem hk]; rfl, (List.pairwise_iff_getElem.mp h) k (k + 1) hk hj (by omega)⟩
theorem planV_good {K : PySem.W.Frag} {H : Hp} {a : Addr} {cs : List Cell} (h : PlanAt K H a cs) (g : Good cs) (hl : cs.length ≤ 24) : PlanV K H (.ref a) .ok := by
  obtain ⟨xs, h1, h2⟩ := h
  have hlen := Paired.length h2
  have hpos : 0 < cs.length := by
    rcases Nat.eq_zero_or_pos cs.length with z | z
    · exact absurd (List.eq_nil_of_length_eq_zero z) g.ne
    · exact z
  exact ⟨a, xs, cs.map some, rfl, h1, by omega, by omega, els_cells h2 g.grid, okTo_good g.asc⟩
/-! ### what stays -/
theorem Oth.same {K : PySem.W.Frag} {H H' : Hp} {v : V} {t : String} (s : Same H H') (h : Oth K H v t) : Oth K H' v t := by
  cases h with
  | non => exact .non
  | bl b => exact .bl b
  | int i => exact .int i
  | str x => exact .str x
  | lst e => exact .lst (s _ _ e)
  | dct e => exact .dct (s _ _ e)
  | tup e => exact .tup (same_seqT s e)
theorem PlR.same {K : PySem.W.Frag} {H H' : Hp} {v : V} {b : Bool} (s : Same H H') (h : PlR K H v b) : PlR K H' v b := by
  cases b with
  | true => exact h
  | false =>
    rcases h with h | ⟨t, h, n⟩
    · exact .inl h
    · exact .inr ⟨t, h.same s, n⟩
theorem ElR.same {K : PySem.W.Frag} {H H' : Hp} {x : V} {o : Option Cell} (s : Same H H') (h : ElR K H x o) : ElR K H' x o := by
  cases o with
  | some c => exact ⟨h.1.kt (.of_same s), h.2⟩
  | none =>
    rcases h with ⟨t, h, n⟩ | ⟨t, ys, e, h, n⟩ | ⟨t, y0, y1, b0, b1, e, h, p0, p1, n⟩
    · exact .inl ⟨t, h.same s, n⟩
    · exact .inr (.inl ⟨t, ys, e, same_seqT s h, n⟩)
    · exact .inr (.inr ⟨t, y0, y1, b0, b1, e, same_seqT s h, p0.same s, p1.same s, n⟩)
theorem els_same {K : PySem.W.Frag} {H H' : Hp} (s : Same H H') {xs : List V} {rs : List (Option Cell)} (h : Els K H xs rs) : Els K H' xs rs := Paired.mono (fun _ _ q => q.same s) h
theorem PlanV.same {K : PySem.W.Frag} {H H' : Hp} {v : V} {b : Verd} (s : Same H H') (h : PlanV K H v b) : PlanV K H' v b := by
  cases b with
  | ok =>
    obtain ⟨a, xs, rs, e, h1, h2, h3, h4, h5⟩ := h
    exact ⟨a, xs, rs, e, same_seqT s h1, h2, h3, els_same s h4, h5⟩
  | non =>
    rcases h with ⟨t, h, n⟩ | ⟨a, xs, e, h, n⟩
    · exact .inl ⟨t, h.same s, n⟩
    · exact .inr ⟨a, xs, e, same_seqT s h, n⟩
  | «at» i =>
    obtain ⟨a, xs, rs, e, h1, h2, h3, h4, h5⟩ := h
    exact ⟨a, xs, rs, e, same_seqT s h1, h2, h3, els_same s h4, h5⟩
/-! ### the promises -/
def spWholeG (K : PySem.W.Frag) : Sp := fun vs H Q _ => ∃ (v : V) (t : String), vs = [v] ∧ Oth K H v t ∧ Q (.bl (decide (t = "int"))) H
def spPlaceG (K : PySem.W.Frag) : Sp := fun vs H Q _ => ∃ (v : V) (b : Bool), vs = [v] ∧ PlR K H v b ∧ Q (.bl b) H
def spIsCellG (K : PySem.W.Frag) : Sp := fun vs H Q _ => ∃ (v : V) (o : Option Cell), vs = [v] ∧ ElR K H v o ∧ ∀ H', Same H H' → Q (.bl o.isSome) H'
def vIdx : Verd → V
  | .at i => .int (i : Nat)
  | _ => .non
def spCheckG (K : PySem.W.Frag) (C : Addr) : Sp := fun vs H Q E => ∃ (v : V) (b : Verd), vs = [v] ∧ PlanV K H v b ∧ (b.good = true → ∀ H', Same H H' → Q .non H') ∧
  (b.good = false → ∀ H' d, Same H H' → H d = none → H' d = some (.xd [(("index" : Str), vIdx b)]) → E (.ref C) (some d) H')
def spIsPlan (K : PySem.W.Frag) : Sp := fun vs H Q _ => ∃ (v : V) (b : Verd), vs = [v] ∧ PlanV K H v b ∧ ∀ H', Same H H' → Q (.bl b.good) H'
theorem le2_iff {a b : Cell} : Ob.lexAt (fun j => decide (([b.1, b.2] : List Int).getD j 0 = ([a.1, a.2] : List Int).getD j 0)) (fun j => decide (([b.1, b.2] : List Int).getD j 0 ≤ ([a.1, a.2] : List Int).getD j 0)) (decide (([b.1, b.2] : List Int).length ≤ ([a.1, a.2] : List Int).length)) 0 (min ([b.1, b.2] : List Int).length ([a.1, a.2] : List Int).length) = true ↔ ¬ lt2 a b := by
  constructor
  · intro h z
    rw [not_le2 z] at h
    cases h
  · intro h
    show Ob.lexAt _ _ _ 0 2 = true
    rw [Ob.lexAt_succ, Ob.lexAt_succ]
    show (if decide (b.1 = a.1) = true then (if decide (b.2 = a.2) = true then _ else decide (b.2 ≤ a.2)) else decide (b.1 ≤ a.1)) = true
    unfold lt2 at h
    by_cases e1 : b.1 = a.1
    · rw [if_pos (by simpa using e1)]
      by_cases e2 : b.2 = a.2
      · rw [if_pos (by simpa using e2)]
        rfl
      · rw [if_neg (by simpa using e2)]
        simp
        omega
    · rw [if_neg (by simpa using e1)]
      simp
      omega
/-- isinstance's answers -/
theorem kit_int {K : PySem.W.Frag} {H : Hp} {v : V} {t : String} (h : Oth K H v t) : PySem.W.kitOne K (.type t) (.type "int") = some (decide (t = "int" ∨ t = "bool")) := by
  cases h <;> exact kit_ty (by decide +kernel)
theorem kit_bool {K : PySem.W.Frag} {H : Hp} {v : V} {t : String} (h : Oth K H v t) : PySem.W.kitOne K (.type t) (.type "bool") = some (decide (t = "bool")) := by
  cases h <;> exact kit_ty (by decide +kernel)
theorem kit_tuple {K : PySem.W.Frag} {H : Hp} {v : V} {t : String} (h : Oth K H v t) : PySem.W.kitOne K (.type t) (.type "tuple") = some (decide (t = "tuple")) := by
  cases h <;> exact kit_ty (by decide +kernel)
end KS
namespace KS
open PySem PySem.Spec PyProof.Rows L2
theorem ok_notBad {rs : List (Option Cell)} {n i : Nat} (h : OkTo rs n) (hi : i < n) : ¬ BadAt rs i := by
  obtain ⟨c, e, k⟩ := h i hi
  rintro (z | ⟨c1, c2, j, e1, e2, e3, e4⟩)
  · rw [e] at z
    cases z
  · rw [e] at e1
    cases e1
    obtain ⟨c3, e5, e6⟩ := k j e2
    rw [e3] at e5
    cases e5
    exact e4 e6
theorem bad_lt {rs : List (Option Cell)} {i : Nat} (h : BadAt rs i) : i < rs.length := by
  rcases h with z | ⟨c1, c2, j, e1, _⟩
  · exact (List.getElem?_eq_some_iff.mp z).1
  · exact (List.getElem?_eq_some_iff.mp e1).1
/-- the two ways of a tuple of a right length -/
def TwoWays (rs : List (Option Cell)) (b : Verd) : Prop := (b.good = true ∧ OkTo rs rs.length) ∨ ∃ i, b = .at i ∧ OkTo rs i ∧ BadAt rs i
theorem TwoWays.bad {rs : List (Option Cell)} {b : Verd} {i : Nat} (h : TwoWays rs b) (ok : OkTo rs i) (bad : BadAt rs i) : b = .at i := by
  rcases h with ⟨_, h⟩ | ⟨j, e, h1, h2⟩
  · exact absurd bad (ok_notBad h (bad_lt bad))
  · have : i = j := by
      rcases Nat.lt_trichotomy i j with z | z | z
      · exact absurd bad (ok_notBad h1 z)
      · exact z
      · exact absurd h2 (ok_notBad ok z)
    rw [this]
    exact e
theorem TwoWays.ok {rs : List (Option Cell)} {b : Verd} (h : TwoWays rs b) (ok : OkTo rs rs.length) : b.good = true := by
  rcases h with ⟨h, _⟩ | ⟨j, e, h1, h2⟩
  · exact h
  · exact absurd h2 (ok_notBad ok (bad_lt h2))
theorem PlanV.split {K : PySem.W.Frag} {H : Hp} {v : V} {b : Verd} (h : PlanV K H v b) : (b = .non ∧ ((∃ t, Oth K H v t ∧ t ≠ "tuple") ∨ ∃ a xs, v = .ref a ∧ SqT K H a xs ∧ (xs.length = 0 ∨ 24 < xs.length))) ∨
    ∃ a xs rs, v = .ref a ∧ SqT K H a xs ∧ 1 ≤ xs.length ∧ xs.length ≤ 24 ∧ Els K H xs rs ∧ TwoWays rs b := by
  cases b with
  | ok =>
    obtain ⟨a, xs, rs, e, h1, h2, h3, h4, h5⟩ := h
    exact .inr ⟨a, xs, rs, e, h1, h2, h3, h4, .inl ⟨rfl, h5⟩⟩
  | non => exact .inl ⟨rfl, h⟩
  | «at» i =>
    obtain ⟨a, xs, rs, e, h1, h2, h3, h4, h5, h6⟩ := h
    exact .inr ⟨a, xs, rs, e, h1, h2, h3, h4, .inr ⟨i, rfl, h5, h6⟩⟩
theorem okTo_succ {rs : List (Option Cell)} {i : Nat} {c : Cell} (h : OkTo rs i) (e : rs[i]? = some (some c)) (k : ∀ j, i = j + 1 → ∃ c', rs[j]? = some (some c') ∧ lt2 c' c) : OkTo rs (i + 1) := fun j hj => by
  by_cases z : j < i
  · exact h j z
  · have : j = i := by omega
    subst this
    exact ⟨c, e, k⟩
end KS
namespace KS
open PySem PySem.Spec PyProof.Rows L2
section
variable {K : PySem.W.Frag} {H H' : Hp} {p : Addr}
theorem Oth.keepX {v : V} {t : String} (hp : PoolO (H p)) (hp' : PoolO (H' p)) (k : KeepX p H H') (h : Oth K H v t) : Oth K H' v t := by
  obtain ⟨x1, x2, x3, e1, _⟩ := hp
  cases h with
  | non => exact .non
  | bl b => exact .bl b
  | int i => exact .int i
  | str x => exact .str x
  | @lst a xs e =>
    by_cases z : a = p
    · subst z
      obtain ⟨y1, y2, y3, e2, _⟩ := hp'
      exact .lst e2
    · exact .lst (k _ _ z e)
  | @dct a kvs e => exact .dct (k _ _ (ne_of e e1 (by intro q; cases q)) e)
  | tup e => exact .tup (keepX_seqT ⟨x1, x2, x3, e1, by assumption⟩ k e)
theorem PlR.keepX {v : V} {b : Bool} (hp : PoolO (H p)) (hp' : PoolO (H' p)) (k : KeepX p H H') (h : PlR K H v b) : PlR K H' v b := by
  cases b with
  | true => exact h
  | false =>
    rcases h with h | ⟨t, h, n⟩
    · exact .inl h
    · exact .inr ⟨t, h.keepX hp hp' k, n⟩
theorem ElR.keepX {x : V} {o : Option Cell} (hp : PoolO (H p)) (hp' : PoolO (H' p)) (k : KeepX p H H') (h : ElR K H x o) : ElR K H' x o := by
  cases o with
  | some c => exact ⟨h.1.kt (.of_keepX hp k), h.2⟩
  | none =>
    rcases h with ⟨t, h, n⟩ | ⟨t, ys, e, h, n⟩ | ⟨t, y0, y1, b0, b1, e, h, p0, p1, n⟩
    · exact .inl ⟨t, h.keepX hp hp' k, n⟩
    · exact .inr (.inl ⟨t, ys, e, keepX_seqT hp k h, n⟩)
    · exact .inr (.inr ⟨t, y0, y1, b0, b1, e, keepX_seqT hp k h, p0.keepX hp hp' k, p1.keepX hp hp' k, n⟩)
theorem PlanV.keepX {v : V} {b : Verd} (hp : PoolO (H p)) (hp' : PoolO (H' p)) (k : KeepX p H H') (h : PlanV K H v b) : PlanV K H' v b := by
  have lift : ∀ {xs : List V} {rs : List (Option Cell)}, Els K H xs rs → Els K H' xs rs := fun h => Paired.mono (fun _ _ q => q.keepX hp hp' k) h
  cases b with
  | ok =>
    obtain ⟨a, xs, rs, e, h1, h2, h3, h4, h5⟩ := h
    exact ⟨a, xs, rs, e, keepX_seqT hp k h1, h2, h3, lift h4, h5⟩
  | non =>
    rcases h with ⟨t, h, n⟩ | ⟨a, xs, e, h, n⟩
    · exact .inl ⟨t, h.keepX hp hp' k, n⟩
    · exact .inr ⟨a, xs, e, keepX_seqT hp k h, n⟩
  | «at» i =>
    obtain ⟨a, xs, rs, e, h1, h2, h3, h4, h5⟩ := h
    exact ⟨a, xs, rs, e, keepX_seqT hp k h1, h2, h3, lift h4, h5⟩
/-- odd things -/
theorem odd2 {t : Addr} {y0 y1 : V} {b0 b1 : Bool} (h : H t = some (.tup [y0, y1])) (p0 : PlR K H y0 b0) (p1 : PlR K H y1 b1) (n : (b0 && b1) = false) : ElR K H (.ref t) none :=
  .inr (.inr ⟨t, y0, y1, b0, b1, rfl, SqT.of h, p0, p1, n⟩)
theorem oddN {t : Addr} {ys : List V} (h : SqT K H t ys) (n : ys.length ≠ 2) : ElR K H (.ref t) none := .inr (.inl ⟨t, ys, rfl, h, n⟩)
theorem oddO {x : V} {t : String} (h : Oth K H x t) (n : t ≠ "tuple") : ElR K H x none := .inl ⟨t, h, n⟩
theorem pl_yes {i : Int} (h : 0 ≤ i ∧ i ≤ 7) : PlR K H (.int i) true := ⟨i, rfl, h.1, h.2⟩
theorem pl_no {i : Int} (h : ¬ (0 ≤ i ∧ i ≤ 7)) : PlR K H (.int i) false := .inl ⟨i, rfl, h⟩
theorem pl_oth {x : V} {t : String} (h : Oth K H x t) (n : t ≠ "int") : PlR K H x false := .inr ⟨t, h, n⟩
theorem odd_plan {a : Addr} {cs : List Cell} (h : PlanAt K H a cs) : ElR K H (.ref a) none := by
  obtain ⟨xs, h1, h2⟩ := h
  by_cases c : xs.length = 2
  · cases h2 with
    | nil => cases c
    | @cons x c0 xs1 cs1 r0 h3 =>
      cases h3 with
      | nil => cases c
      | @cons y c1 xs2 cs2 r1 h4 =>
        cases h4 with
        | cons _ _ =>
          simp at c
        | nil =>
          obtain ⟨t0, e0, q0⟩ := r0
          obtain ⟨t1, e1, q1⟩ := r1
          subst e0
          subst e1
          exact .inr (.inr ⟨a, _, _, false, false, rfl, h1, pl_oth (.tup q0) (by decide), pl_oth (.tup q1) (by decide), rfl⟩)
  · exact oddN h1 c
end
def spBent (K : PySem.W.Frag) : Sp := fun vs H Q _ => ∃ (p a : Addr) (cs : List Cell), vs = [.ref p, .ref a] ∧ PoolO (H p) ∧ PlanAt K H a cs ∧ Good cs ∧ cs.length ≤ 24 ∧
  ∀ H' v b, KeepX p H H' → PoolO (H' p) → PlanV K H' v b → Q v H'
end KS
namespace KS
open PySem PySem.Spec PyProof.Rows L2
section
variable {K : PySem.W.Frag} {σ : L2.St} {H : Hp} {Q : VK} {ta : TA}
/-- a display of values that are at hand: a new object -/
theorem tup_ok (vs : List V) (h : ∀ R : List V → Hp → Prop, R vs H → ta σ H R) (hl : vs.length ≤ 64) (k : ∀ H' t, Same H H' → H' t = some (.tup vs) → H t = none → Q (.ref t) H') : tTup ta σ H Q :=
  h _ ⟨Nat.le_of_lt (small64 hl), fun p np => k _ p (same_new np) upd_same np⟩
theorem lst_ok (vs : List V) (h : ∀ R : List V → Hp → Prop, R vs H → ta σ H R) (hl : vs.length ≤ 64) (k : ∀ H' t, Same H H' → H' t = some (.lst vs) → H t = none → Q (.ref t) H') : tLst ta σ H Q :=
  h _ ⟨Nat.le_of_lt (small64 hl), fun p np => k _ p (same_new np) upd_same np⟩
theorem dnew_ok (k : ∀ H' t, Same H H' → H' t = some (.dK []) → H t = none → Q (.ref t) H') : tDNewK σ H Q :=
  fun p np => k _ p (same_new np) upd_same np
theorem catA_ok {a b : Addr} {xs ys : List V} (ha : SqT K H a xs) (hb : SqT K H b ys) (hl : xs.length + ys.length ≤ 64)
    (k : ∀ H' u, Same H H' → SqT K H' u (xs ++ ys) → Q (.ref u) H') : rCatA K (.ref a) (.ref b) H Q := by
  refine ⟨a, b, xs, ys, rfl, rfl, ha, hb, Nat.le_of_lt (small64 hl), fun e => ?_, fun _ e => ?_, fun _ _ p np => ?_⟩
  · subst e
    exact k H b (Same.refl _) hb
  · subst e
    exact k H a (Same.refl _) (by rw [List.append_nil]; exact ha)
  · exact k _ p (same_new np) (SqT.of upd_same)
theorem cut_to {xs : List V} {k : Nat} (h : k ≤ xs.length) : cutV xs none (some (k : Int)) = xs.take k := by
  unfold cutV
  rw [HT.sIx_none, HT.sIx_nat, Nat.min_eq_left h]
  simp
theorem cut_from {xs : List V} {k : Nat} (h : k ≤ xs.length) : cutV xs (some (k : Int)) none = xs.drop k := by
  unfold cutV
  rw [HT.sIx_none, HT.sIx_nat, Nat.min_eq_left h]
  exact List.take_of_length_le (by rw [List.length_drop]; exact Nat.le_refl _)
/-- t[:k], t[k:], whatever object comes -/
theorem slTo_ok {a : Addr} {xs : List V} {n : Nat} (ha : SqT K H a xs) (hn : n ≤ xs.length) (k : ∀ H' u, Same H H' → SqT K H' u (xs.take n) → Q (.ref u) H') : rSlA K (.ref a) none (some (n : Int)) H Q := by
  refine ⟨a, xs, rfl, ha, fun z => ?_, fun _ p np => ?_⟩
  · obtain ⟨_, z2⟩ := z
    rw [show HT.sIx xs.length xs.length (some (n : Int)) = min n xs.length from HT.sIx_nat _ _ n] at z2
    have e : n = xs.length := by omega
    refine k H a (Same.refl _) ?_
    rw [e, List.take_length]
    exact ha
  · refine k _ p (same_new np) (SqT.of ?_)
    rw [upd_same, cut_to hn]
theorem slFrom_ok {a : Addr} {xs : List V} {n : Nat} (ha : SqT K H a xs) (hn : n ≤ xs.length) (k : ∀ H' u, Same H H' → SqT K H' u (xs.drop n) → Q (.ref u) H') : rSlA K (.ref a) (some (n : Int)) none H Q := by
  refine ⟨a, xs, rfl, ha, fun z => ?_, fun _ p np => ?_⟩
  · obtain ⟨z1, _⟩ := z
    rw [show HT.sIx xs.length 0 (some (n : Int)) = min n xs.length from HT.sIx_nat _ _ n] at z1
    refine k H a (Same.refl _) ?_
    rcases Nat.eq_zero_or_pos n with e | e
    · subst e
      exact ha
    · have e2 : xs.length = 0 := by omega
      have e3 := List.eq_nil_of_length_eq_zero e2
      subst e3
      simpa using ha
  · refine k _ p (same_new np) (SqT.of ?_)
    rw [upd_same, cut_from hn]
theorem paired_take {α β : Type} {F : α → β → Prop} : ∀ {l₁ : List α} {l₂ : List β} (i : Nat), Paired F l₁ l₂ → Paired F (l₁.take i) (l₂.take i)
  | _, _, 0, _ => .nil
  | _, _, _ + 1, .nil => .nil
  | _, _, i + 1, .cons r t => .cons r (paired_take i t)
theorem paired_drop {α β : Type} {F : α → β → Prop} : ∀ {l₁ : List α} {l₂ : List β} (i : Nat), Paired F l₁ l₂ → Paired F (l₁.drop i) (l₂.drop i)
  | _, _, 0, h => h
  | _, _, _ + 1, .nil => .nil
  | _, _, i + 1, .cons _ t => paired_drop i t
theorem paired_rev {α β : Type} {F : α → β → Prop} : ∀ {l₁ : List α} {l₂ : List β}, Paired F l₁ l₂ → Paired F l₁.reverse l₂.reverse
  | _, _, .nil => .nil
  | _, _, .cons r t => by
    rw [List.reverse_cons, List.reverse_cons]
    exact paired_append (paired_rev t) (.cons r .nil)
end
end KS
namespace KS
open PySem PySem.Spec PyProof.Rows L2
theorem new_ok {H : Hp} {o : HO} {Q : VK} (k : ∀ H' t, Same H H' → H' t = some o → H t = none → Q (.ref t) H') : ∀ p, H p = none → Q (.ref p) (upd H p o) := fun p np => k _ p (same_new np) upd_same np
theorem pick_ok {items : List V} {r : Int} (h0 : 0 ≤ r) (h1 : r < (items.length : Int)) : ∃ x, x ∈ items ∧ atI items r = some x := by
  obtain ⟨n, rfl⟩ := Int.eq_ofNat_of_zero_le h0
  have hn : n < items.length := by omega
  exact ⟨items[n], List.getElem_mem hn, atI_nat (List.getElem?_eq_getElem hn)⟩
end KS
namespace KS
open PySem PySem.Spec PyProof.Rows L2
/-! ### anything held against a text by != -/
theorem dct_ne_txt {prog : Program} {w : World} {A : Around} {E : Value → Shared → Prop} {s : Shared} {d : Addr} {z : Str} {u : Tok} {od : Option Addr} {es : Array DictEntry} {ep : Nat} {sl : Array (Option Value)} (ho : s.heap.get? d = some { cls := .type "dict", dict := od, data := .dict es ep, slots := sl }) (hu : A.units < cLine) {Q : Value → Shared → Prop} (h : Q (.bool true) s) :
    wpAny (model prog w) A (compareOp .NotEq (.ref d) (.str z u)) Q E s := by
  have hd : s.TypeIs (.ref d) "dict" := ⟨_, ho, rfl⟩
  refine SeqAt.rc_ne_decline_or (k := false) hd (typeIs_str s z u) (by decide) PySem.F.sub_str_dict PySem.F.slot_dict_ne PySem.F.slot_str_ne_refl (fun Q' hq => ?_) (fun Q' hq => ?_)
    (fun Q' hq => wpAny_of_eq (rfl : isSame (.ref d) (.str z u) = pure false) hq) (.inr hu) h
  · refine wpAny_call_entry PySem.F.slot_dict_ne hd PySem.F.entry_dict_ne ?_ (PySem.F.args_dict_ne_2 _ _)
    show wpAny _ _ (Builtin.Dict.dictSlotArgs "__ne__" ⟨[.ref d, .str z u], []⟩ >>= _) _ _ s
    refine wpAny_bind ?_
    unfold Builtin.Dict.dictSlotArgs
    refine wpAny_bind (wpAny_notOrdered_dict hd ?_)
    show wpAny _ _ (pure (Value.ref d, Value.str z u)) _ _ s
    refine wpAny_pure ?_
    refine wpAny_bind (wpAny_isInstance (T := "str") (typeIs_str s z u) PySem.F.sub_str_dict ?_)
    simp only [Bool.not_false, if_true]
    exact wpAny_bind (wpAny_rule (wpAny_pure ⟨_, rfl, hq⟩))
  · have hs : Meets (Builtin.«str.__ne__» ⟨[.str z u, .ref d], []⟩) (fun _ R s => s.heap.get? d = some { cls := .type "dict", dict := od, data := .dict es ep, slots := sl } ∧ R (.ok (.ret .notImplemented)) s) :=
      .of_wp fun prog w A R s h => by
        obtain ⟨hp, g, dd, tk, os⟩ := s
        obtain ⟨hl, h⟩ := h
        wp_walk using wpAny_load hl
        exact ⟨_, rfl, h⟩
    exact call_meets PySem.F.slot_str_ne_refl (typeIs_str s z u) PySem.F.entry_str_ne (PySem.F.args_str_ne_2 _ _) hs ⟨ho, hq⟩
def rNeA (K : PySem.W.Frag) : R2 := fun x y H Q => ∃ (t : String) (z : Str), y = .str z ∧ Oth K H x t ∧ Q (.bl (!decide (x = .str z))) H
theorem op_neA {X : Cx} (hu : X.A.units < cLine) : OpR X (compareOp .NotEq) (rNeA X.K) := by
  intro pins s σ H x y v u Q I rx ry h
  obtain ⟨t, z, rfl, ho, q⟩ := h
  have sc : ∀ {x : V}, scal x (.str z) = true → RelV x v → Q (.bl (!decide (x = .str z))) H → wpAny (model X.prog X.w) X.A (compareOp .NotEq v u) (EP X pins σ Q) X.xe s := fun {x} hs r q => op_ne pins s σ H x (.str z) v u Q I r ry ⟨hs, q⟩
  have rf : ∀ a : Addr, decide (V.ref a = V.str z) = false := fun a => decide_eq_false (fun e => by cases e)
  cases ho with
  | non => exact sc rfl rx q
  | bl b => exact sc rfl rx q
  | int i => exact sc rfl rx q
  | str w => exact sc rfl rx q
  | lst e =>
    rw [rf] at q
    obtain ⟨tk, rfl⟩ := ry
    cases rx
    obtain ⟨its, r, ⟨o, n, ho, hc, _, hd⟩, _⟩ := I.list (SqL.of e)
    exact SeqAt.RcNeAt.list_str z tk ⟨o, ho, hc, n, hd⟩ hu _ _ _ _ ⟨.bl true, H, I, rfl, q⟩
  | tup e =>
    rw [rf] at q
    obtain ⟨tk, rfl⟩ := ry
    cases rx
    obtain ⟨its, r, ⟨o, ho, hc, n, hd⟩, _⟩ := I.tuple e
    exact SeqAt.RcNeAt.tuple_str z tk ⟨o, ho, hc, n, hd⟩ hu _ _ _ _ ⟨.bl true, H, I, rfl, q⟩
  | dct e =>
    rw [rf] at q
    obtain ⟨tk, rfl⟩ := ry
    cases rx
    obtain ⟨_, _, _, _, ⟨cls, dd, data, sl⟩, _, _, e1, ex, dat, _⟩ := I.hok _ _ e
    have hc := ex.1
    simp only at hc dat
    subst hc dat
    exact dct_ne_txt e1 hu ⟨.bl true, H, I, rfl, q⟩
/-! ### the tuple without elements, times a number -/
theorem tup0_mul (l : Addr) (n : Nat) (dd : Option Addr) (sl : Array (Option Value)) (x : Int) (u : Tok) (c0 : (decide (x < -(2 ^ 63)) || decide (x ≥ 2 ^ 63)) = false) :
    Meets (Builtin.«tuple.__mul__» ⟨[.ref l, .int x u], []⟩) (fun _ R s => s.heap.get? l = some { cls := .type "tuple", dict := dd, data := .seq #[] n, slots := sl } ∧ R (.ok (.ret (Value.ref l))) s) :=
  .of_wp fun prog w A R s h => by
    obtain ⟨hp, g, d, tk, os⟩ := s
    obtain ⟨hl, h⟩ := h
    have f1 := AutoSeq1.idx_int
    wp_walk using wpAny_loadPart' hl
    repeat (first
      | (refine wpAny_ite_false (decide_eq_false (by rw [c0]; exact Bool.false_ne_true)) ?_; wp_walk using wpAny_loadPart' hl)
      | (refine wpAny_ite_true (by first | rfl | decide) ?_; wp_walk using wpAny_loadPart' hl))
    exact ⟨_, rfl, h⟩
def rRepA (K : PySem.W.Frag) : R2 := fun x y H Q => ∃ l k xs, x = .ref l ∧ y = .int k ∧ SqT K H l xs ∧ 2 ≤ k ∧ k ≤ 1000 ∧ xs.length ≤ 1000 ∧ (xs = [] → Q (.ref l) H) ∧ (xs ≠ [] → ∀ p, H p = none → Q (.ref p) (upd H p (.tup (List.replicate k.toNat xs).flatten)))
theorem op_repA {X : Cx} : OpR X (binaryOp .Mult) (rRepA X.K) := by
  intro pins s σ H x y v u Q I rx ry h
  obtain ⟨l, k, xs, rfl, rfl, hT, h1, h2, hz, q0, q1⟩ := h
  by_cases he : xs = []
  · subst he
    have q := q0 rfl
    cases rx
    obtain ⟨t, rfl⟩ := ry
    obtain ⟨its, r, ⟨⟨cls, dd, data, sl⟩, ho, hc, n, hd⟩, hs⟩ := I.tuple hT
    simp only at hc hd
    subst hc hd
    have e0 : its = [] := by
      have := r.length
      exact List.eq_nil_of_length_eq_zero this.symm
    subst e0
    have c0 : (decide (k < -(2 ^ 63)) || decide (k ≥ 2 ^ 63)) = false := by
      rw [decide_eq_false (by omega), decide_eq_false (by omega)] <;> rfl
    exact wpAny_binaryOp_repeat_ref (T := "tuple") (U := "int") (by decide) ⟨_, ho, rfl⟩ (fun s' => typeIs_int s' k t) noFill_tuple_mul F.fills_int_mul F.slot_int_rmul repeat_tuple F.slot_int_index.lookup
      (call_meets F.slot_int_rmul (typeIs_int s k t) F.entry_int_rmul (F.args_int_rmul_2 _ _) (int_rmul_tuple k t l #[] n dd sl)
        ⟨ho, rfl, ⟨_, ho, rfl⟩, call_meets F.slot_tuple_mul ⟨_, ho, rfl⟩ F.entry_tuple_mul (F.args_tuple_mul_2 _ _) (tup0_mul l n dd sl k t c0) ⟨ho, .ref l, H, I, rfl, q⟩⟩)
  · exact op_repT pins s σ H _ _ v u Q I rx ry ⟨l, k, xs, rfl, rfl, hT, he, h1, h2, hz, q1 he⟩
end KS
namespace KS
open PySem PySem.Spec PyProof.Rows L2
/-! ### a tuple times a number from 1 on -/
theorem tup1_mul (l : Addr) (its : Array Value) (n : Nat) (dd : Option Addr) (sl : Array (Option Value)) (u : Tok) :
    Meets (Builtin.«tuple.__mul__» ⟨[.ref l, .int 1 u], []⟩) (fun _ R s => s.heap.get? l = some { cls := .type "tuple", dict := dd, data := .seq its n, slots := sl } ∧ R (.ok (.ret (Value.ref l))) s) :=
  .of_wp fun prog w A R s h => by
    obtain ⟨hp, g, d, tk, os⟩ := s
    obtain ⟨hl, h⟩ := h
    have f1 := AutoSeq1.idx_int
    wp_walk using wpAny_loadPart' hl
    repeat (first
      | (refine wpAny_ite_false (by decide) ?_; wp_walk using wpAny_loadPart' hl)
      | (refine wpAny_ite_true (by first | rfl | decide | simp) ?_; wp_walk using wpAny_loadPart' hl))
    exact ⟨_, rfl, h⟩
/-- (..) * n, not empty: for 1 the tuple itself -/
def rRep1 (K : PySem.W.Frag) : R2 := fun x y H Q => ∃ l k xs, x = .ref l ∧ y = .int k ∧ H l = some (.tup xs) ∧ 1 ≤ k ∧ k ≤ 1000 ∧ xs.length ≤ 1000 ∧ xs ≠ [] ∧ ∀ H' p, Same H H' → H' p = some (.tup (List.replicate k.toNat xs).flatten) → Q (.ref p) H'
theorem op_rep1 {X : Cx} : OpR X (binaryOp .Mult) (rRep1 X.K) := by
  intro pins s σ H x y v u Q I rx ry h
  obtain ⟨l, k, xs, rfl, rfl, hT, h1, h2, hz, hne, q⟩ := h
  by_cases he : k = 1
  · subst he
    cases rx
    obtain ⟨t, rfl⟩ := ry
    obtain ⟨its, r, ⟨⟨cls, dd, data, sl⟩, ho, hc, n, hd⟩, hs⟩ := I.tuple (SqT.of hT)
    simp only at hc hd
    subst hc hd
    refine wpAny_binaryOp_repeat_ref (T := "tuple") (U := "int") (by decide) ⟨_, ho, rfl⟩ (fun s' => typeIs_int s' 1 t) noFill_tuple_mul F.fills_int_mul F.slot_int_rmul repeat_tuple F.slot_int_index.lookup
      (call_meets F.slot_int_rmul (typeIs_int s 1 t) F.entry_int_rmul (F.args_int_rmul_2 _ _) (int_rmul_tuple 1 t l its.toArray n dd sl)
        ⟨ho, rfl, ⟨_, ho, rfl⟩, call_meets F.slot_tuple_mul ⟨_, ho, rfl⟩ F.entry_tuple_mul (F.args_tuple_mul_2 _ _) (tup1_mul l its.toArray n dd sl t) ⟨ho, .ref l, H, I, rfl, q H l (Same.refl _) ?_⟩⟩)
    rw [hT]
    simp
  · exact op_repT pins s σ H _ _ v u Q I rx ry ⟨l, k, xs, rfl, rfl, SqT.of hT, hne, by omega, h2, hz, fun p np => q _ p (same_new np) upd_same⟩
section
variable {K : PySem.W.Frag} {H : Hp} {Q : VK}
/-- a + b, b made at run time and not empty -/
theorem catL_ok {a b : Addr} {xs ys : List V} (ha : SqT K H a xs) (hb : H b = some (.tup ys)) (ne : ys ≠ []) (hl : xs.length + ys.length ≤ 64)
    (k : ∀ H' u, Same H H' → H' u = some (.tup (xs ++ ys)) → Q (.ref u) H') : rCatA K (.ref a) (.ref b) H Q := by
  refine ⟨a, b, xs, ys, rfl, rfl, ha, SqT.of hb, Nat.le_of_lt (small64 hl), fun e => ?_, fun _ e => absurd e ne, fun _ _ p np => ?_⟩
  · subst e
    exact k H b (Same.refl _) hb
  · exact k _ p (same_new np) upd_same
/-- a + b, a made at run time and not empty -/
theorem catR_ok {a b : Addr} {xs ys : List V} (ha : H a = some (.tup xs)) (hb : SqT K H b ys) (ne : xs ≠ []) (hl : xs.length + ys.length ≤ 64)
    (k : ∀ H' u, Same H H' → H' u = some (.tup (xs ++ ys)) → Q (.ref u) H') : rCatA K (.ref a) (.ref b) H Q := by
  refine ⟨a, b, xs, ys, rfl, rfl, SqT.of ha, hb, Nat.le_of_lt (small64 hl), fun e => absurd e ne, fun _ e => ?_, fun _ _ p np => ?_⟩
  · subst e
    exact k H a (Same.refl _) (by rw [List.append_nil]; exact ha)
  · exact k _ p (same_new np) upd_same
end
end KS
namespace KS
open PySem PySem.Spec PyProof.Rows L2
/-! ### lists of natural numbers as values -/
def natV (k : List Nat) : List V := k.map fun n : Nat => V.int (n : Int)
theorem natV_len (k : List Nat) : (natV k).length = k.length := List.length_map ..
theorem natV_take (k : List Nat) (i : Nat) : (natV k).take i = natV (k.take i) := (List.map_take ..).symm
theorem natV_drop (k : List Nat) (i : Nat) : (natV k).drop i = natV (k.drop i) := (List.map_drop ..).symm
theorem natV_app (a b : List Nat) : natV a ++ natV b = natV (a ++ b) := (List.map_append ..).symm
theorem natV_get {k : List Nat} {i : Nat} (h : i < k.length) : (natV k)[i]? = some (V.int ((k.getD i 0 : Nat) : Int)) := by
  unfold natV
  rw [List.getElem?_map, List.getElem?_eq_getElem h, List.getD_eq_getElem?_getD, List.getElem?_eq_getElem h]
  rfl
theorem natV_ints (k : List Nat) : natV k = (k.map fun n : Nat => (n : Int)).map V.int := by
  unfold natV
  rw [List.map_map]
  rfl
theorem natV_sum : ∀ k : List Nat, (k.map fun n : Nat => (n : Int)).sum = ((k.sum : Nat) : Int)
  | [] => rfl
  | x :: k => by
    rw [List.map_cons, List.sum_cons, natV_sum k, List.sum_cons]
    omega
end KS
namespace KS
open PySem PySem.Spec PyProof.Rows L2
section
variable {K : PySem.W.Frag} {H : Hp} {Q : VK}
/-- t[i:j] -/
theorem slMid_ok2 {a : Addr} {xs : List V} {i j : Nat} (ha : SqT K H a xs) (hj : j ≤ xs.length) (hij : i ≤ j) (k : ∀ H' u, Same H H' → SqT K H' u ((xs.take j).drop i) → Q (.ref u) H') : rSlA K (.ref a) (some (i : Int)) (some (j : Int)) H Q := by
  have e1 : HT.sIx xs.length 0 (some (i : Int)) = min i xs.length := HT.sIx_nat _ _ i
  have e2 : HT.sIx xs.length xs.length (some (j : Int)) = min j xs.length := HT.sIx_nat _ _ j
  refine ⟨a, xs, rfl, ha, fun z => ?_, fun _ p np => ?_⟩
  · rw [e1, e2] at z
    have a2 : j = xs.length := by omega
    refine k H a (Same.refl _) ?_
    rw [a2, List.take_length]
    rcases Nat.eq_zero_or_pos i with q | q
    · rw [q]
      exact ha
    · have e0 : xs = [] := List.eq_nil_of_length_eq_zero (by omega)
      subst e0
      simpa using ha
  · refine k _ p (same_new np) (SqT.of ?_)
    rw [upd_same]
    unfold cutV
    rw [e1, e2, Nat.min_eq_left hj, Nat.min_eq_left (Nat.le_trans hij hj), List.drop_take]
end
end KS
namespace KS
open PySem PySem.Spec PyProof.Rows L2
/-! ### a sort takes inversions away -/
def lt1 (a b : Int) : Nat := if a < b then 1 else 0
def cnt (a : Int) : List Int → Nat
  | [] => 0
  | b :: l => lt1 b a + cnt a l
def inv : List Int → Nat
  | [] => 0
  | a :: l => cnt a l + inv l
theorem cnt_set (b x y : Int) : ∀ {m : List Int} {j : Nat}, m[j]? = some y → cnt b (m.set j x) + lt1 y b = cnt b m + lt1 x b
  | [], _, h => by cases h
  | c :: m, 0, h => by
    cases h
    show lt1 x b + cnt b m + lt1 y b = lt1 y b + cnt b m + lt1 x b
    omega
  | c :: m, j + 1, h => by
    have ih := cnt_set b x y (m := m) (j := j) h
    show lt1 c b + cnt b (m.set j x) + lt1 y b = lt1 c b + cnt b m + lt1 x b
    omega
theorem lt1_four {x y b : Int} (h : y < x) : lt1 b y + lt1 x b ≤ lt1 b x + lt1 y b := by
  unfold lt1
  split <;> split <;> split <;> split <;> omega
theorem inv_front {x y : Int} (h : y < x) : ∀ {l : List Int} {j : Nat}, l[j]? = some y → cnt y (l.set j x) + inv (l.set j x) < cnt x l + inv l
  | [], _, e => by cases e
  | b :: m, 0, e => by
    cases e
    show lt1 x y + cnt y m + (cnt x m + inv m) < lt1 y x + cnt x m + (cnt y m + inv m)
    have h1 : lt1 x y = 0 := if_neg (by omega)
    have h2 : lt1 y x = 1 := if_pos h
    omega
  | b :: m, j + 1, e => by
    have ih := inv_front h (l := m) (j := j) e
    have c := cnt_set b x y (m := m) (j := j) e
    have f := lt1_four (b := b) h
    show lt1 b y + cnt y (m.set j x) + (cnt b (m.set j x) + inv (m.set j x)) < lt1 b x + cnt x m + (cnt b m + inv m)
    omega
theorem inv_swap {x y : Int} (h : y < x) : ∀ {l : List Int} {i j : Nat}, i < j → l[i]? = some x → l[j]? = some y → inv ((l.set i y).set j x) < inv l
  | [], _, _, _, e, _ => by cases e
  | a :: l, 0, 0, hij, _, _ => absurd hij (Nat.lt_irrefl _)
  | a :: l, 0, j + 1, _, e, e2 => by
    cases e
    exact inv_front h (l := l) (j := j) e2
  | a :: l, i + 1, 0, hij, _, _ => absurd hij (Nat.not_lt_zero _)
  | a :: l, i + 1, j + 1, hij, e, e2 => by
    have hij' : i < j := Nat.lt_of_succ_lt_succ hij
    have ih := inv_swap h (l := l) (i := i) (j := j) hij' e e2
    have c1 := cnt_set a y x (m := l) (j := i) e
    have e3 : (l.set i y)[j]? = some y := by
      rw [List.getElem?_set_ne (by omega)]
      exact e2
    have c2 := cnt_set a x y (m := l.set i y) (j := j) e3
    show cnt a ((l.set i y).set j x) + inv ((l.set i y).set j x) < cnt a l + inv l
    omega
theorem cnt_le (a : Int) : ∀ l : List Int, cnt a l ≤ l.length
  | [] => Nat.le_refl _
  | b :: l => by
    have := cnt_le a l
    have h : lt1 b a ≤ 1 := by
      unfold lt1
      split <;> omega
    show lt1 b a + cnt a l ≤ l.length + 1
    omega
theorem inv_le : ∀ l : List Int, 2 * inv l ≤ l.length * (l.length - 1)
  | [] => Nat.le_refl _
  | a :: l => by
    have h := inv_le l
    have c := cnt_le a l
    show 2 * (cnt a l + inv l) ≤ (l.length + 1) * (l.length + 1 - 1)
    rw [Nat.add_sub_cancel]
    cases hl : l.length with
    | zero =>
      rw [hl] at h c
      simp at h c
      omega
    | succ n =>
      rw [hl] at h c
      rw [Nat.add_sub_cancel] at h
      have e : (n + 1 + 1) * (n + 1) = (n + 1) * n + 2 * (n + 1) := by
        rw [Nat.add_mul (n + 1) 1 (n + 1), Nat.mul_add (n + 1) n 1]
        omega
      omega
end KS
namespace KS
open PySem PySem.Spec PyProof.Rows L2
def putN : List Int → List Nat → List Int → List Int
  | acc, k :: ks, y :: ys => putN (acc.set k y) ks ys
  | acc, _, _ => acc
def getN (acc : List Int) (ks : List Nat) : List Int := ks.map fun k => acc.getD k 0
theorem putN_nil (acc : List Int) (ys : List Int) : putN acc [] ys = acc := by
  unfold putN
  rfl
theorem putN_cons (acc : List Int) (k : Nat) (ks : List Nat) (y : Int) (ys : List Int) : putN acc (k :: ks) (y :: ys) = putN (acc.set k y) ks ys := by
  rw [putN]
theorem putN_none (acc : List Int) (ks : List Nat) : putN acc ks [] = acc := by
  cases ks <;> (unfold putN; rfl)
theorem putN_len : ∀ (ks : List Nat) (ys acc : List Int), (putN acc ks ys).length = acc.length
  | [], ys, acc => by rw [putN_nil]
  | k :: ks, [], acc => by rw [putN_none]
  | k :: ks, y :: ys, acc => by rw [putN_cons, putN_len ks ys, List.length_set]
theorem putN_off : ∀ {ks : List Nat} {ys acc : List Int} {i : Nat}, i ∉ ks → (putN acc ks ys)[i]? = acc[i]?
  | [], ys, acc, i, _ => by rw [putN_nil]
  | k :: ks, [], acc, i, _ => by rw [putN_none]
  | k :: ks, y :: ys, acc, i, h => by
    have hk : k ≠ i := fun e => h (e ▸ List.mem_cons_self)
    rw [putN_cons, putN_off (fun m => h (List.mem_cons_of_mem _ m)), List.getElem?_set_ne hk]
theorem getD_of {acc : List Int} {k : Nat} {v : Int} (h : acc[k]? = some v) : acc.getD k 0 = v := by
  rw [List.getD_eq_getElem?_getD, h]
  rfl
theorem get_put : ∀ {ks : List Nat} {ys acc : List Int}, ks.Nodup → ks.length = ys.length → (∀ k ∈ ks, k < acc.length) → getN (putN acc ks ys) ks = ys
  | [], [], acc, _, _, _ => rfl
  | [], _ :: _, acc, _, h, _ => by cases h
  | _ :: _, [], acc, _, h, _ => by cases h
  | k :: ks, y :: ys, acc, nd, hl, hb => by
    rw [List.nodup_cons] at nd
    rw [putN_cons]
    show (putN (acc.set k y) ks ys).getD k 0 :: getN (putN (acc.set k y) ks ys) ks = y :: ys
    rw [get_put nd.2 (by simpa using hl) (fun j hj => by rw [List.length_set]; exact hb j (List.mem_cons_of_mem _ hj))]
    congr 1
    refine getD_of ?_
    rw [putN_off nd.1, List.getElem?_set_self (hb k List.mem_cons_self)]
theorem put_same : ∀ {ks : List Nat} {acc : List Int}, (∀ k ∈ ks, k < acc.length) → putN acc ks (getN acc ks) = acc
  | [], acc, _ => by rw [putN_nil]
  | k :: ks, acc, hb => by
    show putN acc (k :: ks) (acc.getD k 0 :: getN acc ks) = acc
    have hk := hb k List.mem_cons_self
    have e : acc.set k (acc.getD k 0) = acc := by
      rw [List.getD_eq_getElem?_getD, List.getElem?_eq_getElem hk]
      exact List.set_getElem_self hk
    rw [putN_cons, e]
    exact put_same fun j hj => hb j (List.mem_cons_of_mem _ hj)
theorem put_over : ∀ {ks : List Nat} {zs a b : List Int}, a.length = b.length → ks.length = zs.length → (∀ i, i ∉ ks → a[i]? = b[i]?) → putN a ks zs = putN b ks zs
  | [], zs, a, b, _, _, h => by
    rw [putN_nil, putN_nil]
    exact List.ext_getElem? fun i => h i (by simp)
  | k :: ks, [], a, b, _, hl, _ => by cases hl
  | k :: ks, z :: zs, a, b, hab, hl, h => by
    rw [putN_cons, putN_cons]
    refine put_over (by rw [List.length_set, List.length_set, hab]) (by simpa using hl) fun i hi => ?_
    by_cases e : k = i
    · subst e
      by_cases c : k < a.length
      · rw [List.getElem?_set_self c, List.getElem?_set_self (by omega)]
      · rw [List.getElem?_eq_none (by rw [List.length_set]; omega), List.getElem?_eq_none (by rw [List.length_set]; omega)]
    · rw [List.getElem?_set_ne e, List.getElem?_set_ne e]
      refine h i fun m => ?_
      rcases List.mem_cons.mp m with z | z
      · exact e z.symm
      · exact hi z
/-- the same, or fewer inversions -/
def Dn (a b : List Int) : Prop := b = a ∨ inv b < inv a
theorem Dn.trans {a b c : List Int} (h : Dn a b) (k : Dn b c) : Dn a c := by
  rcases h with rfl | h
  · exact k
  · rcases k with rfl | k
    · exact .inr h
    · exact .inr (Nat.lt_trans k h)
def ins (x : Int) : List Int → List Int
  | [] => [x]
  | y :: s => if x ≤ y then x :: y :: s else y :: ins x s
def isort : List Int → List Int
  | [] => []
  | x :: l => ins x (isort l)
theorem ins_perm (x : Int) : ∀ s : List Int, (ins x s).Perm (x :: s)
  | [] => List.Perm.refl _
  | y :: s => by
    unfold ins
    split
    · exact List.Perm.refl _
    · exact ((ins_perm x s).cons y).trans (List.Perm.swap _ _ _)
theorem isort_perm : ∀ l : List Int, (isort l).Perm l
  | [] => List.Perm.refl _
  | x :: l => (ins_perm x _).trans ((isort_perm l).cons x)
theorem ins_asc {x : Int} : ∀ {s : List Int}, s.Pairwise (· ≤ ·) → (ins x s).Pairwise (· ≤ ·)
  | [], _ => by simp [ins]
  | y :: s, h => by
    rw [List.pairwise_cons] at h
    unfold ins
    split
    · rename_i c
      rw [List.pairwise_cons, List.pairwise_cons]
      refine ⟨fun z hz => ?_, h.1, h.2⟩
      rcases List.mem_cons.mp hz with rfl | m
      · exact c
      · have := h.1 z m
        omega
    · rename_i c
      rw [List.pairwise_cons]
      refine ⟨fun z hz => ?_, ins_asc h.2⟩
      rcases List.mem_cons.mp ((ins_perm x s).mem_iff.mp hz) with rfl | m
      · omega
      · exact h.1 z m
theorem isort_asc : ∀ l : List Int, (isort l).Pairwise (· ≤ ·)
  | [] => List.Pairwise.nil
  | _ :: l => ins_asc (isort_asc l)
theorem isort_eq (l : List Int) : isort l = sortI l := sortI_eq (isort_perm l) (isort_asc l)
theorem ins_dn : ∀ {ks : List Nat} {k : Nat} {acc s : List Int} {x : Int}, (k :: ks).Pairwise (· < ·) → (∀ j ∈ k :: ks, j < acc.length) → getN acc (k :: ks) = x :: s → Dn acc (putN acc (k :: ks) (ins x s))
  | [], k, acc, s, x, _, hb, e => by
    have e' : [acc.getD k 0] = x :: s := e
    cases e'
    exact .inl (put_same (ks := [k]) hb)
  | k' :: ks, k, acc, [], x, _, hb, e => by
    have e' : acc.getD k 0 :: acc.getD k' 0 :: getN acc ks = [x] := e
    cases e'
  | k' :: ks, k, acc, y :: s, x, hp, hb, e => by
    unfold ins
    split
    · rw [← e]
      exact .inl (put_same hb)
    · rename_i c
      have e' : acc.getD k 0 :: acc.getD k' 0 :: getN acc ks = x :: y :: s := e
      injection e' with e1 e2
      injection e2 with e2 e3
      rw [List.pairwise_cons] at hp
      have hk := hb k List.mem_cons_self
      have hk' := hb k' (List.mem_cons_of_mem _ List.mem_cons_self)
      have hlt : k < k' := hp.1 k' List.mem_cons_self
      have g1 : acc[k]? = some x := by
        rw [List.getElem?_eq_getElem hk, ← e1, List.getD_eq_getElem?_getD, List.getElem?_eq_getElem hk]
        rfl
      have g2 : acc[k']? = some y := by
        rw [List.getElem?_eq_getElem hk', ← e2, List.getD_eq_getElem?_getD, List.getElem?_eq_getElem hk']
        rfl
      have sw := inv_swap (x := x) (y := y) (by omega) hlt g1 g2
      have hp2 := List.pairwise_cons.mp hp.2
      have gg : getN ((acc.set k y).set k' x) (k' :: ks) = x :: s := by
        show ((acc.set k y).set k' x).getD k' 0 :: getN ((acc.set k y).set k' x) ks = x :: s
        rw [getD_of (List.getElem?_set_self (by rw [List.length_set]; exact hk'))]
        congr 1
        rw [← e3]
        refine List.map_congr_left fun j hj => ?_
        have j1 : k' < j := hp2.1 j hj
        show ((acc.set k y).set k' x).getD j 0 = acc.getD j 0
        rw [List.getD_eq_getElem?_getD, List.getD_eq_getElem?_getD, List.getElem?_set_ne (by omega), List.getElem?_set_ne (by omega)]
      have ih := ins_dn (acc := (acc.set k y).set k' x) hp.2 (fun j hj => by rw [List.length_set, List.length_set]; exact hb j (List.mem_cons_of_mem _ hj)) gg
      have ep : putN acc (k :: k' :: ks) (y :: ins x s) = putN ((acc.set k y).set k' x) (k' :: ks) (ins x s) := by
        rw [putN_cons]
        cases h : ins x s with
        | nil =>
          have := (ins_perm x s).length_eq
          rw [h] at this
          cases this
        | cons z zs => rw [putN_cons, putN_cons, List.set_set]
      rw [ep]
      exact Dn.trans (.inr sw) ih
theorem sort_dn : ∀ {ks : List Nat} {acc : List Int}, ks.Pairwise (· < ·) → (∀ j ∈ ks, j < acc.length) → Dn acc (putN acc ks (isort (getN acc ks)))
  | [], acc, _, _ => .inl (putN_nil _ _)
  | k :: ks, acc, hp, hb => by
    have hp' := List.pairwise_cons.mp hp
    have hb' : ∀ j ∈ ks, j < acc.length := fun j hj => hb j (List.mem_cons_of_mem _ hj)
    have ih := sort_dn hp'.2 hb'
    have nk : k ∉ ks := fun m => Nat.lt_irrefl _ (hp'.1 k m)
    have nd : ks.Nodup := hp'.2.imp fun h => Nat.ne_of_lt h
    have ll : ks.length = (isort (getN acc ks)).length := by
      rw [(isort_perm _).length_eq]
      unfold getN
      rw [List.length_map]
    have g : getN (putN acc ks (isort (getN acc ks))) (k :: ks) = acc.getD k 0 :: isort (getN acc ks) := by
      show (putN acc ks (isort (getN acc ks))).getD k 0 :: getN (putN acc ks (isort (getN acc ks))) ks = _
      rw [get_put nd ll hb', List.getD_eq_getElem?_getD, putN_off nk, ← List.getD_eq_getElem?_getD]
    have b := ins_dn (acc := putN acc ks (isort (getN acc ks))) hp (fun j hj => by rw [putN_len]; exact hb j hj) g
    have e : putN (putN acc ks (isort (getN acc ks))) (k :: ks) (ins (acc.getD k 0) (isort (getN acc ks))) = putN acc (k :: ks) (ins (acc.getD k 0) (isort (getN acc ks))) := by
      refine put_over (putN_len _ _ _) ?_ fun i hi => putN_off fun m => hi (List.mem_cons_of_mem _ m)
      rw [(ins_perm _ _).length_eq, List.length_cons, List.length_cons, ll]
    rw [e] at b
    exact ih.trans b
end KS
namespace KS
open PySem PySem.Spec PyProof.Rows L2
def up (ks : List Nat) : List Int := ks.map fun (k : Nat) => (k : Int)
theorem putZ_up : ∀ (ks : List Nat) (ys acc : List Int), putZ acc ((up ks).zip ys) = putN acc ks ys
  | [], ys, acc => by rw [putN_nil]; rfl
  | k :: ks, [], acc => by rw [putN_none]; rfl
  | k :: ks, y :: ys, acc => by
    rw [putN_cons, ← putZ_up ks ys]
    rfl
theorem get_up (vs : List Int) (ks : List Nat) : (up ks).map (getI vs) = getN vs ks := by
  unfold up getN
  rw [List.map_map]
  rfl
def srtN (vs acc : List Int) (ks : List Nat) : List Int := putN acc ks (sortI (getN vs ks))
theorem srtL_up (vs acc : List Int) (ks : List Nat) : srtL vs acc (up ks) = srtN vs acc ks := by
  unfold srtL srtN
  rw [putZ_up, get_up]
theorem srtTo_up (vs : List Int) : ∀ (ls : List (List Nat)) (acc : List Int), (ls.map up).foldl (srtL vs) acc = ls.foldl (srtN vs) acc
  | [], _ => rfl
  | ks :: ls, acc => by
    show (ls.map up).foldl (srtL vs) (srtL vs acc (up ks)) = ls.foldl (srtN vs) (srtN vs acc ks)
    rw [srtL_up, srtTo_up vs ls]
def idxsN (b : Bool) (cs : List Cell) (i : Nat) (r : Int) : List Nat := (List.range i).filter fun j => decide ((cs[j]?).map (pick b) = some r)
theorem idxs_up (b : Bool) (cs : List Cell) (i : Nat) (r : Int) : idxs b cs i r = up (idxsN b cs i r) := rfl
def lnsN (b : Bool) (cs : List Cell) : List (List Nat) := ((List.range 8).map fun (r : Nat) => idxsN b cs cs.length (r : Int)).filter fun l => decide (l ≠ [])
theorem filter_up : ∀ ls : List (List Nat), (ls.map up).filter (fun l => decide (l ≠ [])) = (ls.filter fun l => decide (l ≠ [])).map up
  | [] => rfl
  | [] :: ls => filter_up ls
  | (k :: ks) :: ls => by
    show up (k :: ks) :: (ls.map up).filter _ = up (k :: ks) :: (ls.filter _).map up
    rw [filter_up ls]
theorem lns_up (b : Bool) (cs : List Cell) : lnsOf b cs = (lnsN b cs).map up := by
  unfold lnsOf lnsN
  rw [← filter_up, List.map_map]
  rfl
structure Parts (n : Nat) (ls : List (List Nat)) : Prop where
  asc : ∀ ks ∈ ls, ks.Pairwise (· < ·)
  bd : ∀ ks ∈ ls, ∀ k ∈ ks, k < n
  apart : ls.Pairwise fun ks ms => ∀ k ∈ ks, k ∉ ms
theorem srtN_len (vs acc : List Int) (ks : List Nat) : (srtN vs acc ks).length = acc.length := putN_len _ _ _
theorem getN_congr {a b : List Int} {ks : List Nat} (h : ∀ k ∈ ks, a[k]? = b[k]?) : getN a ks = getN b ks := by
  refine List.map_congr_left fun k hk => ?_
  show a.getD k 0 = b.getD k 0
  rw [List.getD_eq_getElem?_getD, List.getD_eq_getElem?_getD, h k hk]
theorem fold_off {vs : List Int} {i : Nat} : ∀ {ls : List (List Nat)} {acc : List Int}, (∀ ks ∈ ls, i ∉ ks) → (ls.foldl (srtN vs) acc)[i]? = acc[i]?
  | [], _, _ => rfl
  | ks :: ls, acc, h => by
    show (ls.foldl (srtN vs) (srtN vs acc ks))[i]? = _
    rw [fold_off fun ms hm => h ms (List.mem_cons_of_mem _ hm)]
    exact putN_off (h ks List.mem_cons_self)
theorem fold_dn {vs : List Int} : ∀ {ls : List (List Nat)} {acc : List Int}, Parts acc.length ls → (∀ ks ∈ ls, ∀ k ∈ ks, acc[k]? = vs[k]?) → Dn acc (ls.foldl (srtN vs) acc)
  | [], acc, _, _ => .inl rfl
  | ks :: ls, acc, P, h => by
    have pc := List.pairwise_cons.mp P.apart
    have e : getN vs ks = getN acc ks := getN_congr fun k hk => (h ks List.mem_cons_self k hk).symm
    have d : Dn acc (srtN vs acc ks) := by
      unfold srtN
      rw [e, ← isort_eq]
      exact sort_dn (P.asc ks List.mem_cons_self) (P.bd ks List.mem_cons_self)
    refine d.trans (fold_dn (ls := ls) ⟨fun ms hm => P.asc ms (List.mem_cons_of_mem _ hm), fun ms hm k hk => ?_, pc.2⟩ fun ms hm k hk => ?_)
    · rw [srtN_len]
      exact P.bd ms (List.mem_cons_of_mem _ hm) k hk
    · have nk : k ∉ ks := fun m => pc.1 ms hm k m hk
      rw [show (srtN vs acc ks)[k]? = acc[k]? from putN_off nk]
      exact h ms (List.mem_cons_of_mem _ hm) k hk
theorem fold_get {vs : List Int} : ∀ {ls : List (List Nat)} {acc : List Int}, Parts acc.length ls → ∀ ks ∈ ls, getN (ls.foldl (srtN vs) acc) ks = sortI (getN vs ks)
  | [], _, _, _, m => by cases m
  | ms :: ls, acc, P, ks, m => by
    have pc := List.pairwise_cons.mp P.apart
    have P' : Parts (srtN vs acc ms).length ls := ⟨fun z hm => P.asc z (List.mem_cons_of_mem _ hm), fun z hm k hk => by rw [srtN_len]; exact P.bd z (List.mem_cons_of_mem _ hm) k hk, pc.2⟩
    rcases List.mem_cons.mp m with rfl | m
    · show getN (ls.foldl (srtN vs) (srtN vs acc ks)) ks = _
      rw [getN_congr (b := srtN vs acc ks) fun k hk => fold_off fun z hz => pc.1 z hz k hk]
      refine get_put ((P.asc ks List.mem_cons_self).imp fun h => Nat.ne_of_lt h) ?_ (P.bd ks List.mem_cons_self)
      rw [sortI_len]
      unfold getN
      rw [List.length_map]
    · exact fold_get P' ks m
theorem fold_fix {vs : List Int} : ∀ {ls : List (List Nat)}, (∀ ks ∈ ls, ∀ k ∈ ks, k < vs.length) → (∀ ks ∈ ls, getN vs ks = sortI (getN vs ks)) → ls.foldl (srtN vs) vs = vs
  | [], _, _ => rfl
  | ks :: ls, hb, h => by
    have e : srtN vs vs ks = vs := by
      unfold srtN
      rw [← h ks List.mem_cons_self]
      exact put_same (hb ks List.mem_cons_self)
    show ls.foldl (srtN vs) (srtN vs vs ks) = vs
    rw [e]
    exact fold_fix (fun z hz => hb z (List.mem_cons_of_mem _ hz)) fun z hz => h z (List.mem_cons_of_mem _ hz)
theorem idxsN_mem {b : Bool} {cs : List Cell} {i k : Nat} {r : Int} (h : k ∈ idxsN b cs i r) : k < i ∧ (cs[k]?).map (pick b) = some r := by
  have := List.mem_filter.mp h
  exact ⟨List.mem_range.mp this.1, of_decide_eq_true this.2⟩
theorem lns_parts (b : Bool) (cs : List Cell) : Parts cs.length (lnsN b cs) := by
  refine ⟨fun ks h => ?_, fun ks h k hk => ?_, ?_⟩
  · obtain ⟨r, _, rfl⟩ := List.mem_map.mp (List.mem_filter.mp h).1
    exact List.pairwise_lt_range.filter _
  · obtain ⟨r, _, rfl⟩ := List.mem_map.mp (List.mem_filter.mp h).1
    exact (idxsN_mem hk).1
  · refine List.Pairwise.filter _ (List.pairwise_map.2 (List.pairwise_lt_range.imp ?_))
    intro r q hrq k h1 h2
    have a := (idxsN_mem h1).2
    rw [(idxsN_mem h2).2] at a
    injection a with a
    omega
theorem srt_up (b : Bool) (cs : List Cell) (vs : List Int) : srt b cs vs = (lnsN b cs).foldl (srtN vs) vs := by
  unfold srt srtTo
  rw [lns_up, srtTo_up]
/-- a sort leaves all as it is, or takes inversions away -/
theorem srt_dn {b : Bool} {cs : List Cell} {vs : List Int} (h : vs.length = cs.length) : Dn vs (srt b cs vs) := by
  rw [srt_up]
  exact fold_dn (by rw [h]; exact lns_parts b cs) fun _ _ _ _ => rfl
theorem upL_up (vs : List Int) (ks : List Nat) : upL vs (up ks) = decide (getN vs ks = sortI (getN vs ks)) := by
  unfold upL
  rw [get_up]
theorem rises_iff {b : Bool} {cs : List Cell} {vs : List Int} : rises b cs vs = true ↔ ∀ ks ∈ lnsN b cs, getN vs ks = sortI (getN vs ks) := by
  unfold rises
  rw [lns_up, List.all_map, List.all_eq_true]
  constructor
  · intro h ks hk
    have := h ks hk
    exact of_decide_eq_true ((upL_up vs ks).symm.trans this)
  · intro h ks hk
    exact (upL_up vs ks).trans (decide_eq_true (h ks hk))
theorem sortI_fix (l : List Int) : sortI (sortI l) = sortI l := (sortI_eq (List.Perm.refl _) (sortI_asc l)).symm
/-- behind a sort the lines of the kind ascend -/
theorem srt_rises {b : Bool} {cs : List Cell} {vs : List Int} (h : vs.length = cs.length) : rises b cs (srt b cs vs) = true := by
  rw [rises_iff]
  intro ks hk
  have g : getN (srt b cs vs) ks = sortI (getN vs ks) := by
    rw [srt_up]
    exact fold_get (by rw [h]; exact lns_parts b cs) ks hk
  rw [g, sortI_fix]
/-- lines that ascend are left alone -/
theorem rises_fix {b : Bool} {cs : List Cell} {vs : List Int} (h : vs.length = cs.length) (r : rises b cs vs = true) : srt b cs vs = vs := by
  rw [srt_up]
  exact fold_fix (fun ks hk k hkk => by rw [h]; exact (lns_parts b cs).bd ks hk k hkk) (rises_iff.mp r)
/-- lines that do not ascend lose inversions -/
theorem srt_lt {b : Bool} {cs : List Cell} {vs : List Int} (h : vs.length = cs.length) (r : rises b cs vs = false) : inv (srt b cs vs) < inv vs := by
  rcases srt_dn (b := b) h with e | e
  · have := srt_rises (b := b) h
    rw [e, r] at this
    cases this
  · exact e
end KS
namespace KS
open PySem PySem.Spec PyProof.Rows L2
/-- kinds in turns, this one first -/
def turns : Bool → Nat → List Bool
  | _, 0 => []
  | b, n + 1 => b :: turns (!b) n
def kindAt (b : Bool) (n : Nat) : Bool := if n % 2 = 0 then b else !b
theorem turns_succ : ∀ (b : Bool) (n : Nat), turns b (n + 1) = turns b n ++ [kindAt b n]
  | b, 0 => rfl
  | b, n + 1 => by
    show b :: turns (!b) (n + 1) = b :: (turns (!b) n ++ [kindAt b (n + 1)])
    rw [turns_succ (!b) n]
    have e : kindAt (!b) n = kindAt b (n + 1) := by
      unfold kindAt
      rcases Nat.mod_two_eq_zero_or_one n with h | h
      · rw [if_pos h, if_neg (by omega)]
      · rw [if_neg (by omega), if_pos (by omega)]
        simp
    rw [e]
theorem kindAt_succ (b : Bool) (n : Nat) : kindAt b (n + 1) = !kindAt b n := by
  unfold kindAt
  rcases Nat.mod_two_eq_zero_or_one n with h | h
  · rw [if_pos h, if_neg (show ¬ (n + 1) % 2 = 0 by omega)]
  · rw [if_pos (show (n + 1) % 2 = 0 by omega), if_neg (show ¬ n % 2 = 0 by omega)]
    simp
theorem turns_len : ∀ (b : Bool) (n : Nat), (turns b n).length = n
  | _, 0 => rfl
  | b, n + 1 => by
    show (turns (!b) n).length + 1 = n + 1
    rw [turns_len (!b) n]
def settled (cs : List Cell) (vs : List Int) : Bool := rises false cs vs && rises true cs vs
def stat (cs : List Cell) (b : Bool) (vs : List Int) (n : Nat) : List Int := aft cs (turns b n) vs
theorem stat_succ (cs : List Cell) (b : Bool) (vs : List Int) (n : Nat) : stat cs b vs (n + 1) = srt (kindAt b n) cs (stat cs b vs n) := by
  unfold stat
  rw [turns_succ, aft_more]
theorem stat_len (cs : List Cell) (b : Bool) (vs : List Int) (n : Nat) : (stat cs b vs n).length = vs.length := aft_len _ _ _
/-- the least number of sorts in turns behind which both kinds ascend, and the values then -/
structure RestIs (cs : List Cell) (b : Bool) (vs : List Int) (n : Nat) : Prop where
  end_ : settled cs (stat cs b vs n) = true
  least : ∀ m, m < n → settled cs (stat cs b vs m) = false
theorem RestIs.uniq {cs : List Cell} {b : Bool} {vs : List Int} {n m : Nat} (h : RestIs cs b vs n) (k : RestIs cs b vs m) : n = m := by
  rcases Nat.lt_trichotomy n m with c | c | c
  · have := k.least n c
    rw [h.end_] at this
    cases this
  · exact c
  · have := h.least m c
    rw [k.end_] at this
    cases this
theorem settled_not {cs : List Cell} {vs : List Int} {k : Bool} (h : settled cs vs = false) (r : rises k cs vs = true) : rises (!k) cs vs = false := by
  unfold settled at h
  cases k
  · rw [r] at h
    simpa using h
  · rw [r] at h
    simpa using h
/-- a variant of the turns -/
def fuel (cs : List Cell) (k : Bool) (vs : List Int) : Nat := 2 * inv vs + if rises k cs vs = true then 1 else 0
theorem fuel_lt {cs : List Cell} {k : Bool} {vs : List Int} (hl : vs.length = cs.length) (h : settled cs vs = false) : fuel cs (!k) (srt k cs vs) < fuel cs k vs := by
  unfold fuel
  cases r : rises k cs vs with
  | true =>
    rw [rises_fix hl r, if_pos rfl, if_neg (by rw [settled_not h r]; decide)]
    omega
  | false =>
    have := srt_lt hl r
    rw [if_neg (show ¬ (false = true) by decide)]
    split <;> omega
/-- at most 277 sorts settle any table of 24 cells -/
theorem stat_inv {cs : List Cell} {b : Bool} {vs : List Int} {n : Nat} (hl : vs.length = cs.length) (h : RestIs cs b vs n) : ∀ m, m + 1 ≤ n → inv (stat cs b vs (m + 1)) + m ≤ inv (stat cs b vs 1)
  | 0, _ => Nat.le_refl _
  | m + 1, hm => by
    have ih := stat_inv hl h m (by omega)
    have ns := h.least (m + 1) (by omega)
    have ln : (stat cs b vs m).length = cs.length := by rw [stat_len, hl]
    have r : rises (kindAt b m) cs (stat cs b vs (m + 1)) = true := by
      rw [stat_succ]
      exact srt_rises ln
    have r2 := settled_not ns r
    rw [← kindAt_succ] at r2
    have lt := srt_lt (by rw [stat_len, hl]) r2
    rw [← stat_succ] at lt
    omega
theorem rest_le {cs : List Cell} {b : Bool} {vs : List Int} {n : Nat} (hl : vs.length = cs.length) (hc : cs.length ≤ 24) (h : RestIs cs b vs n) : n ≤ 277 := by
  cases n with
  | zero => omega
  | succ m =>
    have i := stat_inv hl h m (Nat.le_refl _)
    have le := inv_le (stat cs b vs 1)
    rw [stat_len, hl] at le
    have : cs.length * (cs.length - 1) ≤ 24 * 23 := Nat.mul_le_mul hc (by omega)
    omega
end KS
namespace KS
open PySem PySem.Spec PyProof.Rows L2
/-! ### a sort only moves the values -/
def one (x y : Int) : Nat := if x = y then 1 else 0
theorem count_one (x a : Int) (l : List Int) : (a :: l).count x = l.count x + one a x := by
  rw [List.count_cons]
  unfold one
  by_cases e : a = x
  · rw [if_pos e, if_pos (by simpa using e)]
  · rw [if_neg e, if_neg (by simpa using e)]
theorem count_set (x y : Int) : ∀ {l : List Int} {k : Nat} {v : Int}, l[k]? = some v → (l.set k y).count x + one v x = l.count x + one y x
  | [], k, v, h => by simp at h
  | a :: l, 0, v, h => by
    simp at h
    subst h
    show (y :: l).count x + one a x = (a :: l).count x + one y x
    rw [count_one, count_one]
    omega
  | a :: l, k + 1, v, h => by
    have h' : l[k]? = some v := by simpa using h
    have ih := count_set x y h'
    show (a :: l.set k y).count x + one v x = (a :: l).count x + one y x
    rw [count_one, count_one]
    omega
theorem getN_set {acc : List Int} {k : Nat} {y : Int} {ks : List Nat} (h : k ∉ ks) : getN (acc.set k y) ks = getN acc ks := by
  unfold getN
  refine List.map_congr_left fun j hj => ?_
  have : k ≠ j := fun e => h (e ▸ hj)
  rw [List.getD_eq_getElem?_getD, List.getD_eq_getElem?_getD, List.getElem?_set_ne this]
theorem put_count (x : Int) : ∀ {ks : List Nat} {ys acc : List Int}, ks.Nodup → ks.length = ys.length → (∀ k ∈ ks, k < acc.length) → (putN acc ks ys).count x + (getN acc ks).count x = acc.count x + ys.count x
  | [], [], acc, _, _, _ => by
    rw [putN_nil]
    rfl
  | [], _ :: _, acc, _, h, _ => by simp at h
  | _ :: _, [], acc, _, h, _ => by simp at h
  | k :: ks, y :: ys, acc, nd, hl, hb => by
    rw [List.nodup_cons] at nd
    have hk := hb k List.mem_cons_self
    obtain ⟨v, hv⟩ : ∃ v, acc[k]? = some v := ⟨acc[k], List.getElem?_eq_getElem hk⟩
    have ih := put_count x (ks := ks) (ys := ys) (acc := acc.set k y) nd.2 (by simpa using hl) (fun j hj => by
      rw [List.length_set]
      exact hb j (List.mem_cons_of_mem _ hj))
    rw [getN_set nd.1] at ih
    have cs := count_set x y hv
    rw [putN_cons]
    have eg : getN acc (k :: ks) = v :: getN acc ks := by
      unfold getN
      rw [List.map_cons, getD_of hv]
    rw [eg, count_one, count_one]
    omega
theorem put_perm {ks : List Nat} {ys acc : List Int} (nd : ks.Nodup) (hb : ∀ k ∈ ks, k < acc.length) (p : ys.Perm (getN acc ks)) : (putN acc ks ys).Perm acc := by
  rw [List.perm_iff_count]
  intro x
  have hl : ks.length = ys.length := by
    rw [p.length_eq]
    unfold getN
    rw [List.length_map]
  have := put_count x (ys := ys) nd hl hb
  rw [p.count_eq] at this
  omega
theorem asc_nodup {ks : List Nat} (h : ks.Pairwise (· < ·)) : ks.Nodup := h.imp fun q e => by omega
theorem fold_perm {vs : List Int} : ∀ {ls : List (List Nat)} {acc : List Int}, Parts acc.length ls → (∀ ks ∈ ls, ∀ k ∈ ks, acc[k]? = vs[k]?) → (ls.foldl (srtN vs) acc).Perm acc
  | [], acc, _, _ => List.Perm.refl _
  | ks :: ls, acc, P, h => by
    have pc := List.pairwise_cons.mp P.apart
    have e : getN vs ks = getN acc ks := getN_congr fun k hk => (h ks List.mem_cons_self k hk).symm
    have d : (srtN vs acc ks).Perm acc := by
      unfold srtN
      rw [e]
      exact put_perm (asc_nodup (P.asc ks List.mem_cons_self)) (P.bd ks List.mem_cons_self) (sortI_perm _)
    refine List.Perm.trans (fold_perm (ls := ls) (acc := srtN vs acc ks) ⟨fun ms hm => P.asc ms (List.mem_cons_of_mem _ hm), fun ms hm k hk => ?_, pc.2⟩ fun ms hm k hk => ?_) d
    · rw [srtN_len]
      exact P.bd ms (List.mem_cons_of_mem _ hm) k hk
    · have nk : k ∉ ks := fun m => pc.1 ms hm k m hk
      rw [show (srtN vs acc ks)[k]? = acc[k]? from putN_off nk]
      exact h ms (List.mem_cons_of_mem _ hm) k hk
theorem srt_perm {b : Bool} {cs : List Cell} {vs : List Int} (h : vs.length = cs.length) : (srt b cs vs).Perm vs := by
  rw [srt_up]
  exact fold_perm (by rw [h]; exact lns_parts b cs) fun _ _ _ _ => rfl
theorem srt9 {b : Bool} {cs : List Cell} {vs : List Int} (h : Vals9 cs.length vs) : Vals9 cs.length (srt b cs vs) := h.perm (srt_perm h.len).symm
theorem aft9 {cs : List Cell} : ∀ (w : List Bool) {vs : List Int}, Vals9 cs.length vs → Vals9 cs.length (aft cs w vs)
  | [], _, h => h
  | b :: w, _, h => aft9 w (srt9 (b := b) h)
theorem aft_perm {cs : List Cell} : ∀ (w : List Bool) {vs : List Int}, vs.length = cs.length → (aft cs w vs).Perm vs
  | [], _, _ => List.Perm.refl _
  | b :: w, vs, h => (aft_perm w (by rw [srt_len]; exact h)).trans (srt_perm (b := b) h)
theorem fix_rises {b : Bool} {cs : List Cell} {vs : List Int} (h : vs.length = cs.length) : decide (srt b cs vs = vs) = rises b cs vs := by
  cases r : rises b cs vs with
  | true => exact decide_eq_true (rises_fix h r)
  | false =>
    refine decide_eq_false fun e => ?_
    have := srt_rises (b := b) h
    rw [e, r] at this
    cases this
def spIsSorted (K : PySem.W.Frag) : Sp := fun xs H Q _ => ∃ (a t : Addr) (b : Bool) (cs : List Cell) (vs : List Int), xs = [.ref a, .ref t, .str (if b = true then "C" else "R")] ∧ PlanAt K H a cs ∧ Good cs ∧ cs.length ≤ 24 ∧
  SqT K H t (vs.map V.int) ∧ Vals9 cs.length vs ∧ ∀ H', Same H H' → Q (.bl (rises b cs vs)) H'
def spSettled (K : PySem.W.Frag) : Sp := fun xs H Q _ => ∃ (a t : Addr) (cs : List Cell) (vs : List Int), xs = [.ref a, .ref t] ∧ PlanAt K H a cs ∧ Good cs ∧ cs.length ≤ 24 ∧
  SqT K H t (vs.map V.int) ∧ Vals9 cs.length vs ∧ ∀ H', Same H H' → Q (.bl (settled cs vs)) H'
def spOther : Sp := fun xs H Q _ => ∃ b : Bool, xs = [.str (if b = true then "C" else "R")] ∧ Q (.str (if (!b) = true then "C" else "R")) H
def spRestP (K : PySem.W.Frag) : Sp := fun xs H Q _ => ∃ (a t : Addr) (b : Bool) (cs : List Cell) (vs : List Int), xs = [.ref a, .ref t, .str (if b = true then "C" else "R")] ∧ PlanAt K H a cs ∧ Good cs ∧ cs.length ≤ 24 ∧
  SqT K H t (vs.map V.int) ∧ Vals9 cs.length vs ∧ ∀ H' r u n, Same H H' → SqT K H' r [.int (n : Nat), .ref u] → SqT K H' u ((stat cs b vs n).map V.int) → RestIs cs b vs n → Q (.ref r) H'
end KS
namespace KS
open PySem PySem.Spec PyProof.Rows L2
open PySem.W (AlikeAll dataLt minD min_list_default readsAll_atA reads_keeps alike_unique)
/-! ### x not in t -/
def rNotInT (K : PySem.W.Frag) : V → V → Hp → VK → Prop := fun x y H Q => ∃ d ds, Dp K H x d ∧ Dp K H y (.tuple ds) ∧ SeqAt.shaped d = true ∧ SeqAt.shaped (.tuple ds) = true ∧ Q (.bl (!ds.any fun z => PyData.eqv z d)) H
theorem op_notInT {X : Cx} (hu : X.A.units + 65 < cLine) : OpR X (compareOp .NotIn) (rNotInT X.K) := by
  intro pins s σ H x y v u Q I rx ry h
  obtain ⟨d, ds, hd, he, sd, se, q⟩ := h
  obtain ⟨as, r1⟩ := Dp.reads I d x v hd rx
  obtain ⟨bs, r2⟩ := Dp.reads I (.tuple ds) y u he ry
  refine SeqAt.notIn_tuple_reads r2 r1 (SeqAt.canLay_of_shaped se) (SeqAt.canLay_of_shaped sd) ?_ ⟨.bl _, H, I, rfl, q⟩
  have := SeqAt.depth_of_shaped sd
  have h2 : min (PyData.depthAll ds) d.depth ≤ d.depth := Nat.min_le_right _ _
  omega
/-! ### repr(x), x None or plain data -/
def rReprN (K : PySem.W.Frag) : List V → Hp → VK → Prop := fun xs H Q => (xs = [.non] ∧ Q (.str "None") H) ∨ ∃ (a : Addr) (d : PyData), xs = [.ref a] ∧ Dp K H (.ref a) d ∧ d.showable = true ∧ d.hasDict = false ∧ d.shown.length ≤ sizeLine ∧ d.depth ≤ 64 ∧ Q (.str d.shown) H
theorem call_reprN {X : Cx} (hgd : X.A.guards = some []) (hu : X.A.units + 100 < cLine) : CallR X (.builtin "repr") (rReprN X.K) := by
  intro pins s σ H xs us Q I r h
  rcases h with ⟨rfl, q⟩ | h
  · cases r with
    | cons r rr =>
      cases rr
      cases r
      exact P.repr_of_none ⟨.str "None", H, I.tok _, ⟨_, rfl⟩, q⟩
  · exact call_reprD hgd hu pins s σ H xs us Q I r h
/-! ### min(l, default=None), l a list of plain data, whose first is least -/
def rMinF (K : PySem.W.Frag) : List V → List V → Hp → VK → Prop := fun xs zs H Q => ∃ (l : Addr) (ys : List V) (ds : List PyData), xs = [.ref l] ∧ zs = [.non] ∧ SqL K H l ys ∧ DpAll K H ys ds ∧ AlikeAll ds ∧ PyData.depthAll ds ≤ 64 ∧
  ds.Pairwise (fun a b => dataLt b a = false) ∧ ds.Nodup ∧ (ds = [] → Q .non H) ∧ (∀ y d, ys.head? = some y → ds.head? = some d → Q y H)
theorem minD_first {x : PyData} : ∀ {xs : List PyData}, (∀ y ∈ xs, dataLt y x = false) → minD x xs = x
  | [], _ => rfl
  | y :: ys, h => by
    show ys.foldl _ (if dataLt y x then y else x) = x
    rw [h y List.mem_cons_self]
    exact minD_first fun z hz => h z (List.mem_cons_of_mem _ hz)
theorem cr_minF {X : Cx} (hc : X.calm = true) (hu : X.A.units + 100 < cLine) : CallRK X (.builtin "min") [Str.ofString "default"] (rMinF X.K) := by
  intro pins s σ H xs zs us ws Q I rx rz h
  obtain ⟨l, ys, ds, rfl, rfl, hl, hd, al, dp, pw, nd, q0, q1⟩ := h
  rw [Vals.ref1 rx]
  cases rz with
  | cons r rr =>
    cases rr
    cases r
    obtain ⟨its, rv, p, _⟩ := I.list hl
    obtain ⟨as, hr⟩ := Dp.readsAll I ds ys its hd rv
    refine min_list_default (I.ok.hd hc) p.isList (by simpa using hr) al (by omega) (fun e h' tk hk => ⟨.non, H, I.kept hk, rfl, q0 e⟩) fun y zs i v h' tk bs e hv rd hk => ?_
    subst e
    have hv' : its[i]? = some v := by simpa using hv
    have hm : minD y zs = y := minD_first fun z hz => (List.pairwise_cons.mp pw).1 z hz
    rw [hm] at rd
    -- the item is the first one
    obtain ⟨bs2, r2, hlt, hmem, _⟩ := readsAll_atA (vs := its.toArray) (xs := y :: zs) (by simpa using hr) i v (by simpa using hv)
    have r2' := reads_keeps hk r2
    have eq : (y :: zs).getD i .none = y := alike_unique _ _ v _ _ (al.1 _ hmem _ List.mem_cons_self) r2' rd
    have i0 : i = 0 := by
      cases i with
      | zero => rfl
      | succ j =>
        have hj : (y :: zs).getD (j + 1) .none = zs.getD j .none := rfl
        rw [hj] at eq
        have hjl : j < zs.length := by simpa using hlt
        have em : zs.getD j .none ∈ zs := by
          rw [List.getD_eq_getElem?_getD, List.getElem?_eq_getElem hjl]
          exact List.getElem_mem hjl
        rw [eq] at em
        exact absurd em (List.nodup_cons.mp nd).1
    subst i0
    cases rv with
    | nil => cases hv'
    | cons ra rb =>
      have ev := Option.some.inj hv'
      subst ev
      exact ⟨_, H, I.kept hk, ra, q1 _ y rfl rfl⟩
end KS
namespace KS
open PySem PySem.Spec PyProof.Rows L2
/-! ### obstacles, as mathematics -/
abbrev Quad := Nat × Nat × Nat × Nat
def inC (cs : List Cell) (r c : Nat) : Bool := decide (((r : Int), (c : Int)) ∈ cs)
def obs (cs : List Cell) (u l a b : Nat) : Bool := inC cs u a && inC cs l b && (inC cs u b != inC cs l a)
def obsQ (cs : List Cell) (q : Quad) : Bool := obs cs q.1 q.2.1 q.2.2.1 q.2.2.2
def qlt (p q : Quad) : Prop := p.1 < q.1 ∨ (p.1 = q.1 ∧ (p.2.1 < q.2.1 ∨ (p.2.1 = q.2.1 ∧ (p.2.2.1 < q.2.2.1 ∨ (p.2.2.1 = q.2.2.1 ∧ p.2.2.2 < q.2.2.2)))))
def okQ (q : Quad) : Prop := q.1 < q.2.1 ∧ q.2.1 ≤ 7 ∧ q.2.2.1 < q.2.2.2 ∧ q.2.2.2 ≤ 7
theorem qlt_tri (p q : Quad) : qlt p q ∨ p = q ∨ qlt q p := by
  obtain ⟨p1, p2, p3, p4⟩ := p
  obtain ⟨q1, q2, q3, q4⟩ := q
  unfold qlt
  simp only [Prod.mk.injEq]
  omega
def NoObs (cs : List Cell) : Prop := ∀ q, okQ q → obsQ cs q = false
structure First (cs : List Cell) (q : Quad) : Prop where
  ok : okQ q
  hit : obsQ cs q = true
  none : ∀ p, okQ p → qlt p q → obsQ cs p = false
/-- what obstacle is to tell -/
def Ans (cs : List Cell) : Option Quad → Prop
  | none => NoObs cs
  | some q => First cs q
theorem Ans.uniq {cs : List Cell} : ∀ {o o' : Option Quad}, Ans cs o → Ans cs o' → o = o'
  | none, none, _, _ => rfl
  | none, some q, h, k => by
    have h1 := h q k.ok
    rw [k.hit] at h1
    cases h1
  | some q, none, h, k => by
    have h1 := k q h.ok
    rw [h.hit] at h1
    cases h1
  | some q, some q', h, k => by
    rcases qlt_tri q q' with e | e | e
    · have h1 := k.none q h.ok e
      rw [h.hit] at h1
      cases h1
    · rw [e]
    · have h1 := h.none q' k.ok e
      rw [k.hit] at h1
      cases h1
def quadV (q : Quad) : List V := [.int (q.1 : Nat), .int (q.2.1 : Nat), .int (q.2.2.1 : Nat), .int (q.2.2.2 : Nat)]
def quadD (q : Quad) : PyData := .tuple [.int (q.1 : Nat), .int (q.2.1 : Nat), .int (q.2.2.1 : Nat), .int (q.2.2.2 : Nat)]
def QuadAt (K : PySem.W.Frag) (H : Hp) (v : V) : Option Quad → Prop
  | none => v = .non
  | some q => ∃ t, v = .ref t ∧ SqT K H t (quadV q)
theorem QuadAt.kt {K : PySem.W.Frag} {H H' : Hp} {v : V} : ∀ {o : Option Quad}, KT K H H' → QuadAt K H v o → QuadAt K H' v o
  | none, _, h => h
  | some q, k, ⟨t, e, h⟩ => ⟨t, e, k _ _ h⟩
def spIsObs (K : PySem.W.Frag) : Sp := fun xs H Q _ => ∃ (p : Addr) (cs : List Cell) (u l a b : Nat), xs = [.ref p, .int (u : Nat), .int (l : Nat), .int (a : Nat), .int (b : Nat)] ∧ PlanAt K H p cs ∧ ∀ H', Same H H' → Q (.bl (obs cs u l a b)) H'
def spObs (K : PySem.W.Frag) : Sp := fun xs H Q _ => ∃ (p : Addr) (cs : List Cell), xs = [.ref p] ∧ PlanAt K H p cs ∧ Good cs ∧ cs.length ≤ 24 ∧ ∀ H' v o, Same H H' → Ans cs o → QuadAt K H' v o → Q v H'
def spKeeps (K : PySem.W.Frag) : Sp := fun xs H Q _ => ∃ (p : Addr) (cs : List Cell), xs = [.ref p] ∧ PlanAt K H p cs ∧ Good cs ∧ cs.length ≤ 24 ∧ ∀ H' o, Same H H' → Ans cs o → Q (.bl (decide (o = none))) H'
theorem dp_quad {K : PySem.W.Frag} {H : Hp} {t : Addr} {q : Quad} (h : SqT K H t (quadV q)) : Dp K H (.ref t) (quadD q) := .tup h (.cons (.int _) (.cons (.int _) (.cons (.int _) (.cons (.int _) .nil))))
theorem quad_small {q : Quad} (h : okQ q) : Shows (quadD q) 960 ∧ (quadD q).depth ≤ 64 := by
  obtain ⟨h1, h2, h3, h4⟩ := h
  have := shows_line (l := [(q.1 : Int), (q.2.1 : Int), (q.2.2.1 : Int), (q.2.2.2 : Int)]) (by
    intro x hx
    rcases (by simpa using hx : x = (q.1 : Int) ∨ x = (q.2.1 : Int) ∨ x = (q.2.2.1 : Int) ∨ x = (q.2.2.2 : Int)) with e | e | e | e <;> subst e <;> omega) (by show 4 ≤ 64; decide)
  exact ⟨this, by show (lineD [(q.1 : Int), (q.2.1 : Int), (q.2.2.1 : Int), (q.2.2.2 : Int)]).depth ≤ 64; rw [depth_line]; decide⟩
theorem in_cell {K : PySem.W.Frag} {H : Hp} {T p : Addr} {cs : List Cell} {r c : Nat} (hT : SqT K H T [.int (r : Nat), .int (c : Nat)]) (hp : PlanAt K H p cs) {Q : VK} (k : Q (.bl (inC cs r c)) H) : rInT K (.ref T) (.ref p) H Q := by
  refine ⟨cellD ((r : Int), (c : Int)), cs.map cellD, dp_cell hT, hp.dp, cell_shaped _, plan_shaped _, ?_⟩
  rw [in_plan]
  exact k
theorem notin_cell {K : PySem.W.Frag} {H : Hp} {T p : Addr} {cs : List Cell} {r c : Nat} (hT : SqT K H T [.int (r : Nat), .int (c : Nat)]) (hp : PlanAt K H p cs) {Q : VK} (k : Q (.bl (!inC cs r c)) H) : rNotInT K (.ref T) (.ref p) H Q := by
  refine ⟨cellD ((r : Int), (c : Int)), cs.map cellD, dp_cell hT, hp.dp, cell_shaped _, plan_shaped _, ?_⟩
  rw [in_plan]
  exact k
/-! ### the quads in their order -/
def inner4 (u l a : Nat) : List Quad := (List.range (7 - a)).map fun k => (u, l, a, a + 1 + k)
def mid4 (u l : Nat) : List Quad := (List.range 7).flatMap fun a => inner4 u l a
def two4 (u : Nat) : List Quad := (List.range (7 - u)).flatMap fun k => mid4 u (u + 1 + k)
def all4 : List Quad := (List.range 7).flatMap two4
theorem mem_inner4 {u l a : Nat} {q : Quad} : q ∈ inner4 u l a ↔ q.1 = u ∧ q.2.1 = l ∧ q.2.2.1 = a ∧ a < q.2.2.2 ∧ q.2.2.2 ≤ 7 := by
  unfold inner4
  rw [List.mem_map]
  constructor
  · rintro ⟨k, hk, rfl⟩
    have := List.mem_range.mp hk
    exact ⟨rfl, rfl, rfl, by show a < a + 1 + k; omega, by show a + 1 + k ≤ 7; omega⟩
  · rintro ⟨h1, h2, h3, h4, h5⟩
    obtain ⟨q1, q2, q3, q4⟩ := q
    dsimp only at h1 h2 h3 h4 h5
    refine ⟨q4 - (a + 1), List.mem_range.mpr (by omega), ?_⟩
    simp only [Prod.mk.injEq]
    omega
theorem mem_mid4 {u l : Nat} {q : Quad} : q ∈ mid4 u l ↔ q.1 = u ∧ q.2.1 = l ∧ q.2.2.1 < q.2.2.2 ∧ q.2.2.2 ≤ 7 := by
  unfold mid4
  rw [List.mem_flatMap]
  constructor
  · rintro ⟨a, ha, h⟩
    obtain ⟨h1, h2, h3, h4, h5⟩ := mem_inner4.mp h
    exact ⟨h1, h2, by omega, h5⟩
  · rintro ⟨h1, h2, h3, h4⟩
    exact ⟨q.2.2.1, List.mem_range.mpr (by omega), mem_inner4.mpr ⟨h1, h2, rfl, h3, h4⟩⟩
theorem mem_two4 {u : Nat} {q : Quad} : q ∈ two4 u ↔ q.1 = u ∧ u < q.2.1 ∧ q.2.1 ≤ 7 ∧ q.2.2.1 < q.2.2.2 ∧ q.2.2.2 ≤ 7 := by
  unfold two4
  rw [List.mem_flatMap]
  constructor
  · rintro ⟨k, hk, h⟩
    have := List.mem_range.mp hk
    obtain ⟨h1, h2, h3, h4⟩ := mem_mid4.mp h
    exact ⟨h1, by omega, by omega, h3, h4⟩
  · rintro ⟨h1, h2, h3, h4, h5⟩
    exact ⟨q.2.1 - (u + 1), List.mem_range.mpr (by omega), mem_mid4.mpr ⟨h1, by omega, h4, h5⟩⟩
theorem mem_all4 {q : Quad} : q ∈ all4 ↔ okQ q := by
  unfold all4 okQ
  rw [List.mem_flatMap]
  constructor
  · rintro ⟨u, hu, h⟩
    obtain ⟨h1, h2, h3, h4, h5⟩ := mem_two4.mp h
    exact ⟨by omega, h3, h4, h5⟩
  · rintro ⟨h1, h2, h3, h4⟩
    exact ⟨q.1, List.mem_range.mpr (by omega), mem_two4.mpr ⟨rfl, h1, h2, h3, h4⟩⟩
theorem asc_all4 : all4.Pairwise qlt := by
  have i4 : ∀ u l a, (inner4 u l a).Pairwise qlt := fun u l a => by
    unfold inner4
    rw [List.pairwise_map]
    refine List.pairwise_lt_range.imp fun {x y} h => ?_
    exact .inr ⟨rfl, .inr ⟨rfl, .inr ⟨rfl, by show a + 1 + x < a + 1 + y; omega⟩⟩⟩
  have m4 : ∀ u l, (mid4 u l).Pairwise qlt := fun u l => by
    unfold mid4
    rw [List.pairwise_flatMap]
    refine ⟨fun a _ => i4 u l a, List.pairwise_lt_range.imp fun {x y} h p hp q hq => ?_⟩
    obtain ⟨a1, a2, a3, _⟩ := mem_inner4.mp hp
    obtain ⟨b1, b2, b3, _⟩ := mem_inner4.mp hq
    exact .inr ⟨by omega, .inr ⟨by omega, .inl (by omega)⟩⟩
  have t4 : ∀ u, (two4 u).Pairwise qlt := fun u => by
    unfold two4
    rw [List.pairwise_flatMap]
    refine ⟨fun k _ => m4 _ _, List.pairwise_lt_range.imp fun {x y} h p hp q hq => ?_⟩
    obtain ⟨a1, a2, _⟩ := mem_mid4.mp hp
    obtain ⟨b1, b2, _⟩ := mem_mid4.mp hq
    exact .inr ⟨by omega, .inl (by omega)⟩
  unfold all4
  rw [List.pairwise_flatMap]
  refine ⟨fun u _ => t4 u, List.pairwise_lt_range.imp fun {x y} h p hp q hq => ?_⟩
  obtain ⟨a1, _⟩ := mem_two4.mp hp
  obtain ⟨b1, _⟩ := mem_two4.mp hq
  exact .inl (by omega)
theorem len_all4 : all4.length = 784 := by decide +kernel
theorem qlt_irr (p : Quad) : ¬ qlt p p := by
  unfold qlt
  omega
theorem qlt_asym {p q : Quad} (h : qlt p q) : ¬ qlt q p := by
  unfold qlt at *
  omega
/-- the first of those that are left -/
theorem ans_of_filter (cs : List Cell) : Ans cs (all4.filter (obsQ cs)).head? := by
  have pw : (all4.filter (obsQ cs)).Pairwise qlt := asc_all4.sublist List.filter_sublist
  have mm : ∀ q, q ∈ all4.filter (obsQ cs) ↔ okQ q ∧ obsQ cs q = true := fun q => by rw [List.mem_filter, mem_all4]
  generalize all4.filter (obsQ cs) = L at pw mm
  cases L with
  | nil =>
    intro q hq
    cases e : obsQ cs q with
    | false => rfl
    | true => exact absurd ((mm q).mpr ⟨hq, e⟩) (by simp)
  | cons q L =>
    obtain ⟨h1, h2⟩ := (mm q).mp List.mem_cons_self
    refine ⟨h1, h2, fun p hp hlt => ?_⟩
    cases e : obsQ cs p with
    | false => rfl
    | true =>
      rcases List.mem_cons.mp ((mm p).mpr ⟨hp, e⟩) with z | z
      · rw [z] at hlt
        exact absurd hlt (qlt_irr q)
      · exact absurd hlt (qlt_asym ((List.pairwise_cons.mp pw).1 p z))
open PySem.W (AlikeAll dataLt dataLt_tuple dataLt_cons dataLt_int alike)
theorem lt_quad {p q : Quad} (h : qlt p q) : dataLt (quadD q) (quadD p) = false := by
  unfold quadD
  rw [dataLt_tuple, dataLt_cons (by simp [alike]), dataLt_cons (by simp [alike]), dataLt_cons (by simp [alike]), dataLt_cons (by simp [alike])]
  rw [dataLt_int, dataLt_int, dataLt_int, dataLt_int]
  simp only [PyData.eqv, beq_iff_eq]
  unfold qlt at h
  by_cases e1 : (q.1 : Int) = (p.1 : Int)
  · rw [if_pos e1]
    by_cases e2 : (q.2.1 : Int) = (p.2.1 : Int)
    · rw [if_pos e2]
      by_cases e3 : (q.2.2.1 : Int) = (p.2.2.1 : Int)
      · rw [if_pos e3, if_neg (by omega)]
        exact decide_eq_false (by omega)
      · rw [if_neg e3]
        exact decide_eq_false (by omega)
    · rw [if_neg e2]
      exact decide_eq_false (by omega)
  · rw [if_neg e1]
    exact decide_eq_false (by omega)
theorem quads_alike (L : List Quad) : AlikeAll (L.map quadD) := by
  refine ⟨fun x hx y hy => ?_, fun x hx => ?_⟩
  · obtain ⟨p, _, rfl⟩ := List.mem_map.mp hx
    obtain ⟨q, _, rfl⟩ := List.mem_map.mp hy
    simp [quadD, alike, PySem.W.alikeAll]
  · obtain ⟨p, _, rfl⟩ := List.mem_map.mp hx
    unfold quadD
    intro e
    cases e
theorem quads_depth : ∀ L : List Quad, PyData.depthAll (L.map quadD) ≤ 1
  | [] => by simp [PyData.depthAll]
  | q :: L => by
    have a := quads_depth L
    have b : (quadD q).depth = 1 := depth_line [(q.1 : Int), (q.2.1 : Int), (q.2.2.1 : Int), (q.2.2.2 : Int)]
    simp only [List.map_cons, PyData.depthAll]
    omega
theorem quad_inj {p q : Quad} (h : quadD p = quadD q) : p = q := by
  unfold quadD at h
  obtain ⟨p1, p2, p3, p4⟩ := p
  obtain ⟨q1, q2, q3, q4⟩ := q
  injection h with h
  simp only [List.cons.injEq, PyData.int.injEq, and_true] at h
  simp only [Prod.mk.injEq]
  omega
def shownO : Option Quad → Str
  | none => "None"
  | some q => (quadD q).shown
theorem if_reprN {K : PySem.W.Frag} {t : TS} {D : Ends} {σ : L2.St} {H : Hp} {i j : Nat} {x y : V} {o : Option Quad} {cs : List Cell} (h1 : σ[i]? = some (some x)) (h2 : σ[j]? = some (some y)) (an : Ans cs o) (hx : QuadAt K H x o) (hy : QuadAt K H y o) (k : D.nx σ H) :
    tIfS (tTest (tOp rNe (tCB (rReprN K) (tCons (tVar i) tNil)) (tCB (rReprN K) (tCons (tVar j) tNil)))) t tNext D σ H := by
  cases o with
  | none =>
    have hx : x = .non := hx
    have hy : y = .non := hy
    subst hx hy
    refine ⟨_, h1, .inl ⟨rfl, _, h2, .inl ⟨rfl, ?_⟩⟩⟩
    generalize Str.ofString "None" = z
    exact ⟨rfl, _, rfl, iteNS rfl k⟩
  | some q =>
    obtain ⟨u, rfl, hu⟩ := hx
    obtain ⟨v, rfl, hv⟩ := hy
    obtain ⟨sh, dp⟩ := quad_small an.ok
    have hd := dp_quad hu
    have he := dp_quad hv
    have hl : (quadD q).shown.length ≤ sizeLine := sh.len (by decide)
    have h3 := sh.show_
    have h4 := sh.nod
    clear sh
    generalize quadD q = d at hd he hl h3 h4 dp
    refine ⟨_, h1, .inr ⟨u, d, rfl, hd, h3, h4, hl, dp, ?_⟩⟩
    refine ⟨_, h2, .inr ⟨v, d, rfl, he, h3, h4, hl, dp, ?_⟩⟩
    generalize d.shown = z
    exact ⟨rfl, _, rfl, iteNS rfl k⟩
end KS
namespace KS
open PySem PySem.Spec PyProof.Rows L2
/-! ### counts -/
theorem countP_four {α : Type} {p q s t : α → Bool} : ∀ {l : List α}, (∀ x ∈ l, (p x).toNat + (q x).toNat ≤ (s x).toNat + (t x).toNat) → l.countP p + l.countP q ≤ l.countP s + l.countP t
  | [], _ => by simp
  | x :: l, h => by
    have ih := countP_four (l := l) fun y hy => h y (List.mem_cons_of_mem _ hy)
    have hx := h x List.mem_cons_self
    have c : ∀ f : α → Bool, (x :: l).countP f = l.countP f + (f x).toNat := fun f => by
      rw [List.countP_cons]
      cases f x <;> rfl
    rw [c, c, c, c]
    omega
theorem nodup_len_le : ∀ {l m : List Nat}, l.Nodup → (∀ x ∈ l, x ∈ m) → l.length ≤ m.length
  | [], _, _, _ => Nat.zero_le _
  | x :: l, m, nd, h => by
    rw [List.nodup_cons] at nd
    have hx := h x List.mem_cons_self
    have ih := nodup_len_le (l := l) (m := m.erase x) nd.2 fun y hy => by
      have : y ≠ x := fun e => nd.1 (e ▸ hy)
      exact (List.mem_erase_of_ne this).mpr (h y (List.mem_cons_of_mem _ hy))
    rw [List.length_erase_of_mem hx] at ih
    have : 0 < m.length := List.length_pos_of_mem hx
    rw [List.length_cons]
    omega
theorem count_by {g : Nat → Nat} {ks : List Nat} (nd : ks.Pairwise fun i j => g i ≠ g j) (lt : ∀ k ∈ ks, g k < 8) (p : Nat → Bool) : ks.countP p = (List.range 8).countP fun r => ks.any fun k => decide (g k = r) && p k := by
  rw [List.countP_eq_length_filter, List.countP_eq_length_filter]
  have e : (ks.filter p).length = ((ks.filter p).map g).length := by rw [List.length_map]
  rw [e]
  have n1 : ((ks.filter p).map g).Nodup := by
    rw [List.nodup_iff_pairwise_ne, List.pairwise_map]
    exact nd.sublist List.filter_sublist
  have n2 : ((List.range 8).filter fun r => ks.any fun k => decide (g k = r) && p k).Nodup := List.nodup_range.sublist List.filter_sublist
  have mm : ∀ r, r ∈ (ks.filter p).map g ↔ r ∈ (List.range 8).filter fun r => ks.any fun k => decide (g k = r) && p k := fun r => by
    rw [List.mem_map, List.mem_filter, List.mem_range]
    constructor
    · rintro ⟨k, hk, rfl⟩
      obtain ⟨h1, h2⟩ := List.mem_filter.mp hk
      refine ⟨lt k h1, List.any_eq_true.mpr ⟨k, h1, by rw [decide_eq_true rfl, h2]; rfl⟩⟩
    · rintro ⟨_, h⟩
      obtain ⟨k, h1, h2⟩ := List.any_eq_true.mp h
      rw [Bool.and_eq_true] at h2
      exact ⟨k, List.mem_filter.mpr ⟨h1, h2.2⟩, of_decide_eq_true h2.1⟩
  exact Nat.le_antisymm (nodup_len_le n1 fun x hx => (mm x).mp hx) (nodup_len_le n2 fun x hx => (mm x).mpr hx)
theorem sorted_ge {L : List Int} (h : L.Pairwise (· ≤ ·)) {p : Nat} {x : Int} (hp : L[p]? = some x) : L.length ≤ L.countP (fun v => decide (x ≤ v)) + p := by
  induction L generalizing p with
  | nil => simp at hp
  | cons a L ih =>
    rw [List.pairwise_cons] at h
    cases p with
    | zero =>
      simp at hp
      subst hp
      have : (a :: L).countP (fun v => decide (a ≤ v)) = (a :: L).length := List.countP_eq_length.mpr fun v hv => by
        rcases List.mem_cons.mp hv with e | e
        · exact decide_eq_true (by omega)
        · exact decide_eq_true (h.1 v e)
      omega
    | succ p =>
      have hp' : L[p]? = some x := by simpa using hp
      have := ih h.2 hp'
      rw [List.countP_cons, List.length_cons]
      omega
theorem sorted_lt {L : List Int} (h : L.Pairwise (· ≤ ·)) {p : Nat} {x y : Int} (hp : L[p]? = some y) (hy : y < x) : L.countP (fun v => decide (x ≤ v)) + (p + 1) ≤ L.length := by
  induction L generalizing p with
  | nil => simp at hp
  | cons a L ih =>
    rw [List.pairwise_cons] at h
    cases p with
    | zero =>
      simp at hp
      subst hp
      rw [List.countP_cons, if_neg (by simp; omega), List.length_cons]
      have := List.countP_le_length (p := fun v => decide (x ≤ v)) (l := L)
      omega
    | succ p =>
      have hp' : L[p]? = some y := by simpa using hp
      have i := ih h.2 hp'
      have ha := h.1 y (List.mem_of_getElem? hp')
      rw [List.countP_cons, if_neg (by simp; omega), List.length_cons]
      omega
/-- an ascending list: the place of an item counts those before -/
theorem asc_place : ∀ {ks : List Nat} {p i : Nat}, ks.Pairwise (· < ·) → ks[p]? = some i → ks.countP (fun m => decide (i ≤ m)) + p = ks.length
  | [], _, _, _, h => by simp at h
  | a :: ks, 0, i, pw, h => by
    simp at h
    subst h
    rw [List.pairwise_cons] at pw
    have : (a :: ks).countP (fun m => decide (a ≤ m)) = (a :: ks).length := List.countP_eq_length.mpr fun v hv => by
      rcases List.mem_cons.mp hv with e | e
      · exact decide_eq_true (by omega)
      · exact decide_eq_true (by have := pw.1 v e; omega)
    omega
  | a :: ks, p + 1, i, pw, h => by
    rw [List.pairwise_cons] at pw
    have h' : ks[p]? = some i := by simpa using h
    have := asc_place pw.2 h'
    have := pw.1 i (List.mem_of_getElem? h')
    rw [List.countP_cons, if_neg (by simp; omega), List.length_cons]
    omega
/-! ### the cells of a plan by their lines -/
def gB (b : Bool) (cs : List Cell) (i : Nat) : Int := ((cs[i]?).map (pick b)).getD 0
theorem gB_at {b : Bool} {cs : List Cell} {i : Nat} {c : Cell} (h : cs[i]? = some c) : gB b cs i = pick b c := by
  unfold gB
  rw [h]
  rfl
theorem gB_bd {b : Bool} {cs : List Cell} (g : Good cs) {i : Nat} (h : i < cs.length) : 0 ≤ gB b cs i ∧ gB b cs i ≤ 7 := by
  have e : cs[i]? = some cs[i] := List.getElem?_eq_getElem h
  rw [gB_at e]
  have := g.grid _ (List.mem_of_getElem? e)
  unfold InGrid at this
  unfold pick
  split <;> omega
theorem gB_lt {b : Bool} {cs : List Cell} (g : Good cs) {i j : Nat} (hij : i < j) (hj : j < cs.length) (e : gB b cs i = gB b cs j) : gB (!b) cs i < gB (!b) cs j := by
  have hi : i < cs.length := by omega
  have ei : cs[i]? = some cs[i] := List.getElem?_eq_getElem hi
  have ej : cs[j]? = some cs[j] := List.getElem?_eq_getElem hj
  have lt := (List.pairwise_iff_getElem.mp g.asc) i j hi hj hij
  rw [gB_at ei, gB_at ej] at e ⊢
  unfold lt2 at lt
  cases b
  · have e' : cs[i].1 = cs[j].1 := e
    show cs[i].2 < cs[j].2
    omega
  · have e' : cs[i].2 = cs[j].2 := e
    show cs[i].1 < cs[j].1
    omega
theorem gB_le {b : Bool} {cs : List Cell} (g : Good cs) {i m : Nat} (hi : i < cs.length) (hm : m < cs.length) (e : gB b cs i = gB b cs m) : i ≤ m ↔ gB (!b) cs i ≤ gB (!b) cs m := by
  constructor
  · intro h
    rcases Nat.lt_or_ge i m with c | c
    · have := gB_lt g c hm e
      omega
    · have : i = m := by omega
      rw [this]
      omega
  · intro h
    rcases Nat.lt_or_ge m i with c | c
    · have := gB_lt g c hi e.symm
      omega
    · exact c
def lineN (b : Bool) (cs : List Cell) (r : Int) : List Nat := idxsN b cs cs.length r
theorem mem_lineN {b : Bool} {cs : List Cell} {r : Int} {i : Nat} : i ∈ lineN b cs r ↔ i < cs.length ∧ gB b cs i = r := by
  unfold lineN idxsN
  rw [List.mem_filter, List.mem_range]
  constructor
  · rintro ⟨h1, h2⟩
    have e : cs[i]? = some cs[i] := List.getElem?_eq_getElem h1
    have h2 := of_decide_eq_true h2
    rw [e] at h2
    exact ⟨h1, by rw [gB_at e]; exact Option.some.inj h2⟩
  · rintro ⟨h1, h2⟩
    have e : cs[i]? = some cs[i] := List.getElem?_eq_getElem h1
    refine ⟨h1, decide_eq_true ?_⟩
    rw [e]
    rw [gB_at e] at h2
    exact congrArg some h2
theorem lineN_asc (b : Bool) (cs : List Cell) (r : Int) : (lineN b cs r).Pairwise (· < ·) := List.pairwise_lt_range.sublist List.filter_sublist
theorem lineN_mem {b : Bool} {cs : List Cell} (g : Good cs) {i : Nat} (hi : i < cs.length) : lineN b cs (gB b cs i) ∈ lnsN b cs := by
  have bd := gB_bd (b := b) g hi
  unfold lnsN
  rw [List.mem_filter, List.mem_map]
  refine ⟨⟨(gB b cs i).toNat, List.mem_range.mpr (by omega), ?_⟩, decide_eq_true fun e => ?_⟩
  · rw [Int.toNat_of_nonneg bd.1]
    rfl
  · have : i ∈ lineN b cs (gB b cs i) := mem_lineN.mpr ⟨hi, rfl⟩
    rw [e] at this
    cases this
def vI (vs : List Int) (i : Nat) : Int := vs.getD i 0
theorem getN_vI (vs : List Int) (ks : List Nat) : getN vs ks = ks.map (vI vs) := rfl
theorem asc_mem {ks : List Nat} {R : Nat → Nat → Prop} (h : ks.Pairwise R) (a : ks.Pairwise (· < ·)) {i j : Nat} (hi : i ∈ ks) (hj : j ∈ ks) (hij : i < j) : R i j := by
  obtain ⟨p, hp⟩ := List.mem_iff_getElem?.mp hi
  obtain ⟨q, hq⟩ := List.mem_iff_getElem?.mp hj
  obtain ⟨l1, e1⟩ := List.getElem?_eq_some_iff.mp hp
  obtain ⟨l2, e2⟩ := List.getElem?_eq_some_iff.mp hq
  rcases Nat.lt_trichotomy p q with c | c | c
  · have := (List.pairwise_iff_getElem.mp h) p q l1 l2 c
    rw [e1, e2] at this
    exact this
  · subst c
    omega
  · have := (List.pairwise_iff_getElem.mp a) q p l2 l1 c
    rw [e1, e2] at this
    omega
/-- rising lines, pair by pair -/
theorem rises_pairs {b : Bool} {cs : List Cell} {vs : List Int} (g : Good cs) : rises b cs vs = true ↔ ∀ i j, i < j → j < cs.length → gB b cs i = gB b cs j → vI vs i ≤ vI vs j := by
  rw [rises_iff]
  constructor
  · intro h i j hij hj e
    have hi : i < cs.length := by omega
    have hk := h _ (lineN_mem (b := b) g hi)
    have pw : (getN vs (lineN b cs (gB b cs i))).Pairwise (· ≤ ·) := by
      rw [hk]
      exact sortI_asc _
    rw [getN_vI, List.pairwise_map] at pw
    exact asc_mem pw (lineN_asc _ _ _) (mem_lineN.mpr ⟨hi, rfl⟩) (mem_lineN.mpr ⟨hj, e.symm⟩) hij
  · intro h ks hks
    unfold lnsN at hks
    obtain ⟨r, _, rfl⟩ := List.mem_map.mp (List.mem_filter.mp hks).1
    refine sortI_eq (List.Perm.refl _) ?_
    rw [getN_vI, List.pairwise_map]
    refine (lineN_asc b cs (r : Int)).imp_of_mem fun {i j} hi hj hij => ?_
    obtain ⟨i1, i2⟩ := mem_lineN.mp hi
    obtain ⟨j1, j2⟩ := mem_lineN.mp hj
    exact h i j hij j1 (by omega)
/-- what stands in a cell after a sort -/
theorem srt_at {b : Bool} {cs : List Cell} {vs : List Int} (g : Good cs) (hv : vs.length = cs.length) {i : Nat} (hi : i < cs.length) : ∃ p : Nat, (lineN b cs (gB b cs i))[p]? = some i ∧ (sortI ((lineN b cs (gB b cs i)).map (vI vs)))[p]? = some (vI (srt b cs vs) i) := by
  obtain ⟨p, hp⟩ := List.mem_iff_getElem?.mp (show i ∈ lineN b cs (gB b cs i) from mem_lineN.mpr ⟨hi, rfl⟩)
  refine ⟨p, hp, ?_⟩
  have e := fold_get (vs := vs) (acc := vs) (ls := lnsN b cs) (by rw [hv]; exact lns_parts b cs) _ (lineN_mem (b := b) g hi)
  rw [← srt_up, getN_vI, getN_vI] at e
  rw [← e, List.getElem?_map, hp]
  rfl
/-- those of a line that are as great as what stands in a cell after the sort are as many as the cells from it on, at least -/
theorem many_ge {b : Bool} {cs : List Cell} {vs : List Int} (g : Good cs) (hv : vs.length = cs.length) {i : Nat} (hi : i < cs.length) {x : Int} (hx : x ≤ vI (srt b cs vs) i) :
    (lineN b cs (gB b cs i)).countP (fun m => decide (i ≤ m)) ≤ (lineN b cs (gB b cs i)).countP (fun m => decide (x ≤ vI vs m)) := by
  obtain ⟨p, h1, h2⟩ := srt_at (b := b) g hv hi
  have a := sorted_ge (sortI_asc _) h2
  have c := asc_place (lineN_asc _ _ _) h1
  rw [sortI_len, List.length_map, (sortI_perm _).countP_eq, List.countP_map] at a
  have m : (lineN b cs (gB b cs i)).countP ((fun v => decide (vI (srt b cs vs) i ≤ v)) ∘ vI vs) ≤ (lineN b cs (gB b cs i)).countP (fun m => decide (x ≤ vI vs m)) :=
    List.countP_mono_left fun k _ hk => decide_eq_true (by
      have : vI (srt b cs vs) i ≤ vI vs k := of_decide_eq_true hk
      omega)
  omega
theorem many_lt {b : Bool} {cs : List Cell} {vs : List Int} (g : Good cs) (hv : vs.length = cs.length) {i : Nat} (hi : i < cs.length) {x : Int} (hx : vI (srt b cs vs) i < x) :
    (lineN b cs (gB b cs i)).countP (fun m => decide (x ≤ vI vs m)) + 1 ≤ (lineN b cs (gB b cs i)).countP (fun m => decide (i ≤ m)) := by
  obtain ⟨p, h1, h2⟩ := srt_at (b := b) g hv hi
  have a := sorted_lt (sortI_asc _) h2 hx
  have c := asc_place (lineN_asc _ _ _) h1
  rw [sortI_len, List.length_map, (sortI_perm _).countP_eq, List.countP_map] at a
  have m : (lineN b cs (gB b cs i)).countP ((fun v => decide (x ≤ v)) ∘ vI vs) = (lineN b cs (gB b cs i)).countP (fun m => decide (x ≤ vI vs m)) := rfl
  omega
/-- whether some cell of line k (of the other kind) in line r satisfies p -/
def hit (b : Bool) (cs : List Cell) (k : Int) (p : Nat → Bool) (r : Nat) : Bool := (lineN (!b) cs k).any fun m => decide ((gB b cs m).toNat = r) && p m
theorem count_hit {b : Bool} {cs : List Cell} (g : Good cs) (k : Int) (p : Nat → Bool) : (lineN (!b) cs k).countP p = (List.range 8).countP (hit b cs k p) := by
  refine count_by (g := fun m => (gB b cs m).toNat) ?_ (fun m hm => ?_) p
  · refine (lineN_asc (!b) cs k).imp_of_mem fun {i j} hi hj hij => ?_
    obtain ⟨i1, i2⟩ := mem_lineN.mp hi
    obtain ⟨j1, j2⟩ := mem_lineN.mp hj
    have lt := gB_lt (b := !b) g hij j1 (by omega)
    rw [Bool.not_not] at lt
    have b1 := gB_bd (b := b) g i1
    have b2 := gB_bd (b := b) g j1
    omega
  · have := gB_bd (b := b) g (mem_lineN.mp hm).1
    omega
theorem hit_true {b : Bool} {cs : List Cell} (g : Good cs) {k : Int} {p : Nat → Bool} {r : Nat} : hit b cs k p r = true ↔ ∃ m, m < cs.length ∧ gB (!b) cs m = k ∧ gB b cs m = (r : Int) ∧ p m = true := by
  unfold hit
  rw [List.any_eq_true]
  constructor
  · rintro ⟨m, hm, h⟩
    rw [Bool.and_eq_true] at h
    obtain ⟨m1, m2⟩ := mem_lineN.mp hm
    have bd := gB_bd (b := b) g m1
    have := of_decide_eq_true h.1
    exact ⟨m, m1, m2, by omega, h.2⟩
  · rintro ⟨m, m1, m2, m3, h⟩
    refine ⟨m, mem_lineN.mpr ⟨m1, m2⟩, ?_⟩
    rw [h, Bool.and_true]
    exact decide_eq_true (by omega)
/-- the plan has a cell in line r of this kind and line k of the other one -/
def cellB (b : Bool) (cs : List Cell) (r k : Int) : Prop := ∃ m, m < cs.length ∧ gB b cs m = r ∧ gB (!b) cs m = k
theorem cell_uniq {b : Bool} {cs : List Cell} (g : Good cs) {m m' : Nat} (h : m < cs.length) (h' : m' < cs.length) (e1 : gB b cs m = gB b cs m') (e2 : gB (!b) cs m = gB (!b) cs m') : m = m' := by
  rcases Nat.lt_trichotomy m m' with c | c | c
  · have := gB_lt (b := b) g c h' e1
    omega
  · exact c
  · have := gB_lt (b := b) g c h e1.symm
    omega
/-- no four of which just one of the two is missing -/
def NoX (b : Bool) (cs : List Cell) : Prop := ∀ r1 r2 k1 k2 : Int, r1 < r2 → k1 < k2 → cellB b cs r1 k1 → cellB b cs r2 k2 → (cellB b cs r1 k2 ↔ cellB b cs r2 k1)
theorem toNat_le {p q s t : Bool} (h1 : p = true → s = true ∨ t = true) (h2 : q = true → s = true ∨ t = true) (h3 : p = true → q = true → s = true ∧ t = true) : p.toNat + q.toNat ≤ s.toNat + t.toNat := by
  cases p <;> cases q <;> cases s <;> cases t <;> simp at *
/-- MAIN: on a plan without such four, a sort of the other kind leaves rising lines rising -/
theorem kept {b : Bool} {cs : List Cell} {vs : List Int} (g : Good cs) (hv : vs.length = cs.length) (nx : NoX b cs) (h : rises b cs vs = true) : rises b cs (srt (!b) cs vs) = true := by
  rw [rises_pairs g] at h ⊢
  intro i j hij hj e
  have hi : i < cs.length := by omega
  rcases Int.lt_or_le (vI (srt (!b) cs vs) j) (vI (srt (!b) cs vs) i) with c | c
  · exfalso
    have kk := gB_lt (b := b) g hij hj e
    have a1 := many_ge (b := !b) g hv hi (Int.le_refl _)
    have a2 := many_lt (b := !b) g hv hj c
    rw [count_hit g, count_hit g] at a1 a2
    have key := countP_four (l := List.range 8) (p := hit b cs (gB (!b) cs i) fun m => decide (vI (srt (!b) cs vs) i ≤ vI vs m)) (q := hit b cs (gB (!b) cs j) fun m => decide (j ≤ m))
      (s := hit b cs (gB (!b) cs j) fun m => decide (vI (srt (!b) cs vs) i ≤ vI vs m)) (t := hit b cs (gB (!b) cs i) fun m => decide (i ≤ m)) (fun r _ => by
        -- a cell of the line of j from j on has a neighbour in the line of i
        have below : ∀ m, m < cs.length → gB (!b) cs m = gB (!b) cs j → j ≤ m → ∃ m', m' < cs.length ∧ gB (!b) cs m' = gB (!b) cs i ∧ gB b cs m' = gB b cs m ∧ i ≤ m' := fun m h1 h2 h3 => by
          have le := (gB_le (b := !b) g hj h1 h2.symm).mp h3
          rw [Bool.not_not] at le
          rcases Int.lt_or_eq_of_le le with c1 | c1
          · have := (nx (gB b cs i) (gB b cs m) (gB (!b) cs i) (gB (!b) cs j) (by omega) kk ⟨i, hi, rfl, rfl⟩ ⟨m, h1, rfl, h2⟩).mp ⟨j, hj, e.symm, rfl⟩
            obtain ⟨m', q1, q2, q3⟩ := this
            refine ⟨m', q1, q3, q2, (gB_le (b := !b) g hi q1 q3.symm).mpr ?_⟩
            rw [Bool.not_not]
            omega
          · exact ⟨i, hi, rfl, by omega, Nat.le_refl _⟩
        refine toNat_le (fun hp => ?_) (fun hq => ?_) (fun hp hq => ?_)
        · obtain ⟨m, m1, m2, m3, m4⟩ := (hit_true g).mp hp
          have m4 := of_decide_eq_true m4
          by_cases c1 : i ≤ m
          · exact .inr ((hit_true g).mpr ⟨m, m1, m2, m3, decide_eq_true c1⟩)
          · left
            have le := (gB_le (b := !b) g m1 hi m2).mp (by omega)
            rw [Bool.not_not] at le
            have ne : gB b cs m ≠ gB b cs i := fun z => by
              have := cell_uniq (b := b) g m1 hi z m2
              omega
            obtain ⟨m', q1, q2, q3⟩ := (nx (gB b cs m) (gB b cs i) (gB (!b) cs i) (gB (!b) cs j) (by omega) kk ⟨m, m1, rfl, m2⟩ ⟨j, hj, e.symm, rfl⟩).mpr ⟨i, hi, rfl, rfl⟩
            have lt : m < m' := by
              rcases Nat.lt_trichotomy m m' with z | z | z
              · exact z
              · rw [z] at m2
                omega
              · have := gB_lt (b := b) g z m1 q2
                omega
            have := h m m' lt q1 q2.symm
            exact (hit_true g).mpr ⟨m', q1, q3, by omega, decide_eq_true (by omega)⟩
        · obtain ⟨m, m1, m2, m3, m4⟩ := (hit_true g).mp hq
          obtain ⟨m', q1, q2, q3, q4⟩ := below m m1 m2 (of_decide_eq_true m4)
          exact .inr ((hit_true g).mpr ⟨m', q1, q2, by omega, decide_eq_true q4⟩)
        · obtain ⟨m, m1, m2, m3, m4⟩ := (hit_true g).mp hp
          have m4 := of_decide_eq_true m4
          obtain ⟨n, n1, n2, n3, n4⟩ := (hit_true g).mp hq
          obtain ⟨m', q1, q2, q3, q4⟩ := below n n1 n2 (of_decide_eq_true n4)
          refine ⟨(hit_true g).mpr ⟨n, n1, n2, n3, decide_eq_true ?_⟩, (hit_true g).mpr ⟨m', q1, q2, by omega, decide_eq_true q4⟩⟩
          have lt : m < n := by
            rcases Nat.lt_trichotomy m n with z | z | z
            · exact z
            · rw [z] at m2
              omega
            · have := gB_lt (b := b) g z m1 (by omega)
              omega
          have := h m n lt n1 (by omega)
          omega)
    omega
  · exact c
end KS
namespace KS
open PySem PySem.Spec PyProof.Rows L2
theorem count_eq_one : ∀ n, n < 8 → (List.range 8).countP (fun r => decide (r = n)) = 1 := by decide
theorem count_false (l : List Nat) : l.countP (fun _ => false) = 0 := by
  rw [List.countP_eq_zero]
  intro a _ h
  cases h
theorem cellB_bd {b : Bool} {cs : List Cell} (g : Good cs) {r k : Int} (h : cellB b cs r k) : (0 ≤ r ∧ r ≤ 7) ∧ 0 ≤ k ∧ k ≤ 7 := by
  obtain ⟨m, h1, rfl, rfl⟩ := h
  exact ⟨gB_bd g h1, gB_bd g h1⟩
/-- values that are great in the marked lines alone no longer rise behind a sort of the other kind -/
theorem breaks {b : Bool} {cs : List Cell} {vs : List Int} {x : Int} (g : Good cs) (hv : vs.length = cs.length) {r1 r2 k1 k2 br : Int} (hr : r1 < r2) (hk : k1 < k2) (c1 : cellB b cs r1 k1) (c2 : cellB b cs r2 k2)
    (hb : (cellB b cs r2 k1 ∧ ¬ cellB b cs r1 k2 ∧ br = r2) ∨ (¬ cellB b cs r2 k1 ∧ cellB b cs r1 k2 ∧ br = r1))
    (hM : ∀ m, m < cs.length → (x ≤ vI vs m ↔ (cellB b cs (gB b cs m) k1 ∧ (br < gB b cs m ∨ gB b cs m = r1)))) : rises b cs (srt (!b) cs vs) = false := by
  cases e : rises b cs (srt (!b) cs vs) with
  | false => rfl
  | true =>
    exfalso
    rw [rises_pairs g] at e
    have cA : cellB b cs br k1 := by
      rcases hb with ⟨h1, _, h3⟩ | ⟨_, _, h3⟩
      · rw [h3]
        exact h1
      · rw [h3]
        exact c1
    have cB : cellB b cs br k2 := by
      rcases hb with ⟨_, _, h3⟩ | ⟨_, h2, h3⟩
      · rw [h3]
        exact c2
      · rw [h3]
        exact h2
    obtain ⟨i, i1, i2, i3⟩ := cA
    obtain ⟨j, j1, j2, j3⟩ := cB
    have hij : i < j := by
      rcases Nat.lt_trichotomy i j with z | z | z
      · exact z
      · rw [z] at i3
        omega
      · have := gB_lt (b := b) g z i1 (by omega)
        omega
    have le := e i j hij j1 (by omega)
    have bd1 := cellB_bd g c1
    have bd2 := cellB_bd g c2
    have q1 := count_eq_one r1.toNat (by omega)
    have q2 := count_eq_one r2.toNat (by omega)
    have hx : x ≤ vI (srt (!b) cs vs) i := by
      rcases Int.lt_or_le (vI (srt (!b) cs vs) i) x with z | z
      · exfalso
        have a := many_lt (b := !b) g hv i1 z
        rw [count_hit g, count_hit g, i3] at a
        rcases hb with ⟨h1, h2, h3⟩ | ⟨h1, h2, h3⟩
        · have key := countP_four (l := List.range 8) (p := hit b cs k1 fun m => decide (i ≤ m)) (q := fun r => decide (r = r1.toNat)) (s := hit b cs k1 fun m => decide (x ≤ vI vs m)) (t := fun r => decide (r = r2.toNat)) (fun r _ => by
            refine toNat_le (fun hp => ?_) (fun hq => ?_) (fun hp hq => ?_)
            · obtain ⟨m, m1, m2, m3, m4⟩ := (hit_true g).mp hp
              have lm := (gB_le (b := !b) g i1 m1 (by omega)).mp (of_decide_eq_true m4)
              rw [Bool.not_not] at lm
              by_cases c : gB b cs m = r2
              · exact .inr (decide_eq_true (by omega))
              · exact .inl ((hit_true g).mpr ⟨m, m1, m2, m3, decide_eq_true ((hM m m1).mpr ⟨⟨m, m1, rfl, m2⟩, .inl (by omega)⟩)⟩)
            · have hq := of_decide_eq_true hq
              obtain ⟨m, m1, m2, m3⟩ := c1
              exact .inl ((hit_true g).mpr ⟨m, m1, m3, by omega, decide_eq_true ((hM m m1).mpr ⟨⟨m, m1, rfl, m3⟩, .inr m2⟩)⟩)
            · obtain ⟨m, m1, m2, m3, m4⟩ := (hit_true g).mp hp
              have hq := of_decide_eq_true hq
              have lm := (gB_le (b := !b) g i1 m1 (by omega)).mp (of_decide_eq_true m4)
              rw [Bool.not_not] at lm
              omega)
          omega
        · have key := countP_four (l := List.range 8) (p := hit b cs k1 fun m => decide (i ≤ m)) (q := fun _ => false) (s := hit b cs k1 fun m => decide (x ≤ vI vs m)) (t := fun _ => false) (fun r _ => by
            refine toNat_le (fun hp => ?_) (fun hq => absurd hq (by decide)) (fun hp hq => absurd hq (by decide))
            obtain ⟨m, m1, m2, m3, m4⟩ := (hit_true g).mp hp
            have lm := (gB_le (b := !b) g i1 m1 (by omega)).mp (of_decide_eq_true m4)
            rw [Bool.not_not] at lm
            exact .inl ((hit_true g).mpr ⟨m, m1, m2, m3, decide_eq_true ((hM m m1).mpr ⟨⟨m, m1, rfl, m2⟩, by omega⟩)⟩))
          rw [count_false] at key
          omega
      · exact z
    have a := many_ge (b := !b) g hv j1 (Int.le_trans hx le)
    rw [count_hit g, count_hit g, j3] at a
    have key := countP_four (l := List.range 8) (p := hit b cs k2 fun m => decide (x ≤ vI vs m)) (q := fun r => decide (r = r2.toNat)) (s := hit b cs k2 fun m => decide (j ≤ m)) (t := fun _ => false) (fun r _ => by
      have from_ : ∀ m, m < cs.length → gB (!b) cs m = k2 → br ≤ gB b cs m → j ≤ m := fun m m1 m2 h => by
        refine (gB_le (b := !b) g j1 m1 (by omega)).mpr ?_
        rw [Bool.not_not]
        omega
      refine toNat_le (fun hp => ?_) (fun hq => ?_) (fun hp hq => ?_)
      · obtain ⟨m, m1, m2, m3, m4⟩ := (hit_true g).mp hp
        obtain ⟨_, w⟩ := (hM m m1).mp (of_decide_eq_true m4)
        refine .inl ((hit_true g).mpr ⟨m, m1, m2, m3, decide_eq_true (from_ m m1 m2 ?_)⟩)
        rcases w with w | w
        · omega
        · rcases hb with ⟨_, h2, _⟩ | ⟨_, _, h3⟩
          · exact absurd ⟨m, m1, w, m2⟩ h2
          · omega
      · have hq := of_decide_eq_true hq
        obtain ⟨m, m1, m2, m3⟩ := c2
        refine .inl ((hit_true g).mpr ⟨m, m1, m3, by omega, decide_eq_true (from_ m m1 m3 ?_)⟩)
        rcases hb with ⟨_, _, h3⟩ | ⟨_, _, h3⟩ <;> omega
      · exfalso
        obtain ⟨m, m1, m2, m3, m4⟩ := (hit_true g).mp hp
        have hq := of_decide_eq_true hq
        obtain ⟨w1, w⟩ := (hM m m1).mp (of_decide_eq_true m4)
        have em : gB b cs m = r2 := by omega
        rcases hb with ⟨_, _, h3⟩ | ⟨h1, _, _⟩
        · omega
        · rw [em] at w1
          exact h1 w1)
    rw [count_false] at key
    omega
/-! ### obstacles and both kinds -/
theorem cellB_iff {b : Bool} {cs : List Cell} {r k : Int} : cellB b cs r k ↔ (if b = true then ((k, r) : Cell) else (r, k)) ∈ cs := by
  constructor
  · rintro ⟨m, h1, h2, h3⟩
    have e : cs[m]? = some cs[m] := List.getElem?_eq_getElem h1
    rw [gB_at e] at h2 h3
    have : (if b = true then ((k, r) : Cell) else (r, k)) = cs[m] := by
      cases b
      · exact Prod.ext h2.symm h3.symm
      · exact Prod.ext h3.symm h2.symm
    rw [this]
    exact List.getElem_mem h1
  · intro h
    obtain ⟨m, h1⟩ := List.mem_iff_getElem?.mp h
    refine ⟨m, (List.getElem?_eq_some_iff.mp h1).1, ?_, ?_⟩ <;> rw [gB_at h1] <;> cases b <;> rfl
theorem inC_iff {cs : List Cell} {r k : Nat} : inC cs r k = true ↔ ((r : Int), (k : Int)) ∈ cs := by
  unfold inC
  exact decide_eq_true_iff
theorem bool_iff {p q : Bool} : (p != q) = false ↔ (p = true ↔ q = true) := by
  cases p <;> cases q <;> decide
theorem nox_of_noobs {cs : List Cell} (g : Good cs) (h : NoObs cs) (b : Bool) : NoX b cs := by
  intro r1 r2 k1 k2 hr hk c1 c2
  have bd1 := cellB_bd g c1
  have bd2 := cellB_bd g c2
  have use : ∀ u l a c : Nat, u < l → l ≤ 7 → a < c → c ≤ 7 → ((u : Int), (a : Int)) ∈ cs → ((l : Int), (c : Int)) ∈ cs → (((u : Int), (c : Int)) ∈ cs ↔ ((l : Int), (a : Int)) ∈ cs) := fun u l a c h1 h2 h3 h4 m1 m2 => by
    have z := h (u, l, a, c) ⟨h1, h2, h3, h4⟩
    unfold obsQ obs at z
    dsimp only at z
    rw [inC_iff.mpr m1, inC_iff.mpr m2] at z
    have z' : (inC cs u c != inC cs l a) = false := z
    rw [bool_iff, inC_iff, inC_iff] at z'
    exact z'
  rw [cellB_iff] at c1 c2
  rw [cellB_iff, cellB_iff]
  have e1 : ((r1.toNat : Nat) : Int) = r1 := by omega
  have e2 : ((r2.toNat : Nat) : Int) = r2 := by omega
  have e3 : ((k1.toNat : Nat) : Int) = k1 := by omega
  have e4 : ((k2.toNat : Nat) : Int) = k2 := by omega
  cases b
  · have z := use r1.toNat r2.toNat k1.toNat k2.toNat (by omega) (by omega) (by omega) (by omega)
    rw [e1, e2, e3, e4] at z
    exact z c1 c2
  · have z := use k1.toNat k2.toNat r1.toNat r2.toNat (by omega) (by omega) (by omega) (by omega)
    rw [e1, e2, e3, e4] at z
    exact (z c1 c2).symm
/-- an obstacle, seen by this kind: two lines of it, two of the other kind -/
structure XAt (b : Bool) (cs : List Cell) (r1 r2 k1 k2 : Int) : Prop where
  hr : r1 < r2
  hk : k1 < k2
  c1 : cellB b cs r1 k1
  c2 : cellB b cs r2 k2
  x : (cellB b cs r2 k1 ∧ ¬ cellB b cs r1 k2) ∨ (¬ cellB b cs r2 k1 ∧ cellB b cs r1 k2)
theorem xat_of_obs {cs : List Cell} {q : Quad} (hq : okQ q) (h : obsQ cs q = true) : XAt false cs q.1 q.2.1 q.2.2.1 q.2.2.2 ∧ XAt true cs q.2.2.1 q.2.2.2 q.1 q.2.1 := by
  unfold obsQ obs at h
  rw [Bool.and_eq_true, Bool.and_eq_true, inC_iff, inC_iff] at h
  obtain ⟨⟨h1, h2⟩, h3⟩ := h
  have h4 : (((q.2.1 : Int), (q.2.2.1 : Int)) ∈ cs ∧ ¬ ((q.1 : Int), (q.2.2.2 : Int)) ∈ cs) ∨ (¬ ((q.2.1 : Int), (q.2.2.1 : Int)) ∈ cs ∧ ((q.1 : Int), (q.2.2.2 : Int)) ∈ cs) := by
    rw [← inC_iff, ← inC_iff]
    cases e1 : inC cs q.1 q.2.2.2 <;> cases e2 : inC cs q.2.1 q.2.2.1 <;> rw [e1, e2] at h3
    · exact absurd h3 (by decide)
    · exact .inl ⟨rfl, by decide⟩
    · exact .inr ⟨by decide, rfl⟩
    · exact absurd h3 (by decide)
  obtain ⟨o1, o2, o3, o4⟩ := hq
  refine ⟨⟨by omega, by omega, cellB_iff.mpr h1, cellB_iff.mpr h2, ?_⟩, ⟨by omega, by omega, cellB_iff.mpr h1, cellB_iff.mpr h2, ?_⟩⟩
  · rw [cellB_iff, cellB_iff]
    exact h4
  · rw [cellB_iff, cellB_iff]
    rcases h4 with ⟨a, c⟩ | ⟨a, c⟩
    · exact .inr ⟨c, a⟩
    · exact .inl ⟨c, a⟩
theorem noobs_of_nox {cs : List Cell} {b : Bool} (h : NoX b cs) : NoObs cs := by
  intro q hq
  cases e : obsQ cs q with
  | false => rfl
  | true =>
    exfalso
    obtain ⟨x1, x2⟩ := xat_of_obs hq e
    cases b
    · have := h _ _ _ _ x1.hr x1.hk x1.c1 x1.c2
      rcases x1.x with ⟨a, c⟩ | ⟨a, c⟩
      · exact c (this.mpr a)
      · exact a (this.mp c)
    · have := h _ _ _ _ x2.hr x2.hk x2.c1 x2.c2
      rcases x2.x with ⟨a, c⟩ | ⟨a, c⟩
      · exact c (this.mpr a)
      · exact a (this.mp c)
theorem nox_iff {cs : List Cell} (g : Good cs) (b : Bool) : NoX b cs ↔ NoObs cs := ⟨noobs_of_nox, fun h => nox_of_noobs g h b⟩
theorem ans_none {cs : List Cell} {o : Option Quad} (h : Ans cs o) : o = none ↔ NoObs cs := by
  constructor
  · rintro rfl
    exact h
  · intro n
    exact Ans.uniq h (show Ans cs none from n)
/-! ### all tables of 0 and 1 -/
def all01 : Nat → List (List Int)
  | 0 => [[]]
  | n + 1 => (all01 n).map (· ++ [0]) ++ (all01 n).map (· ++ [1])
theorem mem_all01 : ∀ {n : Nat} {l : List Int}, l ∈ all01 n ↔ l.length = n ∧ ∀ v ∈ l, v = 0 ∨ v = 1
  | 0, l => by
    show l ∈ [[]] ↔ _
    rw [List.mem_singleton]
    constructor
    · rintro rfl
      exact ⟨rfl, by simp⟩
    · rintro ⟨h, _⟩
      exact List.eq_nil_of_length_eq_zero h
  | n + 1, l => by
    show l ∈ (all01 n).map (· ++ [0]) ++ (all01 n).map (· ++ [1]) ↔ _
    rw [List.mem_append, List.mem_map, List.mem_map]
    constructor
    · rintro (⟨m, hm, rfl⟩ | ⟨m, hm, rfl⟩)
      · obtain ⟨h1, h2⟩ := mem_all01.mp hm
        refine ⟨by simp [h1], fun v hv => ?_⟩
        rcases List.mem_append.mp hv with z | z
        · exact h2 v z
        · exact .inl (by simpa using z)
      · obtain ⟨h1, h2⟩ := mem_all01.mp hm
        refine ⟨by simp [h1], fun v hv => ?_⟩
        rcases List.mem_append.mp hv with z | z
        · exact h2 v z
        · exact .inr (by simpa using z)
    · rintro ⟨h1, h2⟩
      have ne : l ≠ [] := fun e => by
        rw [e] at h1
        cases h1
      have el := List.dropLast_concat_getLast ne
      have hd : l.dropLast ∈ all01 n := mem_all01.mpr ⟨by simp [h1], fun v hv => h2 v ((List.dropLast_sublist l).subset hv)⟩
      rcases h2 _ (List.getLast_mem ne) with z | z
      · exact .inl ⟨l.dropLast, hd, by rw [z] at el; exact el⟩
      · exact .inr ⟨l.dropLast, hd, by rw [z] at el; exact el⟩
theorem len_all01 : ∀ n : Nat, (all01 n).length = 2 ^ n
  | 0 => rfl
  | n + 1 => by
    show ((all01 n).map (· ++ [0]) ++ (all01 n).map (· ++ [1])).length = _
    rw [List.length_append, List.length_map, List.length_map, len_all01 n, Nat.pow_succ]
    omega
/-- whether rising lines of the kind stay so behind a sort of the other one, in each table of 0 and 1 -/
def kept01 (b : Bool) (cs : List Cell) : Bool := (all01 cs.length).all fun vs => !(rises b cs vs && !rises b cs (srt (!b) cs vs))
theorem kept01_iff {b : Bool} {cs : List Cell} (g : Good cs) : kept01 b cs = true ↔ NoX b cs := by
  unfold kept01
  rw [List.all_eq_true]
  constructor
  · intro h
    rw [nox_iff g]
    intro q hq
    cases e : obsQ cs q with
    | false => rfl
    | true =>
      exfalso
      have xx : ∃ r1 r2 k1 k2 : Int, XAt b cs r1 r2 k1 k2 := by
        obtain ⟨x1, x2⟩ := xat_of_obs hq e
        cases b
        · exact ⟨_, _, _, _, x1⟩
        · exact ⟨_, _, _, _, x2⟩
      obtain ⟨r1, r2, k1, k2, X⟩ := xx
      obtain ⟨br, hbr⟩ : ∃ br : Int, (cellB b cs r2 k1 ∧ ¬ cellB b cs r1 k2 ∧ br = r2) ∨ (¬ cellB b cs r2 k1 ∧ cellB b cs r1 k2 ∧ br = r1) := by
        rcases X.x with ⟨a, c⟩ | ⟨a, c⟩
        · exact ⟨r2, .inl ⟨a, c, rfl⟩⟩
        · exact ⟨r1, .inr ⟨a, c, rfl⟩⟩
      classical
      let mk : Nat → Int := fun m => if cellB b cs (gB b cs m) k1 ∧ (br < gB b cs m ∨ gB b cs m = r1) then 1 else 0
      have hlen : ((List.range cs.length).map mk).length = cs.length := by rw [List.length_map, List.length_range]
      have hat : ∀ m, m < cs.length → vI ((List.range cs.length).map mk) m = mk m := fun m hm => by
        unfold vI
        rw [List.getD_eq_getElem?_getD, List.getElem?_map, List.getElem?_range hm]
        rfl
      have hmem : (List.range cs.length).map mk ∈ all01 cs.length := mem_all01.mpr ⟨hlen, fun v hv => by
        obtain ⟨m, _, rfl⟩ := List.mem_map.mp hv
        show mk m = 0 ∨ mk m = 1
        by_cases c : cellB b cs (gB b cs m) k1 ∧ (br < gB b cs m ∨ gB b cs m = r1)
        · exact .inr (if_pos c)
        · exact .inl (if_neg c)⟩
      have hz := h _ hmem
      have up : rises b cs ((List.range cs.length).map mk) = true := by
        rw [rises_pairs g]
        intro i j hij hj e'
        rw [hat i (by omega), hat j hj]
        show mk i ≤ mk j
        have : mk i = mk j := by
          show (if cellB b cs (gB b cs i) k1 ∧ (br < gB b cs i ∨ gB b cs i = r1) then (1 : Int) else 0) = (if cellB b cs (gB b cs j) k1 ∧ (br < gB b cs j ∨ gB b cs j = r1) then 1 else 0)
          rw [e']
        omega
      have dn := breaks (x := 1) g hlen X.hr X.hk X.c1 X.c2 hbr (fun m hm => by
        rw [hat m hm]
        by_cases c : cellB b cs (gB b cs m) k1 ∧ (br < gB b cs m ∨ gB b cs m = r1)
        · have : mk m = 1 := if_pos c
          rw [this]
          exact ⟨fun _ => c, fun _ => Int.le_refl _⟩
        · have : mk m = 0 := if_neg c
          rw [this]
          exact ⟨fun z => absurd z (by decide), fun z => absurd z c⟩)
      rw [up, dn] at hz
      exact absurd hz (by decide)
  · intro nx vs hvs
    obtain ⟨h1, _⟩ := mem_all01.mp hvs
    cases e : rises b cs vs with
    | false => rfl
    | true =>
      rw [kept g h1 nx e]
      rfl
end KS
namespace KS
open PySem PySem.Spec PyProof.Rows L2
/-! ### a word, so many times -/
theorem rep_words (w : List Bool) : ∀ (n : Nat) (a : Array Nat), (List.replicate n (w.map ltr).toArray).foldl (· ++ ·) a = a ++ (((List.replicate n w).flatten).map ltr).toArray
  | 0, a => by simp
  | n + 1, a => by
    rw [List.replicate_succ, List.foldl_cons, rep_words w n, List.replicate_succ, List.flatten_cons, List.map_append]
    apply Array.ext'
    simp
def rRepW : R2 := fun x y H Q => ∃ (wd : List Bool) (n : Nat), x = .str (wS wd) ∧ y = .int n ∧ 2 ≤ n ∧ n ≤ 400 ∧ 1 ≤ wd.length ∧ wd.length ≤ 400 ∧ Q (.str (wS (List.replicate n wd).flatten)) H
theorem op_repW {X : Cx} : OpR X (binaryOp .Mult) rRepW := by
  intro pins s σ H x y v u Q I rx ry h
  obtain ⟨wd, n, rfl, rfl, n0, n1, w0, w1, q⟩ := h
  obtain ⟨t, rfl⟩ := rx
  obtain ⟨t', rfl⟩ := ry
  have e1 : ¬ ((n : Int) < 1) := by omega
  have hl := wS_len wd
  have hm : wd.length * n ≤ 160000 := Nat.mul_le_mul w1 n1
  refine P.mul_str ?_ ?_ ?_ ?_
  · have h1 : ¬ (n : Int) < -(2 ^ 63 : Int) := by omega
    have h2 : ¬ (n : Int) ≥ 2 ^ 63 := by omega
    rw [decide_eq_false h1, decide_eq_false h2]
    rfl
  · intro _ _
    rw [hl]
    have : (wd.length : Int) ≤ (2 ^ 63 - 1) / (n : Int) := (Int.le_ediv_iff_mul_le (by omega)).mpr (by
      have : ((wd.length * n : Nat) : Int) ≤ 160000 := by omega
      rw [Int.natCast_mul] at this
      omega)
    omega
  · intro _ _
    refine decide_eq_false ?_
    rw [hl, sizeLine_eq, Int.toNat_natCast]
    omega
  · rw [if_neg e1]
    have z : (((n : Int) == 1) || ((wS wd).length == 0)) = false := by
      have a : ((n : Int) == 1) = false := by
        rw [beq_eq_false_iff_ne]
        omega
      have b : ((wS wd).length == 0) = false := by
        rw [hl, beq_eq_false_iff_ne]
        omega
      rw [a, b]
      rfl
    rw [if_neg (by rw [z]; decide)]
    have ez : (⟨(List.replicate (n : Int).toNat (wS wd).cps).foldl (· ++ ·) #[]⟩ : Str) = wS (List.replicate n wd).flatten := by
      rw [Int.toNat_natCast]
      show (⟨(List.replicate n (wd.map ltr).toArray).foldl (· ++ ·) #[]⟩ : Str) = _
      rw [rep_words]
      unfold wS
      simp
    rw [ez]
    refine ⟨?_, .str (wS (List.replicate n wd).flatten), H, I.tok _, ⟨_, rfl⟩, q⟩
    rw [wS_len, List.length_flatten, List.map_replicate, List.sum_replicate_nat, sizeLine_eq, Nat.mul_comm]
    omega
/-! ### words one after the other -/
theorem aft_app (cs : List Cell) (w v : List Bool) (vs : List Int) : aft cs (w ++ v) vs = aft cs v (aft cs w vs) := by
  unfold aft
  rw [List.foldl_append]
theorem srt_twice {b : Bool} {cs : List Cell} {vs : List Int} (h : vs.length = cs.length) : srt b cs (srt b cs vs) = srt b cs vs :=
  rises_fix (by rw [srt_len]; exact h) (srt_rises h)
theorem settled_both {cs : List Cell} {vs : List Int} (h : settled cs vs = true) (b : Bool) : rises b cs vs = true := by
  unfold settled at h
  rw [Bool.and_eq_true] at h
  cases b
  · exact h.1
  · exact h.2
theorem aft_settled {cs : List Cell} {vs : List Int} (hl : vs.length = cs.length) (h : settled cs vs = true) : ∀ w : List Bool, aft cs w vs = vs
  | [] => rfl
  | b :: w => by
    show aft cs w (srt b cs vs) = vs
    rw [rises_fix hl (settled_both h b)]
    exact aft_settled hl h w
theorem turns_two (b : Bool) : ∀ m : Nat, (List.replicate m [b, !b]).flatten = turns b (2 * m)
  | 0 => rfl
  | m + 1 => by
    rw [List.replicate_succ, List.flatten_cons, turns_two b m]
    show b :: (!b) :: turns b (2 * m) = turns b (2 * m + 2)
    show _ = b :: (!b) :: turns (!(!b)) (2 * m)
    rw [Bool.not_not]
theorem turns_take : ∀ (n m : Nat) (b : Bool), n ≤ m → (turns b m).take n = turns b n
  | 0, _, _, _ => by simp [turns]
  | n + 1, 0, _, h => by omega
  | n + 1, m + 1, b, h => by
    show (b :: turns (!b) m).take (n + 1) = b :: turns (!b) n
    rw [List.take_succ_cons, turns_take n m (!b) (by omega)]
theorem ne_line {l m : List Int} : (!PyData.eqv (.tuple (l.map PyData.int)) (.tuple (m.map PyData.int))) = !decide (l = m) := by rw [ints_eqvT]
end KS
namespace KS
open PySem PySem.Spec PyProof.Rows L2
/-! ### sorted(t), t a tuple of whole numbers -/
def rSortedTI (K : PySem.W.Frag) : List V → Hp → VK → Prop := fun vs H Q => ∃ (a : Addr) (ns : List Int), vs = [V.ref a] ∧ SqT K H a (ns.map V.int) ∧
  ∀ (ns' : List Int) (p : Addr) (H' : Hp), ns'.Perm ns → ns'.Pairwise (· ≤ ·) → H p = none → H' = upd H p (.lst (ns'.map V.int)) → Q (.ref p) H'
theorem cr_sortedTI {X : Cx} : CallR X (.builtin "sorted") (rSortedTI X.K) := by
  intro pins s σ H vs us Q I r h
  obtain ⟨a, ns, rfl, ht, q⟩ := h
  obtain ⟨its, rv, ⟨o, ho, hc, n, hd⟩, hz⟩ := I.tuple ht
  rw [Vals.ref1 r]
  have hi := rv.ints
  have hl := rv.length
  have hzz : its.length ≤ sizeLine := by rw [← hl]; exact hz
  refine Calls.call_function_entry kind_sorted plain_sorted entry_sorted (args_sorted1 _) ?_
  unfold Builtin.«sorted»
  refine wpAny_bind (m := checkCount "sorted" 1 1 _) (wpAny_pure ?_)
  refine wpAny_bind (wpAny_collect_seq a (T := "tuple") (.inr rfl) ho hc hd (fun h1 hk => ?_) (by rw [List.size_toArray]; exact hzz))
  rw [List.toList_toArray]
  have I1 : Inv X pins σ H { s with heap := h1 } := I.kept (t' := s.toks) hk
  refine wpAny_bind (wpAny_newList ?_ hzz)
  have hoL : (h1.push (seqObj "list" its.toArray 0)).get? h1.objs.size = some (seqObj "list" its.toArray 0) := Heap.get?_push_size _ rfl
  show wpAny _ _ _ _ _ { s with heap := h1.push (seqObj "list" its.toArray 0) }
  refine wpAny_bind (wpAny_holding (wpAny_call_entry slot_list_sort ⟨_, hoL, rfl⟩ entry_list_sort (SrtO.list_sort_ord (s := { s with heap := h1.push (seqObj "list" its.toArray 0) }) SrtO.swo_int hoL hzz (fun h2 => SrtO.ints_sortable hi h2) fun out g1 g2 => ⟨_, rfl, ?_⟩) (args_list_sort _)))
  obtain ⟨k1, k2, k3⟩ := SrtO.ints_out hi g1 g2
  obtain ⟨ep, he⟩ := sortedHeap_at (vs := its) (out := out.toArray) hoL
  have hlen : ((out.map SrtO.iv).map V.int).length ≤ sizeLine := by
    rw [List.length_map, k2.length_eq]
    rw [List.length_map] at hz
    exact hz
  refine wpAny_pure ⟨_, rfl, .ref h1.objs.size, upd H h1.objs.size (.lst ((out.map SrtO.iv).map V.int)), I1.laid (t' := s.toks) (fun b u e => ?_) (Nat.le_refl _) ⟨hlen, out, ep, vals_of_ints k1, he⟩, rfl, q _ _ _ k2 k3 (I1.hok.fresh (Nat.le_refl _)) rfl⟩
  have hb : b < h1.objs.size := Heap.lt_size e
  rw [sortedHeap_old (Nat.ne_of_lt hb) (by rw [size_push']; exact Nat.lt_succ_of_lt hb)]
  exact Heap.get?_push_of_some _ e
/-! ### ranks -/
def rkI (vs : List Int) (v : Int) : Int := 1 + ((vs.filter fun u => decide (u < v)).length : Int)
def rks (vs : List Int) : List Int := vs.map (rkI vs)
theorem rkI_perm {vs us : List Int} (p : vs.Perm us) : rkI vs = rkI us := by
  funext v
  unfold rkI
  rw [(p.filter _).length_eq]
theorem rkI_mono {vs : List Int} {v w : Int} (h : v ≤ w) : rkI vs v ≤ rkI vs w := by
  unfold rkI
  have : (vs.filter fun u => decide (u < v)).length ≤ (vs.filter fun u => decide (u < w)).length := by
    rw [← List.countP_eq_length_filter, ← List.countP_eq_length_filter]
    exact List.countP_mono_left fun u _ hu => decide_eq_true (by have := of_decide_eq_true hu; omega)
  omega
theorem filter_lt_len : ∀ {vs : List Int} {v w : Int}, v < w → v ∈ vs → (vs.filter fun u => decide (u < v)).length < (vs.filter fun u => decide (u < w)).length
  | [], _, _, _, m => by cases m
  | u :: us, v, w, h, m => by
    have le : (us.filter fun u => decide (u < v)).length ≤ (us.filter fun u => decide (u < w)).length := by
      rw [← List.countP_eq_length_filter, ← List.countP_eq_length_filter]
      exact List.countP_mono_left fun u _ hu => decide_eq_true (by have := of_decide_eq_true hu; omega)
    by_cases e : u = v
    · subst e
      rw [List.filter_cons_of_neg (by simp), List.filter_cons_of_pos (by simpa using h), List.length_cons]
      omega
    · have m' : v ∈ us := by
        rcases List.mem_cons.mp m with z | z
        · exact absurd z.symm e
        · exact z
      have ih := filter_lt_len h m'
      by_cases c1 : u < v
      · rw [List.filter_cons_of_pos (by simpa using c1), List.filter_cons_of_pos (by simp; omega), List.length_cons, List.length_cons]
        omega
      · rw [List.filter_cons_of_neg (by simpa using c1)]
        by_cases c2 : u < w
        · rw [List.filter_cons_of_pos (by simpa using c2), List.length_cons]
          omega
        · rw [List.filter_cons_of_neg (by simpa using c2)]
          exact ih
theorem rkI_lt {vs : List Int} {v w : Int} (h : v < w) (m : v ∈ vs) : rkI vs v < rkI vs w := by
  have := filter_lt_len h m
  unfold rkI
  omega
theorem rkI_inj {vs : List Int} {v w : Int} (hv : v ∈ vs) (hw : w ∈ vs) (e : rkI vs v = rkI vs w) : v = w := by
  rcases Int.lt_trichotomy v w with c | c | c
  · have := rkI_lt c hv
    omega
  · exact c
  · have := rkI_lt c hw
    omega
theorem rkI_bd {vs : List Int} {v : Int} (hv : v ∈ vs) : 1 ≤ rkI vs v ∧ rkI vs v ≤ (vs.length : Int) := by
  have a : (vs.filter fun u => decide (u < v)).length < vs.length := by
    have le := List.length_filter_le (fun u => decide (u < v)) vs
    rcases Nat.lt_or_ge (vs.filter fun u => decide (u < v)).length vs.length with c | c
    · exact c
    · have e : (vs.filter fun u => decide (u < v)).length = vs.length := by omega
      have := List.length_filter_eq_length_iff.mp e v hv
      simp at this
  unfold rkI
  omega
theorem rks9 {n : Nat} {vs : List Int} (h : Vals9 n vs) (hn : n ≤ 24) : Vals9 n (rks vs) := by
  refine ⟨by unfold rks; rw [List.length_map, h.len], ?_, fun v hv => ?_⟩
  · unfold rks
    rw [List.nodup_iff_pairwise_ne, List.pairwise_map]
    have nd := List.nodup_iff_pairwise_ne.mp h.nd
    refine nd.imp_of_mem fun {a b} ha hb q e => q (rkI_inj ha hb e)
  · obtain ⟨u, hu, rfl⟩ := List.mem_map.mp hv
    have := rkI_bd hu
    have := h.len
    omega
/-! ### a rising map goes through a sort -/
theorem sortI_map {f : Int → Int} (hf : ∀ a b, a ≤ b → f a ≤ f b) (l : List Int) : sortI (l.map f) = (sortI l).map f := by
  refine (sortI_eq ((sortI_perm l).map f) ?_).symm
  rw [List.pairwise_map]
  exact (sortI_asc l).imp fun h => hf _ _ h
theorem putZ_map (f : Int → Int) : ∀ (zs : List (Int × Int)) (acc : List Int), (putZ acc zs).map f = putZ (acc.map f) (zs.map fun z => (z.1, f z.2))
  | [], _ => rfl
  | z :: zs, acc => by
    show (putZ (acc.set z.1.toNat z.2) zs).map f = putZ ((acc.map f).set z.1.toNat (f z.2)) (zs.map fun z => (z.1, f z.2))
    rw [putZ_map f zs, List.map_set]
theorem zip_map_r (f : Int → Int) : ∀ (l m : List Int), l.zip (m.map f) = (l.zip m).map fun z => (z.1, f z.2)
  | [], _ => by simp
  | _ :: _, [] => by simp
  | a :: l, b :: m => by
    simp only [List.map_cons, List.zip_cons_cons]
    rw [zip_map_r f l m]
theorem getI_map {f : Int → Int} {vs : List Int} {k : Int} (h : ∃ j : Nat, k = (j : Int) ∧ j < vs.length) : getI (vs.map f) k = f (getI vs k) := by
  obtain ⟨j, rfl, hj⟩ := h
  unfold getI
  rw [List.getD_eq_getElem?_getD, List.getD_eq_getElem?_getD, List.getElem?_map, Int.toNat_natCast, List.getElem?_eq_getElem hj]
  rfl
theorem srtL_map {f : Int → Int} (hf : ∀ a b, a ≤ b → f a ≤ f b) {vs acc l : List Int} (hl : ∀ k ∈ l, ∃ j : Nat, k = (j : Int) ∧ j < vs.length) : srtL (vs.map f) (acc.map f) l = (srtL vs acc l).map f := by
  unfold srtL
  have e : l.map (getI (vs.map f)) = (l.map (getI vs)).map f := by
    rw [List.map_map]
    exact List.map_congr_left fun k hk => getI_map (hl k hk)
  rw [e, sortI_map hf, zip_map_r, putZ_map]
theorem srtTo_map {f : Int → Int} (hf : ∀ a b, a ≤ b → f a ≤ f b) {vs : List Int} : ∀ {ls : List (List Int)} {acc : List Int}, (∀ l ∈ ls, ∀ k ∈ l, ∃ j : Nat, k = (j : Int) ∧ j < vs.length) →
    ls.foldl (srtL (vs.map f)) (acc.map f) = (ls.foldl (srtL vs) acc).map f
  | [], _, _ => rfl
  | l :: ls, acc, h => by
    show ls.foldl (srtL (vs.map f)) (srtL (vs.map f) (acc.map f) l) = _
    rw [srtL_map hf (h l List.mem_cons_self)]
    exact srtTo_map hf fun m hm => h m (List.mem_cons_of_mem _ hm)
theorem srt_map {f : Int → Int} (hf : ∀ a b, a ≤ b → f a ≤ f b) {b : Bool} {cs : List Cell} {vs : List Int} (hv : vs.length = cs.length) : srt b cs (vs.map f) = (srt b cs vs).map f := by
  unfold srt srtTo
  refine srtTo_map hf fun l hl k hk => ?_
  rw [hv]
  exact (lns_mem hl).1 k hk
theorem aft_map {f : Int → Int} (hf : ∀ a b, a ≤ b → f a ≤ f b) {cs : List Cell} : ∀ (w : List Bool) {vs : List Int}, vs.length = cs.length → aft cs w (vs.map f) = (aft cs w vs).map f
  | [], _, _ => rfl
  | b :: w, vs, hv => by
    show aft cs w (srt b cs (vs.map f)) = (aft cs w (srt b cs vs)).map f
    rw [srt_map hf hv]
    exact aft_map hf w (by rw [srt_len]; exact hv)
theorem rks_aft {cs : List Cell} (w : List Bool) {vs : List Int} (hv : vs.length = cs.length) : rks (aft cs w vs) = aft cs w (rks vs) := by
  unfold rks
  rw [aft_map (fun a b h => rkI_mono h) w hv, rkI_perm (aft_perm w hv)]
theorem rks_srt {b : Bool} {cs : List Cell} {vs : List Int} (hv : vs.length = cs.length) : rks (srt b cs vs) = srt b cs (rks vs) := rks_aft [b] hv
theorem map_inj_on {f : Int → Int} : ∀ {l m : List Int}, (∀ a ∈ l, ∀ b ∈ m, f a = f b → a = b) → l.map f = m.map f → l = m
  | [], [], _, _ => rfl
  | [], _ :: _, _, h => by simp at h
  | _ :: _, [], _, h => by simp at h
  | a :: l, b :: m, hi, h => by
    simp only [List.map_cons, List.cons.injEq] at h
    rw [hi a List.mem_cons_self b List.mem_cons_self h.1, map_inj_on (fun x hx y hy => hi x (List.mem_cons_of_mem _ hx) y (List.mem_cons_of_mem _ hy)) h.2]
theorem rises_rks {b : Bool} {cs : List Cell} {vs : List Int} (hv : vs.length = cs.length) : rises b cs (rks vs) = rises b cs vs := by
  have hr : (rks vs).length = cs.length := by
    unfold rks
    rw [List.length_map, hv]
  rw [← fix_rises hr, ← fix_rises hv, ← rks_srt hv]
  by_cases e : srt b cs vs = vs
  · rw [e, decide_eq_true rfl, decide_eq_true rfl]
  · rw [decide_eq_false e]
    refine decide_eq_false fun z => e ?_
    unfold rks at z
    rw [rkI_perm (srt_perm hv)] at z
    exact map_inj_on (fun a ha c hc => rkI_inj ((srt_perm hv).mem_iff.mp ha) hc) z
theorem settled_rks {cs : List Cell} {vs : List Int} (hv : vs.length = cs.length) : settled cs (rks vs) = settled cs vs := by
  unfold settled
  rw [rises_rks hv, rises_rks hv]
theorem rest_rks {cs : List Cell} {b : Bool} {vs : List Int} {n : Nat} (hv : vs.length = cs.length) (h : RestIs cs b vs n) : RestIs cs b (rks vs) n := by
  have e : ∀ m, settled cs (stat cs b (rks vs) m) = settled cs (stat cs b vs m) := fun m => by
    unfold stat
    rw [← rks_aft _ hv, settled_rks (by rw [aft_len, hv])]
  exact ⟨by rw [e]; exact h.end_, fun m hm => by rw [e]; exact h.least m hm⟩
/-- the place of a value in a rising list -/
theorem idx_asc : ∀ {l : List Int} {j : Nat} {v : Int}, l.Pairwise (· < ·) → l[j]? = some v → ((l.filter fun u => decide (u < v)).length) = j
  | [], j, v, _, h => by simp at h
  | a :: l, 0, v, p, h => by
    simp at h
    subst h
    rw [List.filter_cons_of_neg (by simp)]
    have : l.filter (fun u => decide (u < a)) = [] := List.filter_eq_nil_iff.mpr fun x hx => by
      have := (List.pairwise_cons.mp p).1 x hx
      simp
      omega
    rw [this]
    rfl
  | a :: l, j + 1, v, p, h => by
    have h' : l[j]? = some v := by simpa using h
    have ih := idx_asc (List.pairwise_cons.mp p).2 h'
    have := (List.pairwise_cons.mp p).1 v (List.mem_of_getElem? h')
    rw [List.filter_cons_of_pos (by simpa using this), List.length_cons, ih]
/-- a method's call inside a comprehension, where the written part is named by hand -/
theorem pe_bmK {X : Cx} {K : PySem.W.Frag} {o e : Expr} {es : List Expr} {to : TE} {t : TA} {name : Str} {apos cpos : Pos} {T id : String} {r : V → List V → Hp → VK → Prop} (hK : X.K = K) (pa : PlainAttrs T) (slot : Slot T name id)
    (hty : typeOf (.builtin id) = pure (.type "method_descriptor")) (hm : MtR X id r) (ho : PE X o to) (ha : PA X (e :: es) t)
    (hbase : attributeBase o name X.env (eval o X.env) = eval o X.env := by rfl)
    (hfew : ((backTo cpos (starEach (e :: es) X.env)).all (fun x => !x.1) && (backToKw cpos (keywordEach [] X.env)).all (fun x => x.1.isSome) && decide ((e :: es).length + ([] : List Keyword).length + (if ([] : List Keyword).isEmpty then 0 else 1) < 30)) = true := by rfl)
    (hline : (apos.endLine == cpos.line) = true := by rfl) (hs : starEach (e :: es) X.env = (false, eval e X.env) :: starEach es X.env := by rfl) (hplain : (backTo cpos (starEach es X.env)).any (·.1) = false := by rfl) :
    PE X (.Call (.Attribute o name apos) (e :: es) [] cpos) (tBM K T r to t) := by
  subst hK
  exact pe_bm pa slot hty hm ho ha hbase hfew hline hs hplain
theorem pg_tupK {X : Cx} {K : PySem.W.Frag} {es : List Expr} {k n : Nat} {pos : Pos} {t : TGs} (hK : X.K = K) (hc : X.calm = true) (h : PGs X es t) (hn : (assignEach es X.env).length = n := by rfl) (hst : (assignEach es X.env).findIdx? (·.1) = none := by rfl) : PG X (.Tuple es k pos) (gTup K n t) := by
  subst hK
  exact pg_tup hc h hn hst
end KS
namespace KS
open PySem PySem.Spec PyProof.Rows L2
/-! ### all orders of 1 to n -/
def insAt (l : List Int) (v : Int) (k : Nat) : List Int := l.take k ++ [v] ++ l.drop k
def insAll (v : Int) (l : List Int) : List (List Int) := (List.range (l.length + 1)).map (insAt l v)
def ordI : Nat → List (List Int)
  | 0 => [[]]
  | n + 1 => (ordI n).flatMap (insAll (1 + (n : Int)))
theorem ins_len (l : List Int) (v : Int) (k : Nat) : (insAt l v k).length = l.length + 1 := by
  unfold insAt
  rw [List.length_append, List.length_append, List.length_take, List.length_drop]
  show min k l.length + 1 + (l.length - k) = _
  omega
theorem ord_len : ∀ {n : Nat} {l : List Int}, l ∈ ordI n → l.length = n
  | 0, l, h => by
    have : l = [] := by simpa [ordI] using h
    rw [this]
    rfl
  | n + 1, l, h => by
    obtain ⟨m, hm, hl⟩ := List.mem_flatMap.mp h
    obtain ⟨k, _, rfl⟩ := List.mem_map.mp hl
    rw [ins_len, ord_len hm]
theorem flat_len {n : Nat} {v : Int} : ∀ {L : List (List Int)}, (∀ l ∈ L, l.length = n) → (L.flatMap (insAll v)).length = L.length * (n + 1)
  | [], _ => by simp
  | l :: L, h => by
    rw [List.flatMap_cons, List.length_append, flat_len fun m hm => h m (List.mem_cons_of_mem _ hm), List.length_cons, Nat.succ_mul]
    unfold insAll
    rw [List.length_map, List.length_range, h l List.mem_cons_self]
    omega
def facN : Nat → Nat
  | 0 => 1
  | n + 1 => facN n * (n + 1)
theorem len_ord : ∀ n : Nat, (ordI n).length = facN n
  | 0 => rfl
  | n + 1 => by
    show ((ordI n).flatMap (insAll (1 + (n : Int)))).length = facN n * (n + 1)
    rw [flat_len (fun l h => ord_len h), len_ord n]
theorem fac_le {n : Nat} (h : n ≤ 6) : facN n ≤ 720 := by
  have : n = 0 ∨ n = 1 ∨ n = 2 ∨ n = 3 ∨ n = 4 ∨ n = 5 ∨ n = 6 := by omega
  rcases this with e | e | e | e | e | e | e <;> subst e <;> decide
/-- different numbers from 1 to n, n of them, are an order -/
theorem mem_ord : ∀ {n : Nat} {l : List Int}, l.length = n → l.Nodup → (∀ v ∈ l, 1 ≤ v ∧ v ≤ (n : Int)) → l ∈ ordI n
  | 0, l, h, _, _ => by
    rw [List.eq_nil_of_length_eq_zero h]
    exact List.mem_singleton.mpr rfl
  | n + 1, l, h, nd, bd => by
    have hm : (1 + (n : Int)) ∈ l := by
      by_cases c : (1 + (n : Int)) ∈ l
      · exact c
      · exfalso
        have nd2 : (l.map Int.toNat).Nodup := by
          rw [List.nodup_iff_pairwise_ne, List.pairwise_map]
          refine (List.nodup_iff_pairwise_ne.mp nd).imp_of_mem fun {a b} ha hb q e => q ?_
          have := bd a ha
          have := bd b hb
          omega
        have := nodup_len_le nd2 (m := (List.range n).map (· + 1)) fun x hx => by
          obtain ⟨v, hv, rfl⟩ := List.mem_map.mp hx
          have b := bd v hv
          have ne : v ≠ 1 + (n : Int) := fun e => c (e ▸ hv)
          exact List.mem_map.mpr ⟨v.toNat - 1, List.mem_range.mpr (by omega), by omega⟩
        rw [List.length_map, List.length_map, List.length_range] at this
        omega
    obtain ⟨a, b, e⟩ := List.append_of_mem hm
    subst e
    have ndc := List.nodup_append.mp nd
    have ndb := List.nodup_cons.mp ndc.2.1
    have hl : (a ++ b).length = n := by
      rw [List.length_append] at h ⊢
      rw [List.length_cons] at h
      omega
    have ndab : (a ++ b).Nodup := by
      rw [List.nodup_append]
      exact ⟨ndc.1, ndb.2, fun x hx y hy => ndc.2.2 x hx y (List.mem_cons_of_mem _ hy)⟩
    have ih := mem_ord (n := n) (l := a ++ b) hl ndab fun v hv => by
      have mv : v ∈ a ++ (1 + (n : Int)) :: b := by
        rcases List.mem_append.mp hv with z | z
        · exact List.mem_append_left _ z
        · exact List.mem_append_right _ (List.mem_cons_of_mem _ z)
      have bv := bd v mv
      have ne : v ≠ 1 + (n : Int) := fun e => by
        rcases List.mem_append.mp hv with z | z
        · exact ndc.2.2 v z (1 + (n : Int)) List.mem_cons_self e
        · rw [e] at z
          exact ndb.1 z
      omega
    refine List.mem_flatMap.mpr ⟨a ++ b, ih, List.mem_map.mpr ⟨a.length, List.mem_range.mpr (by rw [List.length_append]; omega), ?_⟩⟩
    unfold insAt
    rw [List.take_left, List.drop_left, List.append_assoc]
    rfl
theorem rks_ord {n : Nat} {vs : List Int} (h : Vals9 n vs) (hn : n ≤ 24) : rks vs ∈ ordI n := by
  have r := rks9 h hn
  refine mem_ord r.len r.nd fun v hv => ?_
  obtain ⟨u, hu, rfl⟩ := List.mem_map.mp hv
  have := rkI_bd hu
  have := h.len
  omega
/-- whether each order whose rows rise still does behind a sort of the columns -/
def okO (cs : List Cell) (vs : List Int) : Bool := !(rises false cs vs) || rises false cs (srt true cs vs)
def keptP (cs : List Cell) : Bool := (ordI cs.length).all (okO cs)
theorem ord9 {n : Nat} {l : List Int} (h : l ∈ ordI n) : l.length = n := ord_len h
theorem keptP_iff {cs : List Cell} (g : Good cs) (hl : cs.length ≤ 24) : keptP cs = true ↔ NoX false cs := by
  unfold keptP
  rw [List.all_eq_true]
  constructor
  · intro h
    rw [nox_iff g]
    intro q hq
    cases e : obsQ cs q with
    | false => rfl
    | true =>
      exfalso
      obtain ⟨X, _⟩ := xat_of_obs hq e
      obtain ⟨br, hbr⟩ : ∃ br : Int, (cellB false cs q.2.1 q.2.2.1 ∧ ¬ cellB false cs q.1 q.2.2.2 ∧ br = (q.2.1 : Int)) ∨ (¬ cellB false cs q.2.1 q.2.2.1 ∧ cellB false cs q.1 q.2.2.2 ∧ br = (q.1 : Int)) := by
        rcases X.x with ⟨a, c⟩ | ⟨a, c⟩
        · exact ⟨_, .inl ⟨a, c, rfl⟩⟩
        · exact ⟨_, .inr ⟨a, c, rfl⟩⟩
      classical
      let mk : Nat → Int := fun m => (if cellB false cs (gB false cs m) q.2.2.1 ∧ (br < gB false cs m ∨ gB false cs m = q.1) then 1000 else 0) + ((m : Int) + 1)
      have mkT : ∀ m, (cellB false cs (gB false cs m) q.2.2.1 ∧ (br < gB false cs m ∨ gB false cs m = q.1)) → mk m = 1000 + ((m : Int) + 1) := fun m c => by
        show (if _ then (1000 : Int) else 0) + _ = _
        rw [if_pos c]
      have mkF : ∀ m, ¬ (cellB false cs (gB false cs m) q.2.2.1 ∧ (br < gB false cs m ∨ gB false cs m = q.1)) → mk m = 0 + ((m : Int) + 1) := fun m c => by
        show (if _ then (1000 : Int) else 0) + _ = _
        rw [if_neg c]
      have hlen : ((List.range cs.length).map mk).length = cs.length := by rw [List.length_map, List.length_range]
      have hat : ∀ m, m < cs.length → vI ((List.range cs.length).map mk) m = mk m := fun m hm => by
        unfold vI
        rw [List.getD_eq_getElem?_getD, List.getElem?_map, List.getElem?_range hm]
        rfl
      have mkd : ∀ m, mk m = 1000 + ((m : Int) + 1) ∨ mk m = 0 + ((m : Int) + 1) := fun m => by
        by_cases c : cellB false cs (gB false cs m) q.2.2.1 ∧ (br < gB false cs m ∨ gB false cs m = q.1)
        · exact .inl (mkT m c)
        · exact .inr (mkF m c)
      have v9 : Vals9 cs.length ((List.range cs.length).map mk) := by
        refine ⟨hlen, ?_, fun v hv => ?_⟩
        · rw [List.nodup_iff_pairwise_ne, List.pairwise_map]
          refine List.pairwise_lt_range.imp_of_mem fun {a b} ha hb hab z => ?_
          have ha := List.mem_range.mp ha
          have hb := List.mem_range.mp hb
          rcases mkd a with e1 | e1 <;> rcases mkd b with e2 | e2 <;> rw [e1, e2] at z <;> omega
        · obtain ⟨m, hm, rfl⟩ := List.mem_map.mp hv
          have hm := List.mem_range.mp hm
          rcases mkd m with e1 | e1 <;> rw [e1] <;> omega
      have hz := h _ (rks_ord v9 hl)
      have up : rises false cs ((List.range cs.length).map mk) = true := by
        rw [rises_pairs g]
        intro i j hij hj e'
        rw [hat i (by omega), hat j hj]
        by_cases c : cellB false cs (gB false cs i) q.2.2.1 ∧ (br < gB false cs i ∨ gB false cs i = q.1)
        · have c2 := c
          rw [e'] at c2
          rw [mkT i c, mkT j c2]
          omega
        · have c2 : ¬ (cellB false cs (gB false cs j) q.2.2.1 ∧ (br < gB false cs j ∨ gB false cs j = q.1)) := by
            rw [← e']
            exact c
          rw [mkF i c, mkF j c2]
          omega
      have dn := breaks (b := false) (x := 1000) g hlen X.hr X.hk X.c1 X.c2 hbr (fun m hm => by
        rw [hat m hm]
        by_cases c : cellB false cs (gB false cs m) q.2.2.1 ∧ (br < gB false cs m ∨ gB false cs m = q.1)
        · rw [mkT m c]
          exact ⟨fun _ => c, fun _ => by omega⟩
        · rw [mkF m c]
          exact ⟨fun z => by omega, fun z => absurd z c⟩)
      have dn' : rises false cs (srt true cs ((List.range cs.length).map mk)) = false := dn
      unfold okO at hz
      rw [rises_rks hlen, up, ← rks_srt hlen, rises_rks (by rw [srt_len]; exact hlen), dn'] at hz
      exact absurd hz (by decide)
  · intro nx vs hvs
    have h1 := ord_len hvs
    unfold okO
    cases e : rises false cs vs with
    | false => rfl
    | true =>
      have := kept (b := false) g h1 nx e
      rw [show rises false cs (srt true cs vs) = true from this]
      rfl
def sq4 : List Cell := [(0, 0), (0, 1), (1, 0), (1, 1)]
theorem sq_ans : ∀ k, k < 4 → ∀ o, Ans (sq4.eraseIdx k) o → decide (o = none) = [true, false, false, true].getD k true := by
  intro k hk o an
  have e := Ans.uniq an (ans_of_filter (sq4.eraseIdx k))
  rw [e]
  have : k = 0 ∨ k = 1 ∨ k = 2 ∨ k = 3 := by omega
  rcases this with z | z | z | z <;> subst z <;> decide +kernel
theorem sq_good : ∀ k, k < 4 → Good (sq4.eraseIdx k) := by
  intro k hk
  have : k = 0 ∨ k = 1 ∨ k = 2 ∨ k = 3 := by omega
  rcases this with z | z | z | z <;> subst z <;> refine ⟨?_, ?_, by decide⟩ <;> simp [sq4, lt2, InGrid]
end KS
namespace KS
open PySem PySem.Spec PyProof.Rows L2 RZ
/-! ### dicts whose keys are tuples: {k: v for ..} -/
/-- the pair (y, z) goes into the dict at D -/
def PutT (D : Addr) (y z : V) (G : Hp) (N : Hp → Prop) : Prop := ∃ (kvs : List (List L2.Key × V)) (k : List L2.Key) (b : Addr), y = .ref b ∧ G b = some (.tup (k.map kV)) ∧ G D = some (.dT kvs) ∧ kvs.length < sizeLine ∧ N (upd G D (.dT (putK kvs k z)))
/-- one turn of such a comprehension -/
def TurnDT (J : It) (g : TG) (tt : TT) (tk tv : TE) (vs : List Nat) (σ : L2.St) (D : Addr) (i : Nat) (G : Hp) (N : Hp → Prop) : Prop :=
  ∀ x G1, J.yld i G x G1 → g x (wipe σ vs) G1 fun τ G2 => wipe τ vs = wipe σ vs ∧ tt τ G2 fun b G3 => if b = true then tk τ G3 (fun y G4 => tv τ G4 fun z G5 => PutT D y z G5 N) else N G3
def tDcT (wi : TI) (g : TG) (tt : TT) (tk tv : TE) (vs : List Nat) : TE := fun σ H Q => wi σ H fun J H1 => ∀ D, H1 D = none →
  ∃ W : Nat → Nat → Hp → Prop, (∃ m, W 0 m (upd H1 D (.dT []))) ∧
    ∀ i m G, W i m G → (J.stop i G ∧ Q (.ref D) G) ∨ (J.go i G ∧ ∃ N : Hp → Prop, (∀ G', N G' → ∃ m', m' < m ∧ W (i + 1) m' G') ∧ TurnDT J g tt tk tv vs σ D i G N)
section
variable {X : Cx}
theorem putT_set {pins : List (Addr × Obj)} {σ : L2.St} {H : Hp} {s : Shared} {E : Value → Shared → Prop} {D : Addr} {y z : V} {u r : Value} {N : Hp → Prop} {Q : Unit → Shared → Prop} (hu : X.A.units < cLine)
    (I : Inv X pins σ H s) (p : PutT D y z H N) (ry : RelV y u) (rz : RelV z r) (h : ∀ H' s', Inv X pins σ H' s' → N H' → Q () s') :
    wpAny (model X.prog X.w) X.A (dictSet D u r) Q E s := by
  obtain ⟨kvs, k, b, rfl, eb, eD, len, nx⟩ := p
  cases (show u = Value.ref b from ry)
  obtain ⟨z0, hd, xs, rel, dd⟩ := dt_of I.hok eD
  have few : xs.length ≤ sizeLine := (Paired.length rel) ▸ z0
  have few' : (putK kvs k z).length ≤ sizeLine := Nat.le_trans (length_putK kvs k z) len
  refine wpAny_dictSet_heap (knd := tupleKind (mixKind X.prog X.w)) (hsz := few) hu (key_of I.hok eb) dd (fun h' dd' hs => h _ _ ?_ nx)
  obtain ⟨q, es, ep, hq, c2, c3, c4, _, c5⟩ := dd'
  have kept : L2.KT (upd H D (.dT (putK kvs k z))) (putK kvs k z) (storedH xs k b r) :=
    (rel.put k eb rz).keeps (fun c ys ec => (upd_ne (ne_of ec eD (fun e => nomatch e))).trans ec)
  exact d_write I (eD.symm ▸ True.intro) hs ⟨q, hq⟩ ⟨few', hd, _, kept, q, es, ep, hq, c2, c3, c4, c5⟩
/-- what the block's walker leaves alone -/
theorem foot {Y : Cx} {fp : List Addr} {τ : L2.St} {G : Hp} {t : Shared} (I : Inv Y [] τ G t) (hx : ∀ b ∈ fp, b ∈ Y.ex) (hp : Y.pn = []) (hn : ∀ b ∈ fp, G b = none) : ∀ b ∈ fp, FpOk Y [] G b := by
  intro b hb
  have inx := hx b hb
  have e1 := I.ok.exf b inx
  refine ⟨hn b hb, e1.1, I.ok.exfs b inx, Or.inl inx, fun x c e => e1.2 x c e, ?_⟩
  rw [hp]
  intro p hpm
  cases hpm
theorem dcT_core {pins : List (Addr × Obj)} {s : Shared} {σ : L2.St} {H : Hp} {Q : VK} {kx vx tg iter : Expr} {ifs : List Expr} {scope : Scope} {own : List (Str × Nat)} {pos pos' : Pos} {wi : TI} {g : TG} {tt : TT} {tk tv : TE} {use : Option (Value → Sem Unit)} {Qf : Value → Shared → Prop}
    (hu : X.A.units < cLine) (hc : X.calm = true) (hN : X.N.Nodup) (I : Inv X pins σ H s) (hi : PI X tg iter wi) (ok : BlkOk X.N X.env.scope scope own)
    (hg : ∀ (s : Shared) (H : Hp) (C : Addr) (cl : List (Str × Addr)) (fp : List Addr), PG (X.blk s H scope (compEnvC scope cl C X.env) fp) tg g)
    (ht : ∀ (s : Shared) (H : Hp) (C : Addr) (cl : List (Str × Addr)) (fp : List Addr), PTs (X.blk s H scope (compEnvC scope cl C X.env) fp) ifs tt)
    (hk : ∀ (s : Shared) (H : Hp) (C : Addr) (cl : List (Str × Addr)) (fp : List Addr), PE (X.blk s H scope (compEnvC scope cl C X.env) fp) kx tk)
    (hv : ∀ (s : Shared) (H : Hp) (C : Addr) (cl : List (Str × Addr)) (fp : List Addr), PE (X.blk s H scope (compEnvC scope cl C X.env) fp) vx tv)
    (hs : ∀ x, foldedSetIterable iter X.env x = pure x) (h : tDcT wi g tt tk tv (own.map (·.2)) σ H Q)
    (fin : ∀ D C s' m H', Inv X pins σ H' s' → Q (.ref D) H' → s'.heap.Ns C m → FpOk X pins H' C → compPost (model X.prog X.w) X.A X.xe use Qf (.ref D) C (.ok .next) s') :
    wpAny (model X.prog X.w) X.A (comprehension (.DictComp kx vx [⟨tg, iter, ifs, 0⟩] scope pos) scope X.env pos' newDict false (eval iter X.env) use) Qf X.xe s := by
  have caps : ∀ y ∈ scope.names, y.2 = .free → ∃ c, X.env.cells.lookup y.1 = some c := fun y hy e => (ok.free y hy e).elim (fun k => I.ok.has _ (Or.inl k)) (fun k => I.ok.has _ (Or.inr k))
  have loc : ∀ y ∈ scope.names, y.2 = .local → scope.names.lookup y.1 = some .local := fun y hy e => e ▸ ok.uniq y hy
  refine wpAny_comprehension_free (use := use) rfl hs (closure_ok caps) ok.kind loc (thn (hi.run pins s σ H _ I h) fun xv s1 hx => ?_)
  refine thn hx fun itv s2 came => ?_
  obtain ⟨it, fp, tn, J, H2, rfl, I2, T, st2, f2, q⟩ := came
  refine wpAny_newObj_type (newEnv_comp ?_)
  have DN : H2 s2.heap.objs.size = none := I2.hok.fresh (Nat.le_refl _)
  obtain ⟨W, ⟨m0, w0⟩, turn⟩ := q _ DN
  have I3 : Inv X pins σ (upd H2 s2.heap.objs.size (.dT [])) { s2 with heap := s2.heap.push { cls := .type "dict", data := .dict #[] } } :=
    I2.laid (t' := s2.toks) (fun b o e => Heap.get?_push_of_some _ e) (Nat.le_refl _) (dt_empty s2.heap I2.big)
  have small : ∀ b ∈ fp, b < s2.heap.objs.size := fun b hb => (T.obj _ _ st2 b hb).elim fun o e => Heap.lt_size e.1
  have f3 : ∀ b ∈ fp, FpOk X pins (upd H2 s2.heap.objs.size (.dT [])) b ∧ b < (s2.heap.push { cls := .type "dict", data := .dict #[] }).objs.size := fun b hb =>
    ⟨⟨(upd_ne (Nat.ne_of_lt (small b hb))).trans (f2 b hb).1, (f2 b hb).2⟩, (Heap.size_push ..).symm ▸ Nat.lt_succ_of_lt (small b hb)⟩
  have st3 : tn 0 (s2.heap.push { cls := .type "dict", data := .dict #[] }) := T.keep _ _ _ st2 fun b _ o e => Heap.get?_push_of_some _ e
  generalize eD : s2.heap.objs.size = D at *
  generalize eH : upd H2 D (.dT []) = H3 at *
  generalize eS : ({ s2 with heap := s2.heap.push { cls := .type "dict", data := .dict #[] } } : Shared) = s3 at *
  have I4 := block_start I3 ok hN (fun b hb => by rw [← eS]; exact f3 b hb)
  have sh : s3.heap = s2.heap.push { cls := .type "dict", data := .dict #[] } := by rw [← eS]
  rw [← sh] at st3
  have st4 : tn 0 (pushCells (s3.heap.push { cls := .type "dict", data := .dict #[] }) scope.names) := T.keep _ _ _ st3 fun b _ o e => pushCells_keeps _ _ _ _ (Heap.get?_push_of_some _ e)
  have n3 : ∀ b ∈ fp, H3 b = none := fun b hb => (f3 b hb).1.1
  have pg := hg s3 H3 s3.heap.objs.size (cellsFrom (s3.heap.objs.size + 1) scope.names (cloFrom X.env.cells scope.names [])) fp
  have pt := ht s3 H3 s3.heap.objs.size (cellsFrom (s3.heap.objs.size + 1) scope.names (cloFrom X.env.cells scope.names [])) fp
  have pk := hk s3 H3 s3.heap.objs.size (cellsFrom (s3.heap.objs.size + 1) scope.names (cloFrom X.env.cells scope.names [])) fp
  have pv' := hv s3 H3 s3.heap.objs.size (cellsFrom (s3.heap.objs.size + 1) scope.names (cloFrom X.env.cells scope.names [])) fp
  have cL : (compEnvC scope (cellsFrom (s3.heap.objs.size + 1) scope.names (cloFrom X.env.cells scope.names [])) s3.heap.objs.size X.env).locals = s3.heap.objs.size := rfl
  change codeAny (model X.prog X.w) X.A (.compStart (.DictComp kx vx [⟨tg, iter, ifs, 0⟩] scope pos) 0 (.ref it) (.ref D) (compEnvC scope (cellsFrom (s3.heap.objs.size + 1) scope.names (cloFrom X.env.cells scope.names [])) s3.heap.objs.size X.env))
    (compPost (model X.prog X.w) X.A X.xe use Qf (.ref D) s3.heap.objs.size) { s3 with heap := pushCells (s3.heap.push { cls := .type "dict", data := .dict #[] }) scope.names }
  generalize compEnvC scope (cellsFrom (s3.heap.objs.size + 1) scope.names (cloFrom X.env.cells scope.names [])) s3.heap.objs.size X.env = ce at I4 pg pt pk pv' cL ⊢
  generalize e4 : ({ s3 with heap := pushCells (s3.heap.push { cls := .type "dict", data := .dict #[] }) scope.names } : Shared) = s4 at I4 ⊢
  replace st4 : tn 0 s4.heap := by
    rw [← e4]
    exact st4
  suffices loop : codeAny (model X.prog X.w) X.A (.compLoop (.DictComp kx vx [⟨tg, iter, ifs, 0⟩] scope pos) 0 (.ref it) (.ref D) ce) (compPost (model X.prog X.w) X.A X.xe use Qf (.ref D) s3.heap.objs.size) s4 from
    codeAny_compStart_dict loop (T.self X.A 0 _ _ _ st4 loop)
  refine compLoop_anyD (fun n t => ∃ i G, Inv (X.blk s3 H3 scope ce fp) [] (wipe σ (own.map (·.2))) G t ∧ tn i t.heap ∧ (∀ b ∈ fp, G b = none) ∧ W i n G) (fun n t inv => ?_) m0 ⟨0, H3, I4, st4, n3, w0⟩
  obtain ⟨i, G, IG, stG, nG, wG⟩ := inv
  rcases turn i n G wG with ⟨halt, qG⟩ | ⟨more, N, hN', body⟩
  · -- no more items
    refine thnF (T.done (X.blk s3 H3 scope ce fp) rfl rfl rfl hc i [] t _ G (fun _ _ => False) IG (foot IG (fun _ hb => hb) rfl nG) stG halt) fun r t1 both => ?_
    obtain ⟨rfl, I1⟩ := both
    have back : Inv X pins σ G t1 := I3.call' (ch := fp) I1.os I1.base I1.hok I1.bare fun b hb =>
      let ⟨_, u1, _, u2, u3, u4⟩ := (f3 b hb).1
      ⟨u2, u1, u3, u4⟩
    have freeC : G s3.heap.objs.size = none := cL ▸ (show G ce.locals = none from I1.free)
    obtain ⟨m, hn, _⟩ := I1.loc
    exact fin D s3.heap.objs.size t1 m G back qG (cL ▸ (show t1.heap.Ns ce.locals m from hn)) (I3.fpOk (Nat.le_refl _) freeC)
  · refine thnF (T.item (X.blk s3 H3 scope ce fp) rfl rfl rfl hc i [] t _ G (fun _ _ => False) IG (foot IG (fun _ hb => hb) rfl nG) stG more) fun r t1 got => ?_
    obtain ⟨u, rfl, got⟩ := got
    refine thnF got fun _ t2 ⟨x, G2, IG2, rx, yx, stx, nx⟩ => ?_
    have held := IG2.pinned (foot IG2 (fun _ hb => hb) rfl nx) (T.obj _ _ stx)
    refine thnF (pg.run _ t2 _ G2 x u _ held rx (body x G2 yx)) fun _ t3 ⟨τ, G3, IG3, weq, rest⟩ => ?_
    refine thnF (pt.run _ t3 τ G3 _ IG3 rest) fun b t4 ⟨G4, IG4, rest⟩ => ?_
    have close : ∀ {t' : Shared} {G' : Hp}, Inv (X.blk s3 H3 scope ce fp) ([] ++ pinsAt fp t2.heap) τ G' t' → N G' → ∃ m, m < n ∧ ∃ i G, Inv (X.blk s3 H3 scope ce fp) [] (wipe σ (own.map (·.2))) G t' ∧ tn i t'.heap ∧ (∀ b ∈ fp, G b = none) ∧ W i m G := by
      intro t' G' IG' nn
      obtain ⟨m', lt, w'⟩ := hN' G' nn
      have still : ∀ b ∈ fp, ∀ o, t2.heap.get? b = some o → t'.heap.get? b = some o ∧ G' b = none := by
        intro b hb o e
        have z := IG'.pin (b, o) (List.mem_append_right _ (List.mem_append_right _ (mem_pinsAt hb e)))
        exact ⟨z.1, z.2.1⟩
      have lens : (wipe σ (own.map (·.2))).length = τ.length := (congrArg List.length weq).symm.trans (wipe_length _ _)
      refine ⟨m', lt, i + 1, G', (IG'.unpinned (pins := [])).weak lens (fun j v e => (wipe_some (weq ▸ e)).1), T.keep _ _ _ stx fun b hb o e => (still b hb o e).1, ?_, w'⟩
      intro b hb
      obtain ⟨o, e, _⟩ := T.obj _ _ stx b hb
      exact (still b hb o e).2
    cases b with
    | false => exact close IG4 rest
    | true =>
      refine thnF (pk.run _ t4 τ G4 _ IG4 rest) fun uk t5 ⟨yk, G5, IG5, rk, rest⟩ => ?_
      refine thnF (pv'.run _ t5 τ G5 _ IG5 rest) fun uv t6 ⟨yv, G6, IG6, rv, put⟩ => ?_
      exact putT_set (X := X.blk s3 H3 scope ce fp) hu IG6 put rk rv fun G' t' I' nn => close I' nn
theorem ps_setDcT {i : Nat} {y : Str} {py : Pos} {kx vx tg iter : Expr} {ifs : List Expr} {scope : Scope} {own : List (Str × Nat)} {pos spos : Pos} {wi : TI} {g : TG} {tt : TT} {tk tv : TE} (hu : X.A.units < cLine) (hc : X.calm = true) (hN : X.N.Nodup) (hy : X.N[i]? = some y) (hyl : X.env.scope.names.lookup y = some .local)
    (hsw : swapsWith (.DictComp kx vx [⟨tg, iter, ifs, 0⟩] scope pos) (some (.Name y py)) spos.line X.env = pure true) (hi : PI X tg iter wi) (ok : BlkOk X.N X.env.scope scope own)
    (hg : ∀ (s : Shared) (H : Hp) (C : Addr) (cl : List (Str × Addr)) (fp : List Addr), PG (X.blk s H scope (compEnvC scope cl C X.env) fp) tg g)
    (ht : ∀ (s : Shared) (H : Hp) (C : Addr) (cl : List (Str × Addr)) (fp : List Addr), PTs (X.blk s H scope (compEnvC scope cl C X.env) fp) ifs tt)
    (hk : ∀ (s : Shared) (H : Hp) (C : Addr) (cl : List (Str × Addr)) (fp : List Addr), PE (X.blk s H scope (compEnvC scope cl C X.env) fp) kx tk)
    (hv : ∀ (s : Shared) (H : Hp) (C : Addr) (cl : List (Str × Addr)) (fp : List Addr), PE (X.blk s H scope (compEnvC scope cl C X.env) fp) vx tv)
    (hs : ∀ x, foldedSetIterable iter X.env x = pure x := by intro _; rfl) :
    PS X (.Assign [.Name y py] (.DictComp kx vx [⟨tg, iter, ifs, 0⟩] scope pos) spos) (tAsg (tDcT wi g tt tk tv (own.map (·.2))) (gName i)) := by
  refine ⟨fun pins s σ H D I h => ?_⟩
  rw [exec_Assign_Name_used _ _ _ _ hsw]
  refine wpAny_bind (wpAny_standAt (wpAny_bind ?_))
  show wpAny _ X.A (do let _ ← comprehension (.DictComp kx vx [⟨tg, iter, ifs, 0⟩] scope pos) scope X.env (firstIterPos [⟨tg, iter, ifs, 0⟩] pos) newDict false (eval iter X.env) (some (assign (.Name y py) X.env))) _ _ s
  have h : tDcT wi g tt tk tv (own.map (·.2)) σ H (fun x H1 => gName i x σ H1 D.nx) := h
  refine wpAny_bind (thn (dcT_core (Qf := fun _ s' => SP X pins D .next s') hu hc hN I hi ok hg ht hk hv hs h fun L C s' m H' I' q hn f => ?_) fun _ s' hq => wpAny_pure (wpAny_pure hq))
  show wpAny _ _ (assign (.Name y py) X.env (.ref L)) _ _ _
  refine wpAny_assign_Name (store_ok2 (v := V.ref L) I' hN hy (.inl hyl) rfl (fun s2 I2 ⟨a, sb, ha⟩ => ?_) (.inr hyl))
  obtain ⟨f0, f1, f2, f3, f4, f5⟩ := f
  have off : C ≠ a := ha.elim (fun z => z ▸ f1) (fun z e => f4 y a z e.symm)
  refine ⟨m, hn.sameBut sb off, fun h3 sb3 => ?_⟩
  exact ⟨_, H', I2.turned (t' := s2.toks) (fun b o hb e => (sb3.2 b hb).trans e) f0 f1 f3 f4 f5, q⟩
end
theorem sw_dict {kx vx : Expr} {gs : List Comprehension} {scope : Scope} {pos py : Pos} {y : Str} {l : Nat} {env : Env} (hk : env.scope.kind = .function) (hy : env.scope.names.lookup y = some .local) (hl : (py.line == pos.line) = true)
    (ha : (scope.names.any fun (n, k) => n == y && (k == .local || k == .cell)) = false) : swapsWith (.DictComp kx vx gs scope pos) (some (.Name y py)) l env = pure true := by
  have ky : env.kindOf y = some .local := hy
  have hb : env.blockKind = .function := by unfold Env.blockKind; rw [hk]; rfl
  unfold swapsWith
  simp only [hb, ky, ha, Expr.pos, hl]
  rfl
/-- a walk over two tuples side by side -/
theorem walk_zipT {K : PySem.W.Frag} {a b : Addr} {xs ys : List V} {n : Nat} (hx : xs.length = n) (hy : ys.length = n) : Walk (ItzT K a b) n (fun H => SqT K H a xs ∧ SqT K H b ys) (YPair (fun i => xs[i]?) (fun i => ys[i]?)) where
  goes := fun i H hi ⟨h1, h2⟩ => ⟨xs, ys, _, _, h1, h2, List.getElem?_eq_getElem (by omega), List.getElem?_eq_getElem (by omega)⟩
  stops := fun H ⟨h1, h2⟩ => ⟨xs, ys, h1, h2, Or.inl (by omega)⟩
  yields := fun i H x H' hi ⟨h1, h2⟩ ⟨T, x', y', e1, e2, e3, f1, f2⟩ => ⟨T, x', y', e1, e2, e3, f1 xs h1, f2 ys h2⟩
/-- such a comprehension over any walk -/
theorem dcT_it {J : It} {n : Nat} {Gd : Hp → Prop} {Y : Nat → Hp → V → Hp → Prop} (w : Walk J n Gd Y) {g : TG} {tt : TT} {tk tv : TE} {vs : List Nat} {σ : L2.St} {H1 : Hp} {D : Addr} {Qd : Hp → Prop} (Pv : Nat → Hp → Prop) (h0 : Pv 0 (upd H1 D (.dT []))) (hl : ∀ i H, i ≤ n → Pv i H → Gd H)
    (hs : ∀ i x G G1, i < n → Pv i G → Y i G x G1 → g x (wipe σ vs) G1 fun τ G2 => wipe τ vs = wipe σ vs ∧ tt τ G2 fun b G3 => if b = true then tk τ G3 (fun y G4 => tv τ G4 fun z G5 => PutT D y z G5 (Pv (i + 1))) else Pv (i + 1) G3)
    (hd : ∀ H, Pv n H → Qd H) :
    ∃ W : Nat → Nat → Hp → Prop, (∃ m, W 0 m (upd H1 D (.dT []))) ∧
      ∀ i m G, W i m G → (J.stop i G ∧ Qd G) ∨ (J.go i G ∧ ∃ N : Hp → Prop, (∀ G', N G' → ∃ m', m' < m ∧ W (i + 1) m' G') ∧ TurnDT J g tt tk tv vs σ D i G N) := by
  refine ⟨fun i m G => m + i = n ∧ Pv i G, ⟨n, rfl, h0⟩, ?_⟩
  rintro i m G ⟨e, p⟩
  have hi : i ≤ n := by omega
  have good := hl i G hi p
  rcases Nat.lt_or_ge i n with lt | ge
  · refine Or.inr ⟨w.goes i G lt good, Pv (i + 1), fun G' p' => ⟨m - 1, by omega, by omega, p'⟩, ?_⟩
    intro x G1 y
    exact hs i x G G1 lt p (w.yields i G x G1 lt good y)
  · have e2 : i = n := by omega
    subst e2
    exact Or.inl ⟨w.stops G good, hd G p⟩
end KS
namespace KS
open PySem PySem.Spec PyProof.Rows L2 RZ
/-! ### {k: v}, the key a tuple -/
def tDisp1T (tk tv : TE) : TE := fun σ H Q => ∀ D, H D = none → tPairs [(tk, tv)] σ (upd H D (.dT [])) fun ps H2 => ∃ y z, ps = [(y, z)] ∧ PutT D y z H2 (Q (.ref D))
section
variable {X : Cx}
theorem pe_disp1T {k v : Expr} {pos : Pos} {tk tv : TE} (hu : X.A.units < cLine) (hk : PE X k tk) (hv : PE X v tv) : PE X (.Dict [some k] [v] pos) (tDisp1T tk tv) := by
  refine ⟨fun pins s σ H Q I h => ?_⟩
  have hn := I.hok.fresh (Nat.le_refl s.heap.objs.size)
  have I1 := I.laid (a := s.heap.objs.size) (o := .dT []) (h' := s.heap.push { cls := .type "dict", data := .dict #[] }) (t' := s.toks) (fun _ _ q => Heap.get?_push_of_some _ q) (Nat.le_refl _) (dt_empty s.heap I.big)
  have hl := pairTrees_length [some k] [v] X.env pos rfl rfl
  rw [arm_eval_Dict, zip_pairTrees [some k] [v] X.env pos rfl rfl, dictDisplay_pairs _ (fun e => by rw [e] at hl; cases hl) (by rw [hl]; exact (by decide : 1 < 17))]
  refine wpAny_bind (wpAny_standAt (wpAny_bind ?_))
  unfold subDict
  refine wpAny_bind (wpAny_alloc ?_)
  refine wpAny_bind (wpAny_holding ?_)
  rw [if_pos (by rw [hl]; exact (by decide : 1 ≤ 15))]
  refine wpAny_bind (thn ((pps_cons hk hv pps_nil).run pins _ σ _ (fun ps H3 => ∃ y z, ps = [(y, z)] ∧ PutT s.heap.objs.size y z H3 (Q (.ref s.heap.objs.size))) I1 (h _ hn)) fun ws s2 got => ?_)
  · obtain ⟨ps, H2, I2, rel, y, z, rfl, put⟩ := got
    cases rel with
    | @cons p q _ _ r rr =>
      cases rr
      obtain ⟨u, r'⟩ := q
      obtain ⟨ry, rz⟩ := r
      refine wpAny_holding ?_
      rw [List.forIn_cons]
      refine wpAny_bind (wpAny_bind ?_)
      show wpAny _ _ (dictSet s.heap.objs.size u r' >>= fun _ => pure (ForInStep.yield PUnit.unit)) _ _ _
      refine wpAny_bind (putT_set hu I2 put ry rz fun H' s' I' nn => wpAny_pure ?_)
      dsimp only []
      rw [List.forIn_nil]
      exact wpAny_pure (wpAny_pure (wpAny_pure (wpAny_pure ⟨.ref s.heap.objs.size, H', I', rfl, nn⟩)))
end
/-! ### k, v in d.items(), the keys tuples -/
def Itit (d : Addr) (o : Obj) (kvs : List (List L2.Key × V)) : It :=
  ⟨fun i H => H d = some (.frz o (.dT kvs)) ∧ i < kvs.length, fun i H x H' => ∃ (T : Addr) (k : List L2.Key) (v : V) (q : Addr), kvs[i]? = some (k, v) ∧ H q = some (.tup (k.map kV)) ∧ x = .ref T ∧ H T = none ∧ H' = upd H T (.tup [.ref q, v]),
    fun i H => H d = some (.frz o (.dT kvs)) ∧ kvs.length ≤ i⟩
/-- the same with the values -/
theorem frzTV {X : Cx} {pins : List (Addr × Obj)} {σ : L2.St} {H : Hp} {s : Shared} {d : Addr} {o : Obj} {kvs : List (List L2.Key × V)} (I : Inv X pins σ H s) (h : H d = some (.frz o (.dT kvs))) :
    (d == sysModules) = false ∧ s.heap.get? d = some o ∧ o.ExactDict ∧ ∃ (es : Array DictEntry) (ep : Nat), o.data = .dict es ep ∧ es.size = kvs.length ∧
      ∀ (i : Nat) (k : List L2.Key) (v : V), kvs[i]? = some (k, v) → ∃ (en : DictEntry) (q : Addr), es[i]? = some en ∧ en.key = .ref q ∧ H q = some (.tup (k.map kV)) ∧ RelV v en.val := by
  obtain ⟨h1, _, h2, xs, pr, o', es, ep, g1, g2, g3, g4, _⟩ := I.hok d _ h
  rw [h1] at g1
  cases g1
  refine ⟨h2, h1, g2, es, ep, g3, ?_, fun i k v e => ?_⟩
  · have l1 := size_of_entries g4
    have l2 := Paired.length pr
    omega
  · obtain ⟨b, eb, e1, e2, e3⟩ := L2.paired_get pr e
    have q := entry_at g4 i
    rw [eb] at q
    exact ⟨_, b.2.1, q, rfl, e2, e3⟩
section
variable {P : Program} {w : World} {K : PySem.W.Frag} {d : Addr} {o : Obj} {es : Array DictEntry} {ep : Nat}
theorem turn_itemsT {kvs : List (List L2.Key × V)} {elts : List Expr} {kk : Nat} {tpos : Pos} (it : Addr) (hod : o.data = .dict es ep) :
    Turn P w K (.Tuple elts kk tpos) (Itit d o kvs) [it] it (fun i h => ∃ ok ov, IsItemIter h it d i kvs.length ep ok ov) where
  mem := List.mem_singleton.mpr rfl
  obj := fun i h st b hb => by
    rw [List.mem_singleton.mp hb]
    obtain ⟨ok, ov, e⟩ := st
    exact ⟨_, e, fun v z => nomatch z⟩
  keep := fun i h h' st k => by
    obtain ⟨ok, ov, e⟩ := st
    exact ⟨ok, ov, k it (List.mem_singleton.mpr rfl) _ e⟩
  item := by
    intro X eP eW eK hc i pins s σ H E I hf st hg
    subst eP eW eK
    obtain ⟨hd, hi⟩ := hg
    obtain ⟨h2, h1, g2, es', ep', g3, gz, ent⟩ := frzTV I hd
    obtain ⟨rfl, rfl⟩ := dict_ep hod g3
    obtain ⟨⟨k, v⟩, hkv⟩ : ∃ p, kvs[i]? = some p := ⟨kvs[i], List.getElem?_eq_getElem hi⟩
    obtain ⟨en, q, hen, hkey, hq, rv⟩ := ent i k v hkv
    obtain ⟨ok, ov, he⟩ := st
    rw [← gz] at he
    have hie : i < es'.size := by omega
    have een : es'[i] = en := by
      rw [Array.getElem?_eq_getElem hie] at hen
      exact Option.some.inj hen
    have hlt : it < s.heap.objs.size := Heap.lt_size he
    refine DT.nextI he ⟨o, h1, g2, g3⟩ hie fun h' ho hT hz hk => ?_
    refine ⟨_, rfl, wpAny_letOwnedTupleGo_items (s := { s with heap := h' }) ho fun h'' he' sb => ?_⟩
    rw [een, hkey] at hT
    have hT2 : h''.get? s.heap.objs.size = some { cls := .type "tuple", data := .seq #[.ref q, en.val] } := (sb.2 _ (Nat.ne_of_gt hlt)).trans hT
    have fresh : ObjOk X.prog X.w (upd H s.heap.objs.size (.tup [.ref q, v])) h'' s.heap.objs.size (.tup [.ref q, v]) :=
      ⟨by show 2 ≤ sizeLine; decide, [.ref q, en.val], .cons rfl (.cons rv .nil), ⟨_, hT2, rfl, _, rfl⟩⟩
    have I1 : Inv X pins σ (upd H s.heap.objs.size (.tup [.ref q, v])) { s with heap := h'' } :=
      I.turnedNew (t' := s.toks) (ch := [it]) (fun b ob hb e => (sb.2 b (fun z => hb (List.mem_singleton.mpr z))).trans (hk b ob (fun z => hb (List.mem_singleton.mpr z)) e)) hf (Nat.le_refl _) fresh
    refine ⟨.ref s.heap.objs.size, _, I1, rfl, ⟨_, k, v, q, hkv, hq, rfl, I.hok.fresh (Nat.le_refl _), rfl⟩, ⟨_, _, by rw [← gz]; exact he'⟩, fun b hb => ?_⟩
    rw [List.mem_singleton.mp hb, upd_ne (Nat.ne_of_lt hlt)]
    exact (hf it (List.mem_singleton.mpr rfl)).1
  done := by
    intro X eP eW eK hc i pins s σ H E I hf st hg
    subst eP eW eK
    obtain ⟨hd, hi⟩ := hg
    obtain ⟨f0, f1, f2, f3, f4, f5⟩ := hf it (List.mem_singleton.mpr rfl)
    obtain ⟨h2, h1, g2, es', ep', g3, gz, ent⟩ := frzTV I hd
    obtain ⟨rfl, rfl⟩ := dict_ep hod g3
    obtain ⟨ok, ov, he⟩ := st
    rw [← gz] at he
    exact DT.endI (I.ok.hd hc) he ⟨o, h1, g2, g3⟩ (by omega) fun h' eb => ⟨rfl, I.turned (t' := s.toks) (fun b ob hb e => eb b ob hb e) f0 f1 f3 f4 f5⟩
  self := fun A i s Q E st h => by
    obtain ⟨_, _, e⟩ := st
    exact PySem.W.kcp_self e h
end
def iItemsT (td : TE) : TI := fun σ H R => td σ H fun x H1 => ∃ d o kvs, x = .ref d ∧ H1 d = some (.frz o (.dT kvs)) ∧ R (Itit d o kvs) H1
section
variable {X : Cx} {e : Expr} {td : TE} {apos cpos : Pos}
theorem pi_itemsT {elts : List Expr} {kk : Nat} {tpos : Pos} (he : PE X e td) (hbase : attributeBase e "items" X.env (eval e X.env) = eval e X.env := by rfl) (hline : (apos.endLine == cpos.line) = true := by rfl) :
    PI X (.Tuple elts kk tpos) (.Call (.Attribute e "items" apos) [] [] cpos) (iItemsT td) := by
  refine ⟨fun pins s σ H R I h => ?_⟩
  refine wpAny_Call_method (T := "dict") (id := "dict.items") hbase rfl hline PySem.F.plainAttrs_dict PySem.F.slot_dict_items PySem.F.type_dict_items (thn (he.run pins s σ H _ I h) fun u s1 ⟨x, H1, I1, rx, d, o, kvs, ex, hd, q⟩ => ?_)
  subst ex
  obtain rfl : u = Value.ref d := rx
  obtain ⟨h2, h1, g2, es, ep, g3, gz, ent⟩ := frzTV I1 hd
  have raw : DT.Raw s1.heap d es ep := ⟨o, h1, g2, g3⟩
  refine ⟨raw.typeIs, (fun b z => by cases z; exact ⟨o, h1, g2.2.1⟩), ?_⟩
  have I2 : Inv X pins σ H1 { s1 with heap := s1.heap.push { cls := .type "dict_items", data := .fields #[.ref d] } } := I1.kept (t' := s1.toks) fun b ob q => Heap.get?_push_of_some _ q
  have fin : wpAny (model X.prog X.w) X.A (pyIter (.ref s1.heap.objs.size)) (PIE X pins σ (.Tuple elts kk tpos) R) X.xe { s1 with heap := s1.heap.push { cls := .type "dict_items", data := .fields #[.ref d] } } := by
    refine DT.iterI (d := d) (es := es) (ep := ep) ⟨_, Heap.get?_push_size _ rfl, rfl, rfl⟩ (raw.push _) (pi_one (tk := s1.toks) I2 _ (turn_itemsT _ g3) ⟨.none, .none, ?_⟩ q)
    rw [← gz]
    exact Heap.get?_push_size _ rfl
  show wpAny _ _ (callWith cpos (.builtin "dict.items") [.ref d] [] []) _ X.xe s1
  exact method_meetsIn PySem.F.slot_dict_items PySem.F.entry_dict_items rfl (PySem.evalArgs_none ⟨rfl, raw.typeIs, PySem.F.args_dict_items_1 _, _, DT.meetsItems (es := es) (ep := ep) h2, ⟨raw, fin⟩⟩)
end
theorem walk_itemsT {d : Addr} {o : Obj} {kvs : List (List L2.Key × V)} : Walk (Itit d o kvs) kvs.length (fun H => H d = some (.frz o (.dT kvs)))
    (fun i H x H' => ∃ (T : Addr) (k : List L2.Key) (v : V) (q : Addr), kvs[i]? = some (k, v) ∧ H q = some (.tup (k.map kV)) ∧ x = .ref T ∧ H T = none ∧ H' = upd H T (.tup [.ref q, v])) :=
  ⟨fun _ _ hi q => ⟨q, hi⟩, fun _ q => ⟨q, Nat.le_refl _⟩, fun _ _ _ _ _ _ y => y⟩
end KS
namespace KS
open PySem PySem.Spec PyProof.Rows L2
/-! ### settled tables, counted -/
def fitB (r c : Nat) (cnt : List Nat) (i : Nat) : Bool := decide (cnt.getD i 0 < c) && (decide (i = 0) || decide (cnt.getD i 0 < cnt.getD (i - 1) 0)) && decide (cnt.sum + 1 ≤ r * c)
def grow (cnt : List Nat) (i : Nat) : List Nat := cnt.take i ++ [cnt.getD i 0 + 1] ++ cnt.drop (i + 1)
def fitsP (r c : Nat) (cnt : List Nat) : List (List Nat) := ((List.range cnt.length).filter (fitB r c cnt)).map (grow cnt)
def fitL (c : Nat) (cnt : List Nat) (i : Nat) : Bool := decide (cnt.getD i 0 < c) && (cnt.take i).all fun x => decide (cnt.getD i 0 < x)
def fitsL (c : Nat) (cnt : List Nat) : List (List Nat) := ((List.range cnt.length).filter (fitL c cnt)).map (grow cnt)
abbrev PD := List (List Nat × Nat)
def getP : PD → List Nat → Nat
  | [], _ => 0
  | p :: r, k => if p.1 = k then p.2 else getP r k
def hasP : PD → List Nat → Bool
  | [], _ => false
  | p :: r, k => if p.1 = k then true else hasP r k
def putP (d : PD) (k : List Nat) (n : Nat) : PD := if hasP d k = true then d.map (fun p => if p.1 = k then (p.1, n) else p) else d ++ [(k, n)]
def addP (n : Nat) (acc : PD) (m : List Nat) : PD := putP acc m (getP acc m + n)
def stepP (fits : List Nat → List (List Nat)) (d : PD) : PD := d.foldl (fun acc p => (fits p.1).foldl (addP p.2) acc) []
def runP (fits : List Nat → List (List Nat)) (r : Nat) : Nat → PD
  | 0 => [(List.replicate r 0, 1)]
  | v + 1 => stepP fits (runP fits r v)
def cntP (r c : Nat) : Nat := ((runP (fitsP r c) r (r * c)).map (·.2)).sum
def waysP (r c : Nat) : Nat := getP (runP (fitsL c) r (r * c)) (List.replicate r c)
/-- the law's own: all settled tables, place by place -/
def besd (c : Nat) (part : List Nat) (k : Nat) : Nat := max (if k % c > 0 then part.getD (k - 1) 0 else 0) (if k ≥ c then part.getD (k - c) 0 else 0)
def nextT (r c k : Nat) (part : List Nat) : List (List Nat) := (((List.range (r * c + 1)).drop (besd c part k + 1)).filter fun x => !part.contains x).map fun x => part ++ [x]
def settT (r c : Nat) : Nat → List (List Nat)
  | 0 => [[]]
  | k + 1 => ((settT r c k).map (nextT r c k)).flatten
def shapes (n : Nat) : List (Nat × Nat) := ((List.range 25).map fun r => (List.range 25).map fun c => (r, c)).flatten.filter fun z => decide (1 ≤ z.1) && decide (1 ≤ z.2) && decide (z.1 * z.2 ≤ n)
def chkD (fits : List Nat → List (List Nat)) : Nat → PD → Bool
  | 0, d => decide (d.length ≤ 1000)
  | f + 1, d => decide (d.length ≤ 1000) && chkD fits f (stepP fits d)
end KS
namespace KS
open PySem PySem.Spec PyProof.Rows L2
def chk2 (r c : Nat) : Nat → PD → PD → Bool
  | 0, d, e => decide (d.length ≤ 1000) && decide (e.length ≤ 1000) && decide ((d.map (·.2)).sum = getP e (List.replicate r c)) && hasP e (List.replicate r c)
  | f + 1, d, e => decide (d.length ≤ 1000) && decide (e.length ≤ 1000) && chk2 r c f (stepP (fitsP r c) d) (stepP (fitsL c) e)
theorem chk2_ok {r c : Nat} : ∀ (f v : Nat), chk2 r c f (runP (fitsP r c) r v) (runP (fitsL c) r v) = true →
    (∀ w, v ≤ w → w ≤ v + f → (runP (fitsP r c) r w).length ≤ 1000 ∧ (runP (fitsL c) r w).length ≤ 1000) ∧ ((runP (fitsP r c) r (v + f)).map (·.2)).sum = getP (runP (fitsL c) r (v + f)) (List.replicate r c) ∧ hasP (runP (fitsL c) r (v + f)) (List.replicate r c) = true
  | 0, v, h => by
    rw [chk2] at h
    simp only [Bool.and_eq_true, decide_eq_true_eq] at h
    refine ⟨fun w h1 h2 => ?_, h.1.2, h.2⟩
    have : w = v := by omega
    rw [this]
    exact h.1.1
  | f + 1, v, h => by
    rw [chk2] at h
    simp only [Bool.and_eq_true, decide_eq_true_eq] at h
    obtain ⟨i1, i2⟩ := chk2_ok f (v + 1) h.2
    have e : v + (f + 1) = v + 1 + f := by omega
    rw [e]
    refine ⟨fun w h1 h2 => ?_, i2⟩
    by_cases q : w = v
    · rw [q]
      exact h.1
    · exact i1 w (by omega) (by omega)
theorem all_split {α : Type} {p : α → Bool} {l : List α} (k : Nat) (h1 : (l.take k).all p = true) (h2 : (l.drop k).all p = true) : l.all p = true := by
  rw [← List.take_append_drop k l, List.all_append, h1, h2]
  rfl
theorem all24_0 : (((shapes 24).drop 0).take 3).all (fun z => chk2 z.1 z.2 (z.1 * z.2) [(List.replicate z.1 0, 1)] [(List.replicate z.1 0, 1)]) = true := by decide +kernel
theorem all24_1 : (((shapes 24).drop 3).take 3).all (fun z => chk2 z.1 z.2 (z.1 * z.2) [(List.replicate z.1 0, 1)] [(List.replicate z.1 0, 1)]) = true := by decide +kernel
theorem all24_2 : (((shapes 24).drop 6).take 3).all (fun z => chk2 z.1 z.2 (z.1 * z.2) [(List.replicate z.1 0, 1)] [(List.replicate z.1 0, 1)]) = true := by decide +kernel
theorem all24_3 : (((shapes 24).drop 9).take 3).all (fun z => chk2 z.1 z.2 (z.1 * z.2) [(List.replicate z.1 0, 1)] [(List.replicate z.1 0, 1)]) = true := by decide +kernel
theorem all24_4 : (((shapes 24).drop 12).take 3).all (fun z => chk2 z.1 z.2 (z.1 * z.2) [(List.replicate z.1 0, 1)] [(List.replicate z.1 0, 1)]) = true := by decide +kernel
theorem all24_5 : (((shapes 24).drop 15).take 3).all (fun z => chk2 z.1 z.2 (z.1 * z.2) [(List.replicate z.1 0, 1)] [(List.replicate z.1 0, 1)]) = true := by decide +kernel
theorem all24_6 : (((shapes 24).drop 18).take 3).all (fun z => chk2 z.1 z.2 (z.1 * z.2) [(List.replicate z.1 0, 1)] [(List.replicate z.1 0, 1)]) = true := by decide +kernel
theorem all24_7 : (((shapes 24).drop 21).take 3).all (fun z => chk2 z.1 z.2 (z.1 * z.2) [(List.replicate z.1 0, 1)] [(List.replicate z.1 0, 1)]) = true := by decide +kernel
theorem all24_8 : (((shapes 24).drop 24).take 3).all (fun z => chk2 z.1 z.2 (z.1 * z.2) [(List.replicate z.1 0, 1)] [(List.replicate z.1 0, 1)]) = true := by decide +kernel
theorem all24_9 : (((shapes 24).drop 27).take 3).all (fun z => chk2 z.1 z.2 (z.1 * z.2) [(List.replicate z.1 0, 1)] [(List.replicate z.1 0, 1)]) = true := by decide +kernel
theorem all24_10 : (((shapes 24).drop 30).take 3).all (fun z => chk2 z.1 z.2 (z.1 * z.2) [(List.replicate z.1 0, 1)] [(List.replicate z.1 0, 1)]) = true := by decide +kernel
theorem all24_11 : (((shapes 24).drop 33).take 3).all (fun z => chk2 z.1 z.2 (z.1 * z.2) [(List.replicate z.1 0, 1)] [(List.replicate z.1 0, 1)]) = true := by decide +kernel
theorem all24_12 : (((shapes 24).drop 36).take 3).all (fun z => chk2 z.1 z.2 (z.1 * z.2) [(List.replicate z.1 0, 1)] [(List.replicate z.1 0, 1)]) = true := by decide +kernel
theorem all24_13 : (((shapes 24).drop 39).take 3).all (fun z => chk2 z.1 z.2 (z.1 * z.2) [(List.replicate z.1 0, 1)] [(List.replicate z.1 0, 1)]) = true := by decide +kernel
theorem all24_14 : (((shapes 24).drop 42).take 3).all (fun z => chk2 z.1 z.2 (z.1 * z.2) [(List.replicate z.1 0, 1)] [(List.replicate z.1 0, 1)]) = true := by decide +kernel
theorem all24_15 : (((shapes 24).drop 45).take 3).all (fun z => chk2 z.1 z.2 (z.1 * z.2) [(List.replicate z.1 0, 1)] [(List.replicate z.1 0, 1)]) = true := by decide +kernel
theorem all24_16 : (((shapes 24).drop 48).take 3).all (fun z => chk2 z.1 z.2 (z.1 * z.2) [(List.replicate z.1 0, 1)] [(List.replicate z.1 0, 1)]) = true := by decide +kernel
theorem all24_17 : (((shapes 24).drop 51).take 3).all (fun z => chk2 z.1 z.2 (z.1 * z.2) [(List.replicate z.1 0, 1)] [(List.replicate z.1 0, 1)]) = true := by decide +kernel
theorem all24_18 : (((shapes 24).drop 54).take 3).all (fun z => chk2 z.1 z.2 (z.1 * z.2) [(List.replicate z.1 0, 1)] [(List.replicate z.1 0, 1)]) = true := by decide +kernel
theorem all24_19 : (((shapes 24).drop 57).take 3).all (fun z => chk2 z.1 z.2 (z.1 * z.2) [(List.replicate z.1 0, 1)] [(List.replicate z.1 0, 1)]) = true := by decide +kernel
theorem all24_20 : (((shapes 24).drop 60).take 3).all (fun z => chk2 z.1 z.2 (z.1 * z.2) [(List.replicate z.1 0, 1)] [(List.replicate z.1 0, 1)]) = true := by decide +kernel
theorem all24_21 : (((shapes 24).drop 63).take 3).all (fun z => chk2 z.1 z.2 (z.1 * z.2) [(List.replicate z.1 0, 1)] [(List.replicate z.1 0, 1)]) = true := by decide +kernel
theorem all24_22 : (((shapes 24).drop 66).take 3).all (fun z => chk2 z.1 z.2 (z.1 * z.2) [(List.replicate z.1 0, 1)] [(List.replicate z.1 0, 1)]) = true := by decide +kernel
theorem all24_23 : (((shapes 24).drop 69).take 3).all (fun z => chk2 z.1 z.2 (z.1 * z.2) [(List.replicate z.1 0, 1)] [(List.replicate z.1 0, 1)]) = true := by decide +kernel
theorem all24_24 : (((shapes 24).drop 72).take 3).all (fun z => chk2 z.1 z.2 (z.1 * z.2) [(List.replicate z.1 0, 1)] [(List.replicate z.1 0, 1)]) = true := by decide +kernel
theorem all24_25 : (((shapes 24).drop 75).take 3).all (fun z => chk2 z.1 z.2 (z.1 * z.2) [(List.replicate z.1 0, 1)] [(List.replicate z.1 0, 1)]) = true := by decide +kernel
theorem all24_26 : (((shapes 24).drop 78).take 3).all (fun z => chk2 z.1 z.2 (z.1 * z.2) [(List.replicate z.1 0, 1)] [(List.replicate z.1 0, 1)]) = true := by decide +kernel
theorem all24_27 : (((shapes 24).drop 81).take 3).all (fun z => chk2 z.1 z.2 (z.1 * z.2) [(List.replicate z.1 0, 1)] [(List.replicate z.1 0, 1)]) = true := by decide +kernel
theorem all24_end : ((shapes 24).drop 84).all (fun z => chk2 z.1 z.2 (z.1 * z.2) [(List.replicate z.1 0, 1)] [(List.replicate z.1 0, 1)]) = true := by decide +kernel
theorem all24s_27 : ((shapes 24).drop 81).all (fun z => chk2 z.1 z.2 (z.1 * z.2) [(List.replicate z.1 0, 1)] [(List.replicate z.1 0, 1)]) = true := all_split 3 all24_27 (by rw [List.drop_drop]; exact all24_end)
theorem all24s_26 : ((shapes 24).drop 78).all (fun z => chk2 z.1 z.2 (z.1 * z.2) [(List.replicate z.1 0, 1)] [(List.replicate z.1 0, 1)]) = true := all_split 3 all24_26 (by rw [List.drop_drop]; exact all24s_27)
theorem all24s_25 : ((shapes 24).drop 75).all (fun z => chk2 z.1 z.2 (z.1 * z.2) [(List.replicate z.1 0, 1)] [(List.replicate z.1 0, 1)]) = true := all_split 3 all24_25 (by rw [List.drop_drop]; exact all24s_26)
theorem all24s_24 : ((shapes 24).drop 72).all (fun z => chk2 z.1 z.2 (z.1 * z.2) [(List.replicate z.1 0, 1)] [(List.replicate z.1 0, 1)]) = true := all_split 3 all24_24 (by rw [List.drop_drop]; exact all24s_25)
theorem all24s_23 : ((shapes 24).drop 69).all (fun z => chk2 z.1 z.2 (z.1 * z.2) [(List.replicate z.1 0, 1)] [(List.replicate z.1 0, 1)]) = true := all_split 3 all24_23 (by rw [List.drop_drop]; exact all24s_24)
theorem all24s_22 : ((shapes 24).drop 66).all (fun z => chk2 z.1 z.2 (z.1 * z.2) [(List.replicate z.1 0, 1)] [(List.replicate z.1 0, 1)]) = true := all_split 3 all24_22 (by rw [List.drop_drop]; exact all24s_23)
theorem all24s_21 : ((shapes 24).drop 63).all (fun z => chk2 z.1 z.2 (z.1 * z.2) [(List.replicate z.1 0, 1)] [(List.replicate z.1 0, 1)]) = true := all_split 3 all24_21 (by rw [List.drop_drop]; exact all24s_22)
theorem all24s_20 : ((shapes 24).drop 60).all (fun z => chk2 z.1 z.2 (z.1 * z.2) [(List.replicate z.1 0, 1)] [(List.replicate z.1 0, 1)]) = true := all_split 3 all24_20 (by rw [List.drop_drop]; exact all24s_21)
theorem all24s_19 : ((shapes 24).drop 57).all (fun z => chk2 z.1 z.2 (z.1 * z.2) [(List.replicate z.1 0, 1)] [(List.replicate z.1 0, 1)]) = true := all_split 3 all24_19 (by rw [List.drop_drop]; exact all24s_20)
theorem all24s_18 : ((shapes 24).drop 54).all (fun z => chk2 z.1 z.2 (z.1 * z.2) [(List.replicate z.1 0, 1)] [(List.replicate z.1 0, 1)]) = true := all_split 3 all24_18 (by rw [List.drop_drop]; exact all24s_19)
theorem all24s_17 : ((shapes 24).drop 51).all (fun z => chk2 z.1 z.2 (z.1 * z.2) [(List.replicate z.1 0, 1)] [(List.replicate z.1 0, 1)]) = true := all_split 3 all24_17 (by rw [List.drop_drop]; exact all24s_18)
theorem all24s_16 : ((shapes 24).drop 48).all (fun z => chk2 z.1 z.2 (z.1 * z.2) [(List.replicate z.1 0, 1)] [(List.replicate z.1 0, 1)]) = true := all_split 3 all24_16 (by rw [List.drop_drop]; exact all24s_17)
theorem all24s_15 : ((shapes 24).drop 45).all (fun z => chk2 z.1 z.2 (z.1 * z.2) [(List.replicate z.1 0, 1)] [(List.replicate z.1 0, 1)]) = true := all_split 3 all24_15 (by rw [List.drop_drop]; exact all24s_16)
theorem all24s_14 : ((shapes 24).drop 42).all (fun z => chk2 z.1 z.2 (z.1 * z.2) [(List.replicate z.1 0, 1)] [(List.replicate z.1 0, 1)]) = true := all_split 3 all24_14 (by rw [List.drop_drop]; exact all24s_15)
theorem all24s_13 : ((shapes 24).drop 39).all (fun z => chk2 z.1 z.2 (z.1 * z.2) [(List.replicate z.1 0, 1)] [(List.replicate z.1 0, 1)]) = true := all_split 3 all24_13 (by rw [List.drop_drop]; exact all24s_14)
theorem all24s_12 : ((shapes 24).drop 36).all (fun z => chk2 z.1 z.2 (z.1 * z.2) [(List.replicate z.1 0, 1)] [(List.replicate z.1 0, 1)]) = true := all_split 3 all24_12 (by rw [List.drop_drop]; exact all24s_13)
theorem all24s_11 : ((shapes 24).drop 33).all (fun z => chk2 z.1 z.2 (z.1 * z.2) [(List.replicate z.1 0, 1)] [(List.replicate z.1 0, 1)]) = true := all_split 3 all24_11 (by rw [List.drop_drop]; exact all24s_12)
theorem all24s_10 : ((shapes 24).drop 30).all (fun z => chk2 z.1 z.2 (z.1 * z.2) [(List.replicate z.1 0, 1)] [(List.replicate z.1 0, 1)]) = true := all_split 3 all24_10 (by rw [List.drop_drop]; exact all24s_11)
theorem all24s_9 : ((shapes 24).drop 27).all (fun z => chk2 z.1 z.2 (z.1 * z.2) [(List.replicate z.1 0, 1)] [(List.replicate z.1 0, 1)]) = true := all_split 3 all24_9 (by rw [List.drop_drop]; exact all24s_10)
theorem all24s_8 : ((shapes 24).drop 24).all (fun z => chk2 z.1 z.2 (z.1 * z.2) [(List.replicate z.1 0, 1)] [(List.replicate z.1 0, 1)]) = true := all_split 3 all24_8 (by rw [List.drop_drop]; exact all24s_9)
theorem all24s_7 : ((shapes 24).drop 21).all (fun z => chk2 z.1 z.2 (z.1 * z.2) [(List.replicate z.1 0, 1)] [(List.replicate z.1 0, 1)]) = true := all_split 3 all24_7 (by rw [List.drop_drop]; exact all24s_8)
theorem all24s_6 : ((shapes 24).drop 18).all (fun z => chk2 z.1 z.2 (z.1 * z.2) [(List.replicate z.1 0, 1)] [(List.replicate z.1 0, 1)]) = true := all_split 3 all24_6 (by rw [List.drop_drop]; exact all24s_7)
theorem all24s_5 : ((shapes 24).drop 15).all (fun z => chk2 z.1 z.2 (z.1 * z.2) [(List.replicate z.1 0, 1)] [(List.replicate z.1 0, 1)]) = true := all_split 3 all24_5 (by rw [List.drop_drop]; exact all24s_6)
theorem all24s_4 : ((shapes 24).drop 12).all (fun z => chk2 z.1 z.2 (z.1 * z.2) [(List.replicate z.1 0, 1)] [(List.replicate z.1 0, 1)]) = true := all_split 3 all24_4 (by rw [List.drop_drop]; exact all24s_5)
theorem all24s_3 : ((shapes 24).drop 9).all (fun z => chk2 z.1 z.2 (z.1 * z.2) [(List.replicate z.1 0, 1)] [(List.replicate z.1 0, 1)]) = true := all_split 3 all24_3 (by rw [List.drop_drop]; exact all24s_4)
theorem all24s_2 : ((shapes 24).drop 6).all (fun z => chk2 z.1 z.2 (z.1 * z.2) [(List.replicate z.1 0, 1)] [(List.replicate z.1 0, 1)]) = true := all_split 3 all24_2 (by rw [List.drop_drop]; exact all24s_3)
theorem all24s_1 : ((shapes 24).drop 3).all (fun z => chk2 z.1 z.2 (z.1 * z.2) [(List.replicate z.1 0, 1)] [(List.replicate z.1 0, 1)]) = true := all_split 3 all24_1 (by rw [List.drop_drop]; exact all24s_2)
theorem all24s_0 : ((shapes 24).drop 0).all (fun z => chk2 z.1 z.2 (z.1 * z.2) [(List.replicate z.1 0, 1)] [(List.replicate z.1 0, 1)]) = true := all_split 3 all24_0 (by rw [List.drop_drop]; exact all24s_1)
theorem all24 : ((shapes 24).all fun z => chk2 z.1 z.2 (z.1 * z.2) [(List.replicate z.1 0, 1)] [(List.replicate z.1 0, 1)]) = true := all24s_0
theorem mem_shapes {n r c : Nat} (h1 : 1 ≤ r) (h2 : 1 ≤ c) (h3 : r * c ≤ n) (hn : n ≤ 24) : (r, c) ∈ shapes n := by
  have hr : r ≤ 24 := by
    have := Nat.le_mul_of_pos_right r h2
    omega
  have hc : c ≤ 24 := by
    have := Nat.le_mul_of_pos_left c h1
    omega
  unfold shapes
  refine List.mem_filter.mpr ⟨List.mem_flatten.mpr ⟨(List.range 25).map fun c => (r, c), List.mem_map.mpr ⟨r, List.mem_range.mpr (by omega), rfl⟩, List.mem_map.mpr ⟨c, List.mem_range.mpr (by omega), rfl⟩⟩, ?_⟩
  simp only [Bool.and_eq_true, decide_eq_true_eq]
  exact ⟨⟨h1, h2⟩, h3⟩
theorem run_ok {r c : Nat} (s : Sides r c) : (∀ w, w ≤ r * c → (runP (fitsP r c) r w).length ≤ 1000 ∧ (runP (fitsL c) r w).length ≤ 1000) ∧ cntP r c = waysP r c ∧ hasP (runP (fitsL c) r (r * c)) (List.replicate r c) = true := by
  have h := List.all_eq_true.mp all24 _ (mem_shapes s.r1 s.c1 s.rc (Nat.le_refl _))
  obtain ⟨i1, i2, i3⟩ := chk2_ok (r := r) (c := c) (r * c) 0 h
  rw [Nat.zero_add] at i1 i2 i3
  exact ⟨fun w hw => i1 w (Nat.zero_le _) hw, i2, i3⟩
theorem cnt23 : cntP 2 3 = 5 := by decide +kernel
theorem cnt46 : cntP 4 6 = 140229804 := by decide +kernel
theorem cnt124 : cntP 1 24 = 1 := by decide +kernel
/-! ### the law's list of all settled tables -/
def chkS (r c n : Nat) : Nat → Nat → List (List Nat) → Bool
  | 0, _, l => decide (l.length = n)
  | f + 1, k, l => decide (l.length ≤ 5000) && chkS r c n f (k + 1) ((l.map (nextT r c k)).flatten)
theorem chkS_ok {r c n : Nat} : ∀ (f k : Nat), chkS r c n f k (settT r c k) = true → (∀ w, k ≤ w → w < k + f → (settT r c w).length ≤ 5000) ∧ (settT r c (k + f)).length = n
  | 0, k, h => by
    rw [chkS, decide_eq_true_eq] at h
    exact ⟨fun w h1 h2 => by omega, h⟩
  | f + 1, k, h => by
    rw [chkS, Bool.and_eq_true, decide_eq_true_eq] at h
    obtain ⟨i1, i2⟩ := chkS_ok f (k + 1) h.2
    have e : k + (f + 1) = k + 1 + f := by omega
    rw [e]
    refine ⟨fun w h1 h2 => ?_, i2⟩
    by_cases q : w = k
    · rw [q]
      exact h.1
    · exact i1 w (by omega) (by omega)
theorem all10 : ((shapes 10).all fun z => chkS z.1 z.2 (cntP z.1 z.2) (z.1 * z.2) 0 [[]]) = true := by decide +kernel
theorem sett_ok {r c : Nat} (s : Sides r c) (h10 : r * c ≤ 10) : (∀ w, w < r * c → (settT r c w).length ≤ 5000) ∧ (settT r c (r * c)).length = cntP r c := by
  have h := List.all_eq_true.mp all10 _ (mem_shapes s.r1 s.c1 h10 (by decide))
  obtain ⟨i1, i2⟩ := chkS_ok (r := r) (c := c) (r * c) 0 h
  rw [Nat.zero_add] at i1 i2
  exact ⟨fun w hw => i1 w (Nat.zero_le _) hw, i2⟩
end KS
namespace KS
open PySem PySem.Spec PyProof.Rows L2
theorem ip_mul {X : Cx} : PIp X .Mult (rI CMul fun i j => .int (i * j)) := fun pins s σ H x y u v Q I rx ry h => iop_mul pins s σ H x y u v Q I rx ry h
theorem cmul_of {i j : Int} (h : -(2 ^ 64) < j ∧ j < 2 ^ 64) : CMul i j := .inr h
def spFact : Sp := fun xs H Q _ => ∃ n : Nat, xs = [.int (n : Nat)] ∧ n ≤ 1000 ∧ Q (.int (facN n : Nat)) H
abbrev sFact : Stmt := topS 18
abbrev nFact : List Str := ["number", "result", "factor"]
theorem scFact : FnScope nFact ["number"] (defScope sFact) := ⟨rfl, rfl, rfl, by decide +kernel, rfl, by decide +kernel, by decide +kernel⟩
abbrev nLFact : List Str := ["_law_size", "_law_found", "_law_one"]
abbrev sPairg : Stmt := topS 19
abbrev nPairg : List Str := ["line", "following", "result", "taken", "value", "each"]
theorem scPairg : FnScope nPairg ["line", "following"] (defScope sPairg) := ⟨rfl, rfl, rfl, by decide +kernel, rfl, by decide +kernel, by decide +kernel⟩
section
variable {P : Program} {w : World} {K : PySem.W.Frag} {mg : Str → Option Value} {base : Heap}
theorem ok_fact {f : Addr} {fd : FuncData} (F : Fun K "factorial" "factorial" sFact f fd) (mr : mg "range" = none) : FnOk P w K mg base CX0 1 f fd ["number"] spFact := by
  refine F.ok scFact (fun vs H Q E h => ?_) (fun cdv A outer s H vs Q E hr h => ?_)
  · obtain ⟨n, rfl, _⟩ := h
    rfl
  · obtain ⟨n, rfl, hn, q⟩ := h
    have nd := scFact.nd
    refine ⟨_, pss_cons (ps_set (i := 1) nd rfl (.inl rfl) pe_int)
      (pss_cons (ps_for PassesOwn.never rfl (pi_range2 (by rfl) mr (pa_cons pe_int (pa_cons (pe_op op_add (pv 0) pe_int) pa_nil))) (pg_name (i := 2) nd rfl (.inl rfl))
        (pss_one (ps_aug (i := 1) nd rfl (.inl rfl) (pv 2) ip_mul)))
      (pss_one (ps_ret (pv 1)))), ?_⟩
    refine ⟨_, rfl, _, _, rfl, rfl, 2, (n : Int) + 1, rfl, ⟨by omega, by omega, by omega, by omega⟩, for_range (lo := 2) (n := ((n : Int) + 1 - 2).toNat) (fun i σ G => ∃ y2 : Option V, σ = [some (.int (n : Nat)), some (.int (facN (i + 1) : Nat)), y2] ∧ G = H) ?_ ?_ ?_⟩
    · exact ⟨none, rfl, rfl⟩
    · rintro i σ G hi ⟨y2, rfl, rfl⟩
      have e : ((facN (i + 1) : Nat) : Int) * (2 + (i : Int)) = ((facN (i + 1 + 1) : Nat) : Int) := by
        show _ = ((facN (i + 1) * (i + 1 + 1) : Nat) : Int)
        rw [Int.natCast_mul]
        congr 1
        omega
      refine ⟨_, rfl, _, rfl, _, _, rfl, rfl, .inr ⟨by omega, by omega⟩, ?_⟩
      refine ⟨some (.int (2 + (i : Int))), ?_, rfl⟩
      rw [← e]
      rfl
    · rintro σ G ⟨y2, rfl, rfl⟩
      refine ⟨_, rfl, ?_⟩
      have e : facN (((n : Int) + 1 - 2).toNat + 1) = facN n := by
        rcases Nat.lt_or_ge n 1 with h | h
        · have : n = 0 := by omega
          subst this
          rfl
        · congr 1
          omega
      rw [e]
      exact q
end
end KS
namespace KS
open PySem PySem.Spec PyProof.Rows L2
theorem op_fdivW {X : Cx} : OpR X (binaryOp .FloorDiv) (rI (fun _ j => 0 < j ∧ j < 2 ^ 200) fun i j => .int (i / j)) := opI fun i j _ _ _ _ _ hc q => by
  obtain ⟨h1, h2⟩ := hc
  have hl : j.natAbs.log2 < 9000 := by
    have : j.natAbs.log2 < 200 := (Nat.log2_lt (by omega)).mpr (by omega)
    omega
  refine floordiv_int (by omega) ?_ (.inl (PyProof.noPylong_of_log2 hl))
  rw [Int.fdiv_eq_ediv_of_nonneg i (by omega)]
  exact q
def spLow (K : PySem.W.Frag) : Sp := fun xs H Q _ => ∃ a b : Nat, xs = [.int (a : Nat), .int (b : Nat)] ∧ 1 ≤ b ∧ b < 2 ^ 200 ∧ ∀ H' t, Same H H' → H' t = some (.tup [.int ((a / Nat.gcd a b : Nat) : Int), .int ((b / Nat.gcd a b : Nat) : Int)]) → Q (.ref t) H'
abbrev nLLow : List Str := ["_law_top", "_law_bottom", "_law_one", "_law_other"]
section
variable {P : Program} {w : World} {K : PySem.W.Frag} {mg : Str → Option Value} {base : Heap}
end
end KS
namespace KS
open PySem PySem.Spec PyProof.Rows L2
def rowsI (r c : Nat) (vs : List Int) : List (List Int) := (List.range r).map fun i => (vs.take (i * c + c)).drop (i * c)
def colsI (r c : Nat) (vs : List Int) : List (List Int) := (List.range c).map fun j => cutStep vs j c
def ascB (l : List Int) : Bool := decide (sortI l = l)
def pairTo (a b : List Int) : Nat → Int
  | 0 => 1
  | i + 1 => pairTo a b i * (((b.filter fun x => decide (a.reverse.getD i 0 < x)).length : Int) - i)
def pairI (a b : List Int) : Int := pairTo a b a.length
def shufTo (ls : List (List Int)) : Nat → Int
  | 0 => ((facN (ls.getD 0 []).length : Nat) : Int)
  | i + 1 => shufTo ls i * pairI (ls.getD i []) (ls.getD (i + 1) [])
def shufI (ls : List (List Int)) : Int := shufTo ls (ls.length - 1)
def Wd4 (w : List Bool) : Prop := w = [false] ∨ w = [true] ∨ w = [false, true] ∨ w = [true, false]
def facs (ls : List (List Int)) : Nat → Int
  | 0 => 1
  | i + 1 => facs ls i * ((facN (ls.getD i []).length : Nat) : Int)
def fromTo (st : Int) (ls : List (List Int)) : Nat → Int
  | 0 => st
  | i + 1 => fromTo st ls i * ((facN (ls.getD i []).length : Nat) : Int)
def fstI (r c : Nat) (vs : List Int) (w : List Bool) : List (List Int) := if w.getD 0 false = true then colsI r c vs else rowsI r c vs
def sndI (r c : Nat) (vs : List Int) (w : List Bool) : List (List Int) := if w.getD 0 false = true then rowsI r c vs else colsI r c vs
def origI (r c : Nat) (vs : List Int) (w : List Bool) : Int :=
  if !(fstI r c vs w).all ascB || (decide (w.length = 2) && !(sndI r c vs w).all ascB) then 0
  else fromTo (if w.length = 2 then shufI (sndI r c vs w) else 1) (fstI r c vs w) (fstI r c vs w).length
/-! ### rows and columns, place by place -/
theorem stepN_sides {r c j : Nat} (hj : j < c) (hr : 1 ≤ r) : stepN (r * c) j c = r := by
  unfold stepN
  have e : (r * c - 1 - j) / c = r - 1 := by
    obtain ⟨q, rfl⟩ : ∃ q, r = q + 1 := ⟨r - 1, by omega⟩
    have e2 : (q + 1) * c - 1 - j = (c - 1 - j) + c * q := by
      rw [Nat.add_mul, Nat.one_mul, Nat.mul_comm q c]
      omega
    rw [e2, Nat.add_mul_div_left _ _ (by omega), Nat.div_eq_of_lt (by omega)]
    omega
  omega
theorem filterMap_all {α β : Type} {f : α → Option β} {g : α → β} : ∀ {l : List α}, (∀ x ∈ l, f x = some (g x)) → l.filterMap f = l.map g
  | [], _ => rfl
  | x :: l, h => by
    rw [List.filterMap_cons_some (h x (List.mem_cons_self ..)), List.map_cons, filterMap_all fun y hy => h y (List.mem_cons_of_mem _ hy)]
theorem col_eq {r c j : Nat} {vs : List Int} (hj : j < c) (hr : 1 ≤ r) (hl : vs.length = r * c) : cutStep vs j c = (List.range r).map fun i => vs.getD (j + i * c) 0 := by
  unfold cutStep
  rw [hl, stepN_sides hj hr]
  refine filterMap_all fun i hi => ?_
  have h1 := List.mem_range.mp hi
  have h2 : i * c + c ≤ r * c := by
    have := Nat.mul_le_mul_right c h1
    rw [Nat.succ_mul] at this
    exact this
  rw [List.getD_eq_getElem?_getD, List.getElem?_eq_getElem (by omega)]
  rfl
theorem row_eq {r c i : Nat} {vs : List Int} (hi : i < r) (hl : vs.length = r * c) : (vs.take (i * c + c)).drop (i * c) = (List.range c).map fun j => vs.getD (j + i * c) 0 := by
  have h2 : i * c + c ≤ r * c := by
    have := Nat.mul_le_mul_right c hi
    rw [Nat.succ_mul] at this
    exact this
  apply List.ext_getElem
  · rw [List.length_drop, List.length_take, List.length_map, List.length_range]
    omega
  · intro j h3 h4
    rw [List.length_map, List.length_range] at h4
    rw [List.getElem_drop, List.getElem_take, List.getElem_map, List.getElem_range, List.getD_eq_getElem?_getD, List.getElem?_eq_getElem (by omega)]
    show vs[i * c + j] = vs[j + i * c]
    congr 1
    omega
theorem asc_le {l : List Int} (h : sortI l = l) {i j : Nat} (hij : i < j) (hj : j < l.length) : l.getD i 0 ≤ l.getD j 0 := by
  have p := sortI_asc l
  rw [h] at p
  have := List.pairwise_iff_getElem.mp p i j (by omega) hj hij
  rw [List.getD_eq_getElem?_getD, List.getElem?_eq_getElem (show i < l.length by omega), List.getD_eq_getElem?_getD, List.getElem?_eq_getElem hj]
  exact this
end KS
namespace KS
open PySem PySem.Spec PyProof.Rows L2
theorem pe_stepTK {X : Cx} {K : PySem.W.Frag} {e ea ec : Expr} {te ta tc : TE} {p3 pos : Pos} (hK : X.K = K) (he : PE X e te) (ha : PE X ea ta) (hc : PE X ec tc) :
    PE X (.Subscript e (.Slice (some ea) none (some ec) p3) pos) (tStepT K te ta tc) := by
  subst hK
  exact pe_stepT he ha hc
theorem cut_whole {α : Type} : ∀ xs : List α, xs ≠ [] → cutStep xs 0 1 = xs := by
  intro xs hne
  have hp : 0 < xs.length := List.length_pos_iff.mpr hne
  unfold cutStep
  have e1 : stepN xs.length 0 1 = xs.length := by
    unfold stepN
    rw [Nat.div_one]
    omega
  rw [e1]
  have e2 : (fun k => xs[0 + k * 1]?) = fun k => xs[k]? := by
    funext k
    rw [Nat.zero_add, Nat.mul_one]
  rw [e2]
  have gen : ∀ n, n ≤ xs.length → (List.range n).filterMap (fun k => xs[k]?) = xs.take n := by
    intro n
    induction n with
    | zero => intro _; rfl
    | succ n ih =>
      intro h
      rw [List.range_succ, List.filterMap_append, ih (by omega), List.take_add_one]
      congr 1
  rw [gen _ (Nat.le_refl _), List.take_length]
theorem rg_all : ((List.range 25).all fun r => (List.range 25).all fun c => decide (c = 0) || (Builtin.Range.small 0 ((r * c : Nat) : Int) (c : Int) && decide (Builtin.Range.rangeSize 0 ((r * c : Nat) : Int) (c : Int) = ((r : Nat) : Int)))) = true := by decide +kernel
theorem rg_step {r c : Nat} (s : Sides r c) : RgC 0 ((r * c : Nat) : Int) (c : Int) r := by
  have hl := s.le
  have hc := s.c1
  have h1 := List.all_eq_true.mp rg_all r (List.mem_range.mpr (by omega))
  have h2 := List.all_eq_true.mp h1 c (List.mem_range.mpr (by omega))
  rw [Bool.or_eq_true, decide_eq_true_eq, Bool.and_eq_true, decide_eq_true_eq] at h2
  rcases h2 with z | ⟨z1, z2⟩
  · omega
  · exact ⟨by omega, by omega, z1, z2⟩
theorem slMid_okII {K : PySem.W.Frag} {H : Hp} {Q : VK} {a : Addr} {xs : List V} {i j : Nat} {l m : Int} (ha : SqT K H a xs) (el : l = ((i : Nat) : Int)) (em : m = ((j : Nat) : Int)) (hj : j ≤ xs.length) (hij : i ≤ j) (k : ∀ H' u, Same H H' → SqT K H' u ((xs.take j).drop i) → Q (.ref u) H') : rSlA K (.ref a) (some l) (some m) H Q := by
  subst el em
  exact slMid_ok2 ha hj hij k
theorem tup_map {α β : Type} (f : α → β) (xs : List α) (a c : Nat) : cutStep (xs.map f) a c = (cutStep xs a c).map f := by
  unfold cutStep
  rw [List.map_filterMap, List.length_map]
  congr 1
  funext k
  rw [List.getElem?_map]
def spRowT (K : PySem.W.Frag) : Sp := fun xs H Q _ => ∃ (r c : Nat) (t : Addr) (vs : List Int), xs = [.int (c : Nat), .ref t] ∧ Sides r c ∧ SqT K H t (vs.map V.int) ∧ vs.length = r * c ∧ ∀ H' L ys, Same H H' → H' L = some (.lst ys) → Paired (TupI K H') ys (rowsI r c vs) → Q (.ref L) H'
def spColT (K : PySem.W.Frag) : Sp := fun xs H Q _ => ∃ (r c : Nat) (t : Addr) (vs : List Int), xs = [.int (c : Nat), .ref t] ∧ Sides r c ∧ SqT K H t (vs.map V.int) ∧ vs.length = r * c ∧ ∀ H' L ys, Same H H' → H' L = some (.lst ys) → Paired (TupI K H') ys (colsI r c vs) → Q (.ref L) H'
abbrev sRowT : Stmt := topS 15
theorem scRowT : FnScope ["columns", "table", "start"] ["columns", "table"] (defScope sRowT) := ⟨rfl, rfl, rfl, by decide +kernel, rfl, by decide +kernel, by decide +kernel⟩
abbrev sColT : Stmt := topS 16
theorem scColT : FnScope ["columns", "table", "start"] ["columns", "table"] (defScope sColT) := ⟨rfl, rfl, rfl, by decide +kernel, rfl, by decide +kernel, by decide +kernel⟩
section
variable {P : Program} {w : World} {K : PySem.W.Frag} {mg : Str → Option Value} {base : Heap}
theorem ok_rowT {f : Addr} {fd : FuncData} (F : Fun K "row_tuples" "row_tuples" sRowT f fd) (mr : mg "range" = none) (ml : mg "len" = none) : FnOk P w K mg base CX0 1 f fd ["columns", "table"] (spRowT K) := by
  refine F.ok scRowT (fun vs H Q E h => ?_) (fun cdv A outer s H vs Q E hr h => ?_)
  · obtain ⟨r, c, t, vs, rfl, _⟩ := h
    rfl
  · obtain ⟨r, c, t, vs, rfl, sd, ht, hl, q⟩ := h
    have nd := scRowT.nd
    refine ⟨_, pss_one (ps_ret (pe_lc (own := [("start", 2)]) (g := gName 2) (tt := tYes) rfl nd (pi_range3 (by rfl) mr (pa_cons pe_int (pa_cons (pe_callB call_len_seq (by rfl) ml PySem.boot_len (pa_cons (pv 1) pa_nil)) (pa_cons (pv 0) pa_nil)))) (blkOk_by (N := ["columns", "table", "start"]) (sc := defScope sRowT) (by decide +kernel))
      (fun _ _ _ _ _ => pg_name (i := 2) nd rfl (Or.inl rfl)) (fun _ _ _ _ _ => pts_nil)
      (fun _ _ _ _ _ => pe_slice (r := rSlA K) sl_tupA (pv 1) (po_some (pv 2)) (po_some (pe_op op_add (pv 2) (pv 0)))))), ?_⟩
    have sl := sd.le
    have s3 := sd.rc
    have hlm : (vs.map V.int).length = r * c := by rw [List.length_map]; exact hl
    refine ⟨_, rfl, t, _, rfl, .inr ht, _, rfl, _, _, _, _, rfl, by rw [hlm]; exact rg_step sd, fun D nD => ?_⟩
    refine lc_it walk_rangeC (fun i G => ∃ ys, G D = some (.lst ys) ∧ Paired (TupI K G) ys ((rowsI r c vs).take i) ∧ (∀ b o, b ≠ D → H b = some o → G b = some o)) ?_ ?_ ?_ ?_
    · exact ⟨[], upd_same, .nil, fun b o n e => by rw [upd_ne n]; exact e⟩
    · intros
      trivial
    · rintro i x G0 G hi ⟨ys, a1, a2, a3⟩ ⟨rfl, rfl⟩
      have sm : Same H G := fun b o e => a3 b o (ne_of_none e nD) e
      have hic : i * c + c ≤ r * c := by
        have := Nat.mul_le_mul_right c hi
        rw [Nat.succ_mul] at this
        exact this
      refine ⟨rfl, _, rfl, _, rfl, _, rfl, _, rfl, _, rfl, _, _, rfl, rfl, _, rfl, ?_⟩
      refine slMid_okII (i := i * c) (j := i * c + c) (same_seqT sm ht) (by rw [Int.zero_add, Int.natCast_mul]) (by rw [Int.zero_add, Int.natCast_add, Int.natCast_mul]) (by rw [hlm]; exact hic) (by omega) (fun G2 u s2 hu => ?_)
      have hD := s2 _ _ a1
      have yl := Paired.length a2
      rw [List.length_take] at yl
      refine ⟨ys, hD, by rw [sizeLine_eq]; omega, ys ++ [.ref u], upd_same, ?_, fun b o n e => by rw [upd_ne n]; exact s2 _ _ (a3 b o n e)⟩
      have gi : (rowsI r c vs)[i]? = some ((vs.take (i * c + c)).drop (i * c)) := by
        unfold rowsI
        rw [List.getElem?_map, List.getElem?_range hi]
        rfl
      rw [List.take_add_one, gi]
      refine paired_append (tupI_kt ((KT.of_same s2).trans (KT.upd hD)) a2) (.cons ⟨u, rfl, KT.upd hD _ _ ?_⟩ .nil)
      rw [List.map_drop, List.map_take]
      exact hu
    · rintro G ⟨ys, a1, a2, a3⟩
      have el : (rowsI r c vs).length = r := by unfold rowsI; rw [List.length_map, List.length_range]
      rw [List.take_of_length_le (by omega)] at a2
      exact q G D ys (fun b o e => a3 b o (ne_of_none e nD) e) a1 a2
theorem ok_colT {f : Addr} {fd : FuncData} (F : Fun K "column_tuples" "column_tuples" sColT f fd) (mr : mg "range" = none) : FnOk P w K mg base CX0 1 f fd ["columns", "table"] (spColT K) := by
  refine F.ok scColT (fun vs H Q E h => ?_) (fun cdv A outer s H vs Q E hr h => ?_)
  · obtain ⟨r, c, t, vs, rfl, _⟩ := h
    rfl
  · obtain ⟨r, c, t, vs, rfl, sd, ht, hl, q⟩ := h
    have nd := scColT.nd
    refine ⟨_, pss_one (ps_ret (pe_lc (own := [("start", 2)]) (g := gName 2) (tt := tYes) rfl nd (pi_range1 (by rfl) mr (pa_cons (pv 0) pa_nil)) (blkOk_by (N := ["columns", "table", "start"]) (sc := defScope sColT) (by decide +kernel))
      (fun _ _ _ _ _ => pg_name (i := 2) nd rfl (Or.inl rfl)) (fun _ _ _ _ _ => pts_nil)
      (fun _ _ _ _ _ => pe_stepTK (K := K) rfl (pv 1) (pv 2) (pv 0)))), ?_⟩
    have sl := sd.le
    have s3 := sd.rc
    have c1 := sd.c1
    have r1 := sd.r1
    have hlm : (vs.map V.int).length = r * c := by rw [List.length_map]; exact hl
    refine ⟨_, rfl, _, rfl, by omega, by omega, fun D nD => ?_⟩
    refine lc_range (lo := 0) (n := ((c : Nat) : Int).toNat) (fun i G => ∃ ys, G D = some (.lst ys) ∧ Paired (TupI K G) ys ((colsI r c vs).take i) ∧ (∀ b o, b ≠ D → H b = some o → G b = some o)) ?_ ?_ ?_
    · exact ⟨[], upd_same, .nil, fun b o n e => by rw [upd_ne n]; exact e⟩
    · rintro i G hi ⟨ys, a1, a2, a3⟩
      rw [Int.toNat_natCast] at hi
      have sm : Same H G := fun b o e => a3 b o (ne_of_none e nD) e
      have hc : c ≤ r * c := Nat.le_mul_of_pos_left c r1
      have yl := Paired.length a2
      rw [List.length_take] at yl
      have gi : (colsI r c vs)[i]? = some (cutStep vs i c) := by
        unfold colsI
        rw [List.getElem?_map, List.getElem?_range hi]
        rfl
      have put : ∀ (G2 : Hp) (u : Addr), Same G G2 → SqT K G2 u ((cutStep vs i c).map V.int) → ∃ xs, G2 D = some (.lst xs) ∧ xs.length < sizeLine ∧ ∃ ys, upd G2 D (.lst (xs ++ [.ref u])) D = some (.lst ys) ∧ Paired (TupI K (upd G2 D (.lst (xs ++ [.ref u])))) ys ((colsI r c vs).take (i + 1)) ∧ (∀ b o, b ≠ D → H b = some o → upd G2 D (.lst (xs ++ [.ref u])) b = some o) := fun G2 u s2 hu => by
        have hD := s2 _ _ a1
        refine ⟨ys, hD, by rw [sizeLine_eq]; omega, ys ++ [.ref u], upd_same, ?_, fun b o n e => by rw [upd_ne n]; exact s2 _ _ (a3 b o n e)⟩
        rw [List.take_add_one, gi]
        exact paired_append (tupI_kt ((KT.of_same s2).trans (KT.upd hD)) a2) (.cons ⟨u, rfl, KT.upd hD _ _ hu⟩ .nil)
      have htG := same_seqT sm ht
      refine ⟨rfl, _, rfl, _, rfl, _, rfl, _, rfl, _, rfl, t, _, i, c, rfl, ?_, rfl, htG, by omega, c1, by omega, fun z => ?_, fun z p np => ?_⟩
      · rw [Int.zero_add]
      · obtain ⟨rfl, rfl⟩ := z
        refine put G t (Same.refl _) ?_
        have e : cutStep vs 0 1 = vs := cut_whole vs (by
          intro z
          rw [z] at hl
          have : 0 < r * 1 := by omega
          rw [← hl] at this
          exact absurd this (Nat.lt_irrefl 0))
        rw [e]
        exact htG
      · exact put _ p (same_new np) (SqT.of (by rw [upd_same, tup_map]))
    · rintro G ⟨ys, a1, a2, a3⟩
      have el : (colsI r c vs).length = c := by unfold colsI; rw [List.length_map, List.length_range]
      rw [List.take_of_length_le (by rw [el, Int.toNat_natCast]; omega)] at a2
      exact q G D ys (fun b o e => a3 b o (ne_of_none e nD) e) a1 a2
end
end KS
namespace KS
open PySem PySem.Spec PyProof.Rows L2
def spAllA (K : PySem.W.Frag) : Sp := fun xs H Q _ => ∃ (L : Addr) (ys : List V) (ls : List (List Int)), xs = [.ref L] ∧ H L = some (.lst ys) ∧ Paired (TupI K H) ys ls ∧ ys.length ≤ 64 ∧ (∀ l ∈ ls, l.length ≤ 64) ∧ ∀ H', Same H H' → Q (.bl (ls.all ascB)) H'
def spPairg (K : PySem.W.Frag) : Sp := fun xs H Q _ => ∃ (t u : Addr) (a b : List Int), xs = [.ref t, .ref u] ∧ SqT K H t (a.map V.int) ∧ SqT K H u (b.map V.int) ∧ a.length ≤ 24 ∧ b.length ≤ 24 ∧ ∀ H', Same H H' → Q (.int (pairI a b)) H'
abbrev sAllA : Stmt := topS 17
theorem scAllA : FnScope ["groups", "line"] ["groups"] (defScope sAllA) := ⟨rfl, rfl, rfl, by decide +kernel, rfl, by decide +kernel, by decide +kernel⟩
section
variable {P : Program} {w : World} {K : PySem.W.Frag} {mg : Str → Option Value} {base : Heap}
theorem ok_allA {f : Addr} {fd : FuncData} (F : Fun K "all_ascend" "all_ascend" sAllA f fd) (ma : mg "all" = none) (mt : mg "tuple" = none) (ms : mg "sorted" = none) : FnOk P w K mg base CX0 1 f fd ["groups"] (spAllA K) := by
  refine F.ok scAllA (fun vs H Q E h => ?_) (fun cdv A outer s H vs Q E hr h => ?_)
  · obtain ⟨L, ys, ls, rfl, _⟩ := h
    rfl
  · obtain ⟨L, ys, ls, rfl, hL, hy, y64, l64, q⟩ := h
    have nd := scAllA.nd
    refine ⟨_, pss_one (ps_ret (pe_callB (cr_all rfl) (by rfl) ma (by decide +kernel) (pa_cons
      (pe_lc (own := [("line", 1)]) (g := gName 1) (tt := tYes) rfl nd (pi_list (pv 0)) (blkOk_by (N := ["groups", "line"]) (sc := defScope sAllA) (by decide +kernel))
        (fun _ _ _ _ _ => pg_name (i := 1) nd rfl (Or.inl rfl)) (fun _ _ _ _ _ => pts_nil)
        (fun _ _ _ _ _ => pe_cmpR (r := rEqD K) (op_eqD hr.units) (pe_callTy (T := "tuple") (r := rTupOf K) cr_tupOf (by rfl) mt (by decide +kernel) (pa_cons (pe_callB (id := "sorted") (r := rSortedTI K) cr_sortedTI (by rfl) ms (by decide +kernel) (pa_cons (pv 1) pa_nil)) pa_nil)) (pv 1) (nomark _))) pa_nil))), ?_⟩
    refine ⟨_, rfl, L, rfl, ⟨_, SqL.of hL⟩, fun D nD => ?_⟩
    have nLD : L ≠ D := ne_of_none hL nD
    refine lc_list (K := K) (a := L) (xs := ys) (fun j G => G D = some (.lst (((ls.take j).map ascB).map V.bl)) ∧ (∀ b o, b ≠ D → H b = some o → G b = some o)) ?_ ?_ ?_ ?_
    · exact ⟨upd_same, fun b o n e => by rw [upd_ne n]; exact e⟩
    · rintro j G _ ⟨_, a2⟩
      exact SqL.of (a2 _ _ nLD hL)
    · rintro j x G hj ⟨a1, a2⟩
      have sm : Same H G := fun b o e => a2 b o (ne_of_none e nD) e
      obtain ⟨l, hlj, t, rfl, ht⟩ := paired_get hy hj
      have htG := same_seqT sm ht
      refine ⟨rfl, _, rfl, t, l, rfl, htG, fun ns p G2 perm asc np eG => ?_⟩
      subst eG
      obtain rfl := sortI_eq perm asc
      have sp := same_new (o := .lst ((sortI l).map V.int)) np
      refine ⟨p, _, rfl, .inl ⟨SqL.of upd_same, fun u nu => ?_⟩⟩
      have su := same_new (o := .tup ((sortI l).map V.int)) nu
      refine ⟨_, rfl, _, _, .tup (SqT.of upd_same) (dp_ints _), .tup (same_seqT (sp.trans su) htG) (dp_ints _), line_shaped _, line_shaped _, ?_⟩
      rw [ints_eqvT]
      have hD := (sp.trans su) _ _ a1
      refine ⟨_, hD, ?_, ?_, fun b o n e => ?_⟩
      · rw [List.length_map, List.length_map, List.length_take, sizeLine_eq]
        have := Paired.length hy
        omega
      · rw [upd_same, List.take_add_one, hlj, List.map_append, List.map_append]
        rfl
      · rw [upd_ne n]
        exact (sp.trans su) _ _ (a2 b o n e)
    · rintro G ⟨a1, a2⟩
      rw [Paired.length hy, List.take_length] at a1
      refine ⟨D, _, rfl, SqL.of a1, ?_⟩
      have e : (ls.map ascB).all id = ls.all ascB := by
        rw [List.all_map]
        rfl
      rw [e]
      exact q G fun b o e => a2 b o (ne_of_none e nD) e
theorem ok_pairg {f : Addr} {fd : FuncData} (F : Fun K "count_pairings" "count_pairings" sPairg f fd) (me : mg "enumerate" = none) (ml : mg "len" = none) : FnOk P w K mg base CX0 1 f fd ["line", "following"] (spPairg K) := by
  refine F.ok scPairg (fun vs H Q E h => ?_) (fun cdv A outer s H vs Q E hr h => ?_)
  · obtain ⟨t, u, a, b, rfl, _⟩ := h
    rfl
  · obtain ⟨t, u, a, b, rfl, ht, hu, la, lb, q⟩ := h
    have nd := scPairg.nd
    refine ⟨_, pss_cons (ps_set (i := 2) nd rfl (.inl rfl) pe_int)
      (pss_cons (ps_for PassesOwn.never rfl (pi_enumT (by rfl) me (pa_cons (pe_revT (pv 0)) pa_nil)) (pg_tup (by rfl) (pgs_cons (pg_name (i := 3) nd rfl (.inl rfl)) (pgs_cons (pg_name (i := 4) nd rfl (.inr rfl)) pgs_nil)))
        (pss_one (ps_aug (i := 2) nd rfl (.inl rfl) (pe_op op_sub (pe_callB call_len_seq (by rfl) ml PySem.boot_len (pa_cons
          (pe_lc (own := [("each", 5)]) (g := gName 5) rfl nd (pi_tup (pv 1)) (blkOk_by (N := nPairg) (sc := defScope sPairg) (by decide +kernel))
            (fun _ _ _ _ _ => pg_name (i := 5) nd rfl (Or.inl rfl)) (fun _ _ _ _ _ => pts_one (pt_cmpR op_gt (pv 5) (pv 4) (nomark _))) (fun _ _ _ _ _ => pv 5)) pa_nil)) (pv 3)) ip_mul)))
      (pss_one (ps_ret (pv 2)))), ?_⟩
    refine ⟨_, rfl, t, _, rfl, ht, fun R nR => ?_⟩
    have sR := same_new (o := .tup (a.map V.int).reverse) nR
    have hR : upd H R (.tup (a.map V.int).reverse) R = some (.tup (a.map V.int).reverse) := upd_same
    have hu2 := same_seqT sR hu
    generalize upd H R (.tup (a.map V.int).reverse) = H1 at hR sR hu2
    refine ⟨R, _, rfl, SqT.of hR, for_enumT (K := K) (a := R) (xs := (a.map V.int).reverse) (fun i σ G => ∃ y3 y4 : Option V, σ = [some (.ref t), some (.ref u), some (.int (pairTo a b i)), y3, y4, none] ∧ Same H1 G) ?_ ?_ ?_ ?_⟩
    · exact ⟨none, none, rfl, Same.refl _⟩
    · rintro i σ G _ ⟨_, _, _, sG⟩
      exact SqT.of (sG _ _ hR)
    · rintro i x σ G T hi ⟨y3, y4, rfl, sG⟩ nT
      have sT := same_new (o := .tup [.int (i : Nat), x]) nT
      have ex : x = .int (a.reverse.getD i 0) := by
        rw [← List.map_reverse, List.getElem?_map] at hi
        rw [List.getD_eq_getElem?_getD]
        cases e : a.reverse[i]? with
        | none => rw [e] at hi; cases hi
        | some v =>
          rw [e] at hi
          injection hi with hi
          exact hi.symm
      subst ex
      refine ⟨T, _, rfl, SqT.of upd_same, rfl, _, _, rfl, _, _, rfl, rfl, ?_⟩
      have hu3 := same_seqT (sG.trans sT) hu2
      refine ⟨_, rfl, _, rfl, u, rfl, ⟨_, hu3⟩, fun D nD => ?_⟩
      refine lc_tup (K := K) (a := u) (xs := b.map V.int) (fun j G' => G' D = some (.lst (((b.take j).filter fun x => decide (a.reverse.getD i 0 < x)).map V.int)) ∧ (∀ c o, c ≠ D → upd G T (.tup [.int (i : Nat), .int (a.reverse.getD i 0)]) c = some o → G' c = some o)) ?_ ?_ ?_ ?_
      · exact ⟨upd_same, fun c o n e => by rw [upd_ne n]; exact e⟩
      · rintro j G' _ ⟨_, a2⟩
        exact same_seqT (fun c o e => a2 c o (ne_of_none e nD) e) hu3
      · rintro j x G' hj ⟨a1, a2⟩
        rw [List.getElem?_map] at hj
        cases eb : b[j]? with
        | none => rw [eb] at hj; cases hj
        | some y =>
          rw [eb] at hj
          injection hj with hj
          subst hj
          have tk : b.take (j + 1) = b.take j ++ [y] := by rw [List.take_add_one, eb]; rfl
          rw [tk, List.filter_append]
          refine ⟨rfl, _, rfl, _, rfl, _, _, rfl, rfl, _, rfl, ite2 (fun c => ?_) (fun c => ?_)⟩
          · have c' : a.reverse.getD i 0 < y := of_decide_eq_true c
            have hfl := List.length_filter_le (fun x => decide (a.reverse.getD i 0 < x)) (b.take j)
            rw [List.length_take] at hfl
            refine ⟨_, rfl, _, a1, ?_, ?_, fun c2 o n e => ?_⟩
            · rw [List.length_map, sizeLine_eq]
              omega
            · rw [upd_same, List.filter_cons_of_pos (by simpa using c'), List.map_append]
              rfl
            · rw [upd_ne n]
              exact a2 c2 o n e
          · have c' : ¬ a.reverse.getD i 0 < y := fun z => c (decide_eq_true z)
            refine ⟨?_, a2⟩
            rw [List.filter_cons_of_neg (by simpa using c'), List.filter_nil, List.append_nil]
            exact a1
      · rintro G' ⟨a1, a2⟩
        rw [List.length_map, List.take_length] at a1
        have sD : Same (upd G T (.tup [.int (i : Nat), .int (a.reverse.getD i 0)])) G' := fun c o e => a2 c o (ne_of_none e nD) e
        refine ⟨D, _, rfl, .inl (SqL.of a1), ?_⟩
        have hfl := List.length_filter_le (fun x => decide (a.reverse.getD i 0 < x)) b
        have hi2 : i < 24 := by
          have := (List.getElem?_eq_some_iff.mp hi).1
          rw [List.length_reverse, List.length_map] at this
          omega
        refine ⟨_, rfl, _, _, rfl, rfl, _, _, rfl, rfl, .inr ?_, ?_⟩
        · rw [List.length_map]
          constructor <;> omega
        · have e : pairTo a b (i + 1) = pairTo a b i * ((((b.filter fun x => decide (a.reverse.getD i 0 < x)).map V.int).length : Int) - ((i : Nat) : Int)) := by
            rw [List.length_map]
            rfl
          refine ⟨some (.int (i : Nat)), some (.int (a.reverse.getD i 0)), ?_, (sG.trans sT).trans sD⟩
          rw [e]
          rfl
    · rintro σ G ⟨y3, y4, rfl, sG⟩
      have e : (a.map V.int).reverse.length = a.length := by rw [List.length_reverse, List.length_map]
      rw [e]
      exact ⟨_, rfl, q G (sR.trans sG)⟩
end
end KS
namespace KS
open PySem PySem.Spec PyProof.Rows L2 RZ
theorem bits_w {i : Int} (h : i.natAbs < 2 ^ 8000) : Builtin.Int.intBits i ≤ 2 ^ 20 :=
  Nat.le_trans (intBits_le_iff.mpr h) (by decide)
theorem ip_mulW {X : Cx} : PIp X .Mult (rI (fun i j => i.natAbs < 2 ^ 8000 ∧ j.natAbs < 2 ^ 8000) fun i j => .int (i * j)) := fun pins s σ H x y u v Q I rx ry h =>
  (opI (X := X) (C := fun i j => i.natAbs < 2 ^ 8000 ∧ j.natAbs < 2 ^ 8000) fun _ _ _ _ _ _ _ hc q => imul_int q (IntMulOk.of_bits (bits_w hc.1) (bits_w hc.2))) pins s σ H x y u v Q I rx ry h
theorem pair_bd {a b : List Int} (hb : b.length ≤ 24) : ∀ i, i ≤ 24 → (pairTo a b i).natAbs ≤ 2 ^ (5 * i)
  | 0, _ => Nat.le_refl _
  | i + 1, hi => by
    have ih := pair_bd (a := a) hb i (by omega)
    have hfl := List.length_filter_le (fun x => decide (a.reverse.getD i 0 < x)) b
    show (pairTo a b i * (((b.filter fun x => decide (a.reverse.getD i 0 < x)).length : Int) - i)).natAbs ≤ _
    rw [Int.natAbs_mul]
    have h2 : ((((b.filter fun x => decide (a.reverse.getD i 0 < x)).length : Int) - i)).natAbs ≤ 2 ^ 5 := by
      show _ ≤ 32
      omega
    have e : 2 ^ (5 * (i + 1)) = 2 ^ (5 * i) * 2 ^ 5 := by rw [← Nat.pow_add]; rfl
    rw [e]
    exact Nat.mul_le_mul ih h2
theorem fac_bd : ∀ n, n ≤ 24 → facN n ≤ 2 ^ (5 * n)
  | 0, _ => Nat.le_refl _
  | n + 1, h => by
    have ih := fac_bd n (by omega)
    have e : 2 ^ (5 * (n + 1)) = 2 ^ (5 * n) * 2 ^ 5 := by rw [← Nat.pow_add]; rfl
    rw [e]
    exact Nat.mul_le_mul ih (by show n + 1 ≤ 32; omega)
theorem p120 {i : Nat} (h : i ≤ 24) : 2 ^ (5 * i) ≤ 2 ^ 120 := Nat.pow_le_pow_right (by decide) (by omega)
end KS
namespace KS
open PySem PySem.Spec PyProof.Rows L2 RZ
theorem shuf_bd {ls : List (List Int)} (h : ∀ l ∈ ls, l.length ≤ 24) : ∀ i, (shufTo ls i).natAbs ≤ 2 ^ (120 * (i + 1))
  | 0 => by
    have h0 : (ls.getD 0 []).length ≤ 24 := by
      rw [List.getD_eq_getElem?_getD]
      cases e : ls[0]? with
      | none => exact Nat.zero_le _
      | some l => exact h l (List.mem_of_getElem? e)
    show (((facN (ls.getD 0 []).length : Nat) : Int)).natAbs ≤ _
    rw [Int.natAbs_natCast]
    exact Nat.le_trans (fac_bd _ h0) (p120 h0)
  | i + 1 => by
    have ih := shuf_bd h i
    have hk : ∀ k, (ls.getD k []).length ≤ 24 := fun k => by
      rw [List.getD_eq_getElem?_getD]
      cases e : ls[k]? with
      | none => exact Nat.zero_le _
      | some l => exact h l (List.mem_of_getElem? e)
    show (shufTo ls i * pairI (ls.getD i []) (ls.getD (i + 1) [])).natAbs ≤ _
    rw [Int.natAbs_mul]
    have e : 2 ^ (120 * (i + 1 + 1)) = 2 ^ (120 * (i + 1)) * 2 ^ 120 := by rw [← Nat.pow_add]; rfl
    rw [e]
    exact Nat.mul_le_mul ih (Nat.le_trans (pair_bd (hk _) _ (hk _)) (p120 (hk _)))
def spShuf (K : PySem.W.Frag) : Sp := fun xs H Q _ => ∃ (L : Addr) (ys : List V) (ls : List (List Int)), xs = [.ref L] ∧ H L = some (.lst ys) ∧ Paired (TupI K H) ys ls ∧ 1 ≤ ls.length ∧ ls.length ≤ 24 ∧ (∀ l ∈ ls, l.length ≤ 24) ∧ ∀ H', Same H H' → Q (.int (shufI ls)) H'
theorem cut_init {xs : List V} (h : 1 ≤ xs.length) : cutV xs none (some (-1)) = xs.take (xs.length - 1) := by
  unfold cutV
  have e : HT.sIx xs.length xs.length (some (-1)) = xs.length - 1 := by
    show (if (-1 : Int) < 0 then ((-1 : Int) + (xs.length : Int)).toNat else min (-1 : Int).toNat xs.length) = xs.length - 1
    rw [if_pos (by decide)]
    omega
  rw [e, HT.sIx_none]
  rfl
theorem cut_rest (xs : List V) : cutV xs (some 1) none = xs.drop 1 := by
  unfold cutV
  rw [show HT.sIx xs.length 0 (some (1 : Int)) = min 1 xs.length from HT.sIx_nat _ _ 1, HT.sIx_none]
  rcases Nat.eq_zero_or_pos xs.length with z | z
  · rw [List.eq_nil_of_length_eq_zero z]
    rfl
  · rw [Nat.min_eq_left z]
    exact List.take_of_length_le (by rw [List.length_drop]; exact Nat.le_refl _)
abbrev sShuf : Stmt := topS 20
abbrev nShuf : List Str := ["groups", "result", "line", "following"]
theorem scShuf : FnScope nShuf ["groups"] (defScope sShuf) := ⟨rfl, rfl, rfl, by decide +kernel, rfl, by decide +kernel, by decide +kernel⟩
section
variable {P : Program} {w : World} {K : PySem.W.Frag} {mg : Str → Option Value} {base : Heap}
theorem ok_shuf {f fF fP : Addr} {fd fdF fdP : FuncData} (F : Fun K "count_shuffles" "count_shuffles" sShuf f fd)
    (GF : FnOk P w K mg base CX0 1 fF fdF ["number"] spFact) (bF : Binds K fdF ["number"] []) (gF : mg "factorial" = some (.ref fF)) (kF : PySem.W.keepIn K (.ref fF) = true)
    (GP : FnOk P w K mg base CX0 1 fP fdP ["line", "following"] (spPairg K)) (bP : Binds K fdP ["line", "following"] []) (gP : mg "count_pairings" = some (.ref fP)) (kP : PySem.W.keepIn K (.ref fP) = true)
    (ml : mg "len" = none) (mz : mg "zip" = none) : FnOk P w K mg base CX0 2 f fd ["groups"] (spShuf K) := by
  refine F.ok scShuf (fun vs H Q E h => ?_) (fun cdv A outer s H vs Q E hr h => ?_)
  · obtain ⟨L, ys, ls, rfl, _⟩ := h
    rfl
  · obtain ⟨L, ys, ls, rfl, hL, hy, l1, l24, ll, q⟩ := h
    have nd := scShuf.nd
    refine ⟨_, pss_cons (ps_set (i := 1) nd rfl (.inl rfl) (pe_call GF hr (by rfl) gF kF bF .nil pass0 (pa_cons (pe_callB call_len_seq (by rfl) ml PySem.boot_len (pa_cons (pe_ix ix_list (pv 0) pe_int (fun _ _ => rfl)) pa_nil)) pa_nil)))
      (pss_cons (ps_for PassesOwn.never rfl (pi_zip (by rfl) mz (pa_cons (pe_slice sl_list (pv 0) po_none (po_some (pe_un un_neg pe_int))) (pa_cons (pe_slice sl_list (pv 0) (po_some pe_int) po_none) pa_nil)))
          (pg_tup (by rfl) (pgs_cons (pg_name (i := 2) nd rfl (.inl rfl)) (pgs_cons (pg_name (i := 3) nd rfl (.inl rfl)) pgs_nil)))
        (pss_one (ps_aug (i := 1) nd rfl (.inl rfl) (pe_call GP hr (by rfl) gP kP bP .nil pass0 (pa_cons (pv 2) (pa_cons (pv 3) pa_nil))) ip_mulW)))
      (pss_one (ps_ret (pv 1)))), ?_⟩
    have yl := Paired.length hy
    have h0 : 0 < ls.length := l1
    obtain ⟨l0, e0⟩ : ∃ l0, ls[0]? = some l0 := ⟨_, List.getElem?_eq_getElem h0⟩
    obtain ⟨y0, ey0⟩ : ∃ y0, ys[0]? = some y0 := ⟨_, List.getElem?_eq_getElem (by omega)⟩
    obtain ⟨l0', e0', t0', rfl, ht0⟩ := paired_get hy ey0
    rw [e0] at e0'
    injection e0' with e0'
    subst e0'
    have g0 : ls.getD 0 [] = l0 := by rw [List.getD_eq_getElem?_getD, e0]; rfl
    have b0 := ll l0 (List.mem_of_getElem? e0)
    refine ⟨_, rfl, L, ys, 0, _, rfl, rfl, SqL.of hL, atI_nat (j := 0) ey0, t0', _, rfl, .inr ht0, l0.length, by rw [List.length_map]; rfl, by omega, ?_⟩
    refine ⟨_, rfl, 1, rfl, ?_⟩
    refine ⟨_, rfl, L, ys, rfl, SqL.of hL, fun A1 n1 => ?_⟩
    have s1 := same_new (o := .lst (cutV ys none (some (-1)))) n1
    refine ⟨_, rfl, _, rfl, L, ys, rfl, SqL.of (s1 _ _ hL), fun B1 n2 => ?_⟩
    have s2 := same_new (o := .lst (cutV ys (some 1) none)) n2
    have hA := s2 _ _ (upd_same (H := H) (a := A1) (o := .lst (cutV ys none (some (-1)))))
    have hB := upd_same (H := upd H A1 (.lst (cutV ys none (some (-1))))) (a := B1) (o := .lst (cutV ys (some 1) none))
    have s12 := s1.trans s2
    generalize upd (upd H A1 (.lst (cutV ys none (some (-1))))) B1 (.lst (cutV ys (some 1) none)) = H2 at hA hB s12
    rw [cut_init (by omega)] at hA
    rw [cut_rest] at hB
    refine ⟨A1, B1, _, _, rfl, SqL.of hA, SqL.of hB, for_zipL (K := K) (a := A1) (b := B1) (xs := ys.take (ys.length - 1)) (ys := ys.drop 1) (by rw [List.length_take, List.length_drop]; omega)
      (fun i σ G => ∃ y2 y3 : Option V, σ = [some (.ref L), some (.int (shufTo ls i)), y2, y3] ∧ Same H2 G) ?_ ?_ ?_ ?_⟩
    · refine ⟨none, none, ?_, Same.refl _⟩
      show _ = [some (V.ref L), some (V.int ((facN (ls.getD 0 []).length : Nat) : Int)), none, none]
      rw [g0]
      rfl
    · rintro i σ G ⟨_, _, _, sG⟩
      exact ⟨SqL.of (sG _ _ hA), SqL.of (sG _ _ hB)⟩
    · rintro i x y T σ G hx hy' ⟨y2, y3, rfl, sG⟩ nT
      have hi : i < ys.length - 1 := by
        have := (List.getElem?_eq_some_iff.mp hx).1
        rw [List.length_take] at this
        omega
      rw [List.getElem?_take_of_lt hi] at hx
      rw [List.getElem?_drop, Nat.add_comm 1 i] at hy'
      obtain ⟨a, ea, t, rfl, ht⟩ := paired_get hy hx
      obtain ⟨b, eb, u, rfl, hu⟩ := paired_get hy hy'
      have ga : ls.getD i [] = a := by rw [List.getD_eq_getElem?_getD, ea]; rfl
      have gb : ls.getD (i + 1) [] = b := by rw [List.getD_eq_getElem?_getD, eb]; rfl
      have la := ll a (List.mem_of_getElem? ea)
      have lb := ll b (List.mem_of_getElem? eb)
      have sT := same_new (o := .tup [.ref t, .ref u]) nT
      have s3 := (s12.trans sG).trans sT
      refine ⟨T, _, rfl, SqT.of upd_same, rfl, _, _, rfl, _, _, rfl, rfl, ?_⟩
      refine ⟨_, rfl, _, rfl, _, rfl, t, u, a, b, rfl, same_seqT s3 ht, same_seqT s3 hu, la, lb, fun G2 s4 => ?_⟩
      refine ⟨_, _, rfl, rfl, ⟨?_, ?_⟩, ?_⟩
      · refine Nat.lt_of_le_of_lt (shuf_bd ll i) (Nat.pow_lt_pow_right (by decide) (by omega))
      · exact Nat.lt_of_le_of_lt (Nat.le_trans (pair_bd lb _ la) (p120 la)) (Nat.pow_lt_pow_right (by decide) (by decide))
      · refine ⟨some (.ref t), some (.ref u), ?_, (sG.trans sT).trans s4⟩
        show _ = [some (V.ref L), some (V.int (shufTo ls i * pairI (ls.getD i []) (ls.getD (i + 1) []))), some (V.ref t), some (V.ref u)]
        rw [ga, gb]
        rfl
    · rintro σ G ⟨y2, y3, rfl, sG⟩
      have e : (ys.take (ys.length - 1)).length = ls.length - 1 := by rw [List.length_take]; omega
      rw [e]
      exact ⟨_, rfl, q G (s12.trans sG)⟩
end
end KS
namespace KS
open PySem PySem.Spec PyProof.Rows L2
abbrev sWhole : Stmt := topS 7
abbrev sBetween : Stmt := topS 8
theorem scWhole : FnScope ["value"] ["value"] (defScope sWhole) := ⟨rfl, rfl, rfl, by decide +kernel, rfl, by decide +kernel, by decide +kernel⟩
theorem scBetween : FnScope ["value", "least", "most"] ["value", "least", "most"] (defScope sBetween) := ⟨rfl, rfl, rfl, by decide +kernel, rfl, by decide +kernel, by decide +kernel⟩
section
variable {P : Program} {w : World} {K : PySem.W.Frag} {mg : Str → Option Value} {base : Heap}
theorem ok_whole {f : Addr} {fd : FuncData} (F : Fun K "is_whole" "is_whole" sWhole f fd) (mi : mg "isinstance" = none) (mI : mg "int" = none) (mB : mg "bool" = none) : FnOk P w K mg base CX0 1 f fd ["value"] spWhole := by
  refine F.ok scWhole (fun vs H Q E h => ?_) (fun cdv A outer s H vs Q E hr h => ?_)
  · obtain ⟨i, rfl, _⟩ := h
    rfl
  · obtain ⟨i, rfl, q⟩ := h
    refine ⟨_, pss_one (ps_ret (pe_and (pe_callB call_isi (by rfl) mi (by decide +kernel) (pa_cons (pv 0) (pa_cons (pe_bltn (v := .ty "int") (by rfl) mI (by decide +kernel) rfl) pa_nil)))
      (pe_one (pe_not (pe_callB call_isi (by rfl) mi (by decide +kernel) (pa_cons (pv 0) (pa_cons (pe_bltn (v := .ty "bool") (by rfl) mB (by decide +kernel) rfl) pa_nil))))))), ?_⟩
    refine ⟨_, rfl, _, _, _, _, true, rfl, .ty "int", .base (.int i), kit_ty (by decide +kernel), true, rfl, ?_⟩
    refine ⟨_, rfl, _, _, _, _, false, rfl, .ty "bool", .base (.int i), kit_ty (by decide +kernel), false, rfl, ?_⟩
    exact q
theorem ok_between {f fW : Addr} {fd fdW : FuncData} (F : Fun K "is_between" "is_between" sBetween f fd) (GW : FnOk P w K mg base CX0 1 fW fdW ["value"] spWhole) (bW : Binds K fdW ["value"] []) (gW : mg "is_whole" = some (.ref fW)) (kW : PySem.W.keepIn K (.ref fW) = true) :
    FnOk P w K mg base CX0 2 f fd ["value", "least", "most"] spBetween := by
  refine F.ok scBetween (fun vs H Q E h => ?_) (fun cdv A outer s H vs Q E hr h => ?_)
  · obtain ⟨i, lo, hi, rfl, _⟩ := h
    rfl
  · obtain ⟨i, lo, hi, rfl, h1, h2, q⟩ := h
    refine ⟨_, pss_one (ps_ret (pe_and (pe_call GW hr (by rfl) gW kW bW .nil pass0 (pa_cons (pv 0) pa_nil)) (pe_one (pe_chain op_le op_le (pv 1) (pv 0) (pv 2))))), ?_⟩
    refine ⟨_, rfl, i, rfl, true, rfl, ?_⟩
    refine ⟨_, rfl, _, rfl, _, _, rfl, rfl, true, bl_true h1, ?_⟩
    refine ⟨_, rfl, _, _, rfl, rfl, ?_⟩
    show Q (V.bl (decide (i ≤ hi))) H
    rw [bl_true h2]
    exact q
end
end KS
namespace KS
open PySem PySem.Spec PyProof.Rows L2 RZ
abbrev sFF : Stmt := topS 10
abbrev sRcOk : Stmt := topS 12
abbrev sTabOk : Stmt := topS 13
theorem scFF : FnScope ["values", "most", "index", "value"] ["values", "most"] (defScope sFF) := ⟨rfl, rfl, rfl, by decide +kernel, rfl, by decide +kernel, by decide +kernel⟩
theorem scRcOk : FnScope ["rows", "columns"] ["rows", "columns"] (defScope sRcOk) := ⟨rfl, rfl, rfl, by decide +kernel, rfl, by decide +kernel, by decide +kernel⟩
theorem scTabOk : FnScope ["size", "table", "index"] ["size", "table"] (defScope sTabOk) := ⟨rfl, rfl, rfl, by decide +kernel, rfl, by decide +kernel, by decide +kernel⟩
abbrev nLast : List Str := ["rows", "columns", "table", "limit", "count", "value"]
section
variable {P : Program} {w : World} {K : PySem.W.Frag} {mg : Str → Option Value} {base : Heap}
theorem ok_ff {f fI : Addr} {fd fdI : FuncData} (F : Fun K "first_fault" "first_fault" sFF f fd) (GI : FnOk P w K mg base CX0 2 fI fdI ["value", "least", "most"] spBetween) (bI : Binds K fdI ["value", "least", "most"] []) (gI : mg "is_between" = some (.ref fI)) (kI : PySem.W.keepIn K (.ref fI) = true)
    (me : mg "enumerate" = none) : FnOk P w K mg base CX0 3 f fd ["values", "most"] (spFF K) := by
  refine F.ok scFF (fun vs H Q E h => ?_) (fun cdv A outer s H vs Q E hr h => ?_)
  · obtain ⟨a, t, vs, rfl, _⟩ := h
    rfl
  · obtain ⟨a, m, vs, rfl, hx, vn, vb, q⟩ := h
    have nd := scFF.nd
    refine ⟨_, pss_cons (ps_for PassesOwn.never rfl (pi_enumT (by rfl) me (pa_cons (pv 0) pa_nil)) (pg_tup (by rfl) (pgs_cons (pg_name (i := 2) nd rfl (.inl rfl)) (pgs_cons (pg_name (i := 3) nd rfl (.inl rfl)) pgs_nil)))
        (pss_one (ps_if (PW.pt (pw_or (pt_not (pt_val (pe_call GI hr (by rfl) gI kI bI .nil pass0 (pa_cons (pv 3) (pa_cons pe_int (pa_cons (pv 1) pa_nil))))))
          (pw_or1 (pt_cmpR op_in_seq (pv 3) (pe_slice sl_tup (pv 0) po_none (po_some (pv 2))) (by rfl))))) (pss_one (ps_ret (pv 2))) pss_nil)))
      (pss_one (ps_ret pe_non)), ?_⟩
    refine ⟨_, rfl, a, _, rfl, hx, for_enumT (K := K) (a := a) (xs := vs.map V.int) (fun i σ H' => Same H H' ∧ ∃ y1 y2, σ = [some (.ref a), some (.int m), y1, y2]) ?_ ?_ ?_ ?_⟩
    · exact ⟨Same.refl _, none, none, rfl⟩
    · rintro i σ H' _ ⟨sm, _⟩
      exact same_seqT sm hx
    · rintro i x σ H' T hi ⟨sm, y1, y2, rfl⟩ nT
      have hil : i < (vs.map V.int).length := (List.getElem?_eq_some_iff.mp hi).1
      rw [List.getElem?_map] at hi
      cases ev : vs[i]? with
      | none =>
        rw [ev] at hi
        cases hi
      | some v =>
        rw [ev] at hi
        cases hi
        have sT := same_new (o := .tup [.int (i : Nat), .int v]) nT
        have s2 := sm.trans sT
        have bd := vb v (List.mem_of_getElem? ev)
        refine ⟨T, _, rfl, SqT.of upd_same, rfl, _, _, rfl, _, _, rfl, rfl, ?_⟩
        refine ⟨_, rfl, _, rfl, v, 1, m, rfl, bd.1, bd.2, true, rfl, ?_⟩
        refine ⟨_, rfl, _, rfl, _, rfl, _, rfl, a, _, rfl, same_seqT s2 hx, cut_not hil, fun S nS => ?_⟩
        have sS := same_new (o := .tup (cutV (vs.map V.int) none (some (i : Int)))) nS
        refine ⟨S, _, rfl, .inr (SqT.of upd_same), rfl, ?_, false, ?_, ?_⟩
        · rw [cut_take (by omega), ← List.map_take]
          exact flat_ints _
        · show V.bl (inV (.int v) (cutV (vs.map V.int) none (some (i : Int)))) = V.bl false
          rw [cut_take (by omega), ← List.map_take, inV_take vn ev]
        · exact ⟨s2.trans sS, _, _, rfl⟩
    · rintro σ H' ⟨sm, _⟩
      exact q H' sm
theorem ok_rcOk {f fB : Addr} {fd fdB : FuncData} {tk : Tok} (F : Fun K "check_rectangle" "check_rectangle" sRcOk f fd) (GB : FnOk P w K mg base CX0 2 fB fdB ["value", "least", "most"] spBetween) (bB : Binds K fdB ["value", "least", "most"] []) (gB : mg "is_between" = some (.ref fB)) (kB : PySem.W.keepIn K (.ref fB) = true)
    (mM : mg "MOST_CELLS" = some (.int 24 tk)) : FnOk P w K mg base CX0 3 f fd ["rows", "columns"] spRcOk := by
  refine F.ok scRcOk (fun vs H Q E h => ?_) (fun cdv A outer s H vs Q E hr h => ?_)
  · obtain ⟨r, c, rfl, _⟩ := h
    rfl
  · obtain ⟨r, c, rfl, sd, q⟩ := h
    refine ⟨_, pss_cons (ps_if (pt_not (pt_val (pe_call GB hr (by rfl) gB kB bB .nil pass0 (pa_cons (pv 0) (pa_cons pe_int (pa_cons (pe_glob (v := .int 24) (by rfl) mM ⟨_, rfl⟩) pa_nil)))))) (pss_one ps_never) pss_nil)
      (pss_one (ps_if (PW.pt (pw_or (pt_not (pt_val (pe_call GB hr (by rfl) gB kB bB .nil pass0 (pa_cons (pv 1) (pa_cons pe_int (pa_cons (pe_glob (v := .int 24) (by rfl) mM ⟨_, rfl⟩) pa_nil))))))
        (pw_or1 (pt_cmpR op_gt (pe_op op_mul (pv 0) (pv 1)) (pe_glob (v := .int 24) (by rfl) mM ⟨_, rfl⟩) (nomark _))))) (pss_one ps_never) pss_nil)), ?_⟩
    have l := sd.le
    have r1 := sd.r1
    have c1 := sd.c1
    refine ⟨_, rfl, (r : Int), 1, 24, rfl, by omega, by omega, true, rfl, ?_⟩
    refine ⟨_, rfl, (c : Int), 1, 24, rfl, by omega, by omega, true, rfl, ?_⟩
    refine ⟨_, rfl, _, rfl, _, _, rfl, rfl, .inl ⟨by omega, by omega⟩, _, _, rfl, rfl, false, bl_false (by
      have := sd.rc
      have e : ((r : Int) * (c : Int)) = ((r * c : Nat) : Int) := (Int.natCast_mul r c).symm
      rw [e]
      omega), ?_⟩
    exact q
theorem ok_tabOk {f fI : Addr} {fd fdI : FuncData} (F : Fun K "check_table" "check_table" sTabOk f fd) (GI : FnOk P w K mg base CX0 3 fI fdI ["values", "most"] (spFF K)) (bI : Binds K fdI ["values", "most"] []) (gI : mg "first_fault" = some (.ref fI)) (kI : PySem.W.keepIn K (.ref fI) = true)
    (mi : mg "isinstance" = none) (mT : mg "tuple" = none) (ml : mg "len" = none) : FnOk P w K mg base CX0 4 f fd ["size", "table"] (spTabOk K) := by
  refine F.ok scTabOk (fun vs H Q E h => ?_) (fun cdv A outer s H vs Q E hr h => ?_)
  · obtain ⟨a, t, vs, rfl, _⟩ := h
    rfl
  · obtain ⟨n, a, vs, rfl, hx, v9, q⟩ := h
    have nd := scTabOk.nd
    refine ⟨_, pss_cons (ps_if (PW.pt (pw_or (pt_not (pt_val (pe_callB call_isi (by rfl) mi (by decide +kernel) (pa_cons (pv 1) (pa_cons (pe_bltn (v := .ty "tuple") (by rfl) mT (by decide +kernel) rfl) pa_nil)))))
          (pw_or1 (pt_cmpR op_ne (pe_callB call_len_seq (by rfl) ml PySem.boot_len (pa_cons (pv 1) pa_nil)) (pv 0) (nomark _)))))
        (pss_one ps_never) pss_nil)
      (pss_cons (ps_set (i := 2) nd rfl (.inl rfl) (pe_call GI hr (by rfl) gI kI bI .nil pass0 (pa_cons (pv 1) (pa_cons (pv 0) pa_nil))))
      (pss_one (ps_if (pt_cmpR op_notN (pv 2) pe_non (nomark _)) (pss_one ps_never) pss_nil))), ?_⟩
    have hlen : (vs.map V.int).length = n := by rw [List.length_map, v9.len]
    refine ⟨_, rfl, _, _, _, _, true, rfl, .ty "tuple", tyx_tup hx, kit_ty (by decide +kernel), true, rfl, ?_⟩
    refine ⟨_, rfl, a, _, rfl, .inr hx, _, rfl, rfl, false, ?_, ?_⟩
    · rw [hlen]
      simp
    refine ⟨_, rfl, _, rfl, a, (n : Int), vs, rfl, hx, v9.nd, v9.bd, fun H1 s1 => ?_⟩
    exact ⟨_, rfl, rfl, false, rfl, q H1 s1⟩
end
end KS
namespace KS
open PySem PySem.Spec PyProof.Rows L2 RZ
def spShortW : Sp := fun xs H Q _ => ∃ w : List Bool, xs = [.str (wS w)] ∧ Wd4 w ∧ ∀ H', Same H H' → Q .non H'
def spOrig (K : PySem.W.Frag) : Sp := fun xs H Q _ => ∃ (r c : Nat) (t : Addr) (vs : List Int) (w : List Bool), xs = [.int (r : Nat), .int (c : Nat), .ref t, .str (wS w)] ∧ Sides r c ∧ SqT K H t (vs.map V.int) ∧ Tab (r * c) vs ∧ Wd4 w ∧ ∀ H', Same H H' → Q (.int (origI r c vs w)) H'
theorem from_bd {st : Int} {ls : List (List Int)} (hs : st.natAbs ≤ 2 ^ 3000) (h : ∀ l ∈ ls, l.length ≤ 24) : ∀ i, (fromTo st ls i).natAbs ≤ 2 ^ (3000 + 120 * i)
  | 0 => hs
  | i + 1 => by
    have ih := from_bd hs h i
    have h0 : (ls.getD i []).length ≤ 24 := by
      rw [List.getD_eq_getElem?_getD]
      cases e : ls[i]? with
      | none => exact Nat.zero_le _
      | some l => exact h l (List.mem_of_getElem? e)
    show (fromTo st ls i * ((facN (ls.getD i []).length : Nat) : Int)).natAbs ≤ _
    rw [Int.natAbs_mul, Int.natAbs_natCast]
    have e : 2 ^ (3000 + 120 * (i + 1)) = 2 ^ (3000 + 120 * i) * 2 ^ 120 := by rw [← Nat.pow_add]; rfl
    rw [e]
    exact Nat.mul_le_mul ih (Nat.le_trans (fac_bd _ h0) (p120 h0))
abbrev sShortW : Stmt := topS 14
theorem scShortW : FnScope ["word"] ["word"] (defScope sShortW) := ⟨rfl, rfl, rfl, by decide +kernel, rfl, by decide +kernel, by decide +kernel⟩
abbrev sOrig : Stmt := topS 21
abbrev nOrig : List Str := ["rows", "columns", "table", "word", "first", "second", "result", "line"]
theorem scOrig : FnScope nOrig ["rows", "columns", "table", "word"] (defScope sOrig) := ⟨rfl, rfl, rfl, by decide +kernel, rfl, by decide +kernel, by decide +kernel⟩
section
variable {P : Program} {w : World} {K : PySem.W.Frag} {mg : Str → Option Value} {base : Heap}
theorem ok_orig {f fR fT fW fA fB fS fF fG : Addr} {fd fdR fdT fdW fdA fdB fdS fdF fdG : FuncData} (F : Fun K "count_origins" "count_origins" sOrig f fd)
    (GR : FnOk P w K mg base CX0 3 fR fdR ["rows", "columns"] spRcOk) (bR : Binds K fdR ["rows", "columns"] []) (gR : mg "check_rectangle" = some (.ref fR)) (kR : PySem.W.keepIn K (.ref fR) = true)
    (GT : FnOk P w K mg base CX0 4 fT fdT ["size", "table"] (spTabOk K)) (bT : Binds K fdT ["size", "table"] []) (gT : mg "check_table" = some (.ref fT)) (kT : PySem.W.keepIn K (.ref fT) = true)
    (GW : FnOk P w K mg base CX0 1 fW fdW ["word"] spShortW) (bW : Binds K fdW ["word"] []) (gW : mg "check_short_word" = some (.ref fW)) (kW : PySem.W.keepIn K (.ref fW) = true)
    (GA : FnOk P w K mg base CX0 1 fA fdA ["columns", "table"] (spRowT K)) (bA : Binds K fdA ["columns", "table"] []) (gA : mg "row_tuples" = some (.ref fA)) (kA : PySem.W.keepIn K (.ref fA) = true)
    (GB : FnOk P w K mg base CX0 1 fB fdB ["columns", "table"] (spColT K)) (bB : Binds K fdB ["columns", "table"] []) (gB : mg "column_tuples" = some (.ref fB)) (kB : PySem.W.keepIn K (.ref fB) = true)
    (GS : FnOk P w K mg base CX0 2 fS fdS ["groups"] (spShuf K)) (bS : Binds K fdS ["groups"] []) (gS : mg "count_shuffles" = some (.ref fS)) (kS : PySem.W.keepIn K (.ref fS) = true)
    (GF : FnOk P w K mg base CX0 1 fF fdF ["number"] spFact) (bF : Binds K fdF ["number"] []) (gF : mg "factorial" = some (.ref fF)) (kF : PySem.W.keepIn K (.ref fF) = true)
    (GG : FnOk P w K mg base CX0 1 fG fdG ["groups"] (spAllA K)) (bG : Binds K fdG ["groups"] []) (gG : mg "all_ascend" = some (.ref fG)) (kG : PySem.W.keepIn K (.ref fG) = true)
    (ml : mg "len" = none) : FnOk P w K mg base CX0 5 f fd ["rows", "columns", "table", "word"] (spOrig K) := by
  refine F.ok scOrig (fun vs H Q E h => ?_) (fun cdv A outer s H vs Q E hr h => ?_)
  · obtain ⟨r, c, t, vs, w, rfl, _⟩ := h
    rfl
  · obtain ⟨r, c, t, vs, wd, rfl, sd, ht, tb, w4, q⟩ := h
    have nd := scOrig.nd
    have hr1 : Room 1 _ := hr.mono (by decide)
    have hr2 : Room 2 _ := hr.mono (by decide)
    have hr3 : Room 3 _ := hr.mono (by decide)
    refine ⟨_, pss_cons (ps_expr (pe_call GR hr3 (by rfl) gR kR bR .nil pass0 (pa_cons (pv 0) (pa_cons (pv 1) pa_nil))))
      (pss_cons (ps_expr (pe_call GT hr (by rfl) gT kT bT .nil pass0 (pa_cons (pe_op op_mul (pv 0) (pv 1)) (pa_cons (pv 2) pa_nil))))
      (pss_cons (ps_expr (pe_call GW hr1 (by rfl) gW kW bW .nil pass0 (pa_cons (pv 3) pa_nil)))
      (pss_cons (ps_par (i := 4) (j := 5) (by rfl) nd rfl rfl (by decide) rfl rfl (pa_cons (pe_call GA hr1 (by rfl) gA kA bA .nil pass0 (pa_cons (pv 1) (pa_cons (pv 2) pa_nil))) (pa_cons (pe_call GB hr1 (by rfl) gB kB bB .nil pass0 (pa_cons (pv 1) (pa_cons (pv 2) pa_nil))) pa_nil)) (by rfl))
      (pss_cons (ps_if (pt_cmpR op_eq (pe_ix ix_str (pv 3) pe_int (fun _ _ => rfl)) pe_str (nomark _)) (pss_one (ps_par (i := 4) (j := 5) (by rfl) nd rfl rfl (by decide) rfl rfl (pa_cons (pv 5) (pa_cons (pv 4) pa_nil)) (by rfl))) pss_nil)
      (pss_cons (ps_if (PW.pt (pw_or (pt_not (pt_val (pe_call GG hr1 (by rfl) gG kG bG .nil pass0 (pa_cons (pv 4) pa_nil))))
          (pw_or1 (PW.pt (pw_and (pt_cmpR op_eq (pe_callB call_len_str (by rfl) ml PySem.boot_len (pa_cons (pv 3) pa_nil)) pe_int (nomark _)) (pw_and1 (pt_not (pt_val (pe_call GG hr1 (by rfl) gG kG bG .nil pass0 (pa_cons (pv 5) pa_nil)))))))))) (pss_one (ps_ret pe_int)) pss_nil)
      (pss_cons (ps_set (i := 6) nd rfl (.inl rfl) (pe_ifExp (pt_cmpR op_eq (pe_callB call_len_str (by rfl) ml PySem.boot_len (pa_cons (pv 3) pa_nil)) pe_int (nomark _)) (pe_call GS hr2 (by rfl) gS kS bS .nil pass0 (pa_cons (pv 5) pa_nil)) pe_int))
      (pss_cons (ps_for PassesOwn.never rfl (pi_list (pv 4)) (pg_name (i := 7) nd rfl (.inl rfl))
        (pss_one (ps_aug (i := 6) nd rfl (.inl rfl) (pe_call GF hr1 (by rfl) gF kF bF .nil pass0 (pa_cons (pe_callB call_len_seq (by rfl) ml PySem.boot_len (pa_cons (pv 7) pa_nil)) pa_nil)) ip_mulW)))
      (pss_one (ps_ret (pv 6)))))))))), ?_⟩
    have s3 := sd.rc
    have sl := sd.le
    have wl := wS_len wd
    have w2 : wd.length ≤ 2 := by rcases w4 with e | e | e | e <;> rw [e] <;> decide
    have hz : (wS wd).length ≤ sizeLine := by rw [wl, sizeLine_eq]; omega
    obtain ⟨b, tl, ew⟩ : ∃ b tl, wd = b :: tl := by rcases w4 with e | e | e | e <;> exact ⟨_, _, e⟩
    have hb : wd.getD 0 false = b := by rw [ew]; rfl
    have at0 : atI (wS wd).cps.toList 0 = some (ltr b) := by
      rw [ew]
      exact atI_nat (j := 0) (by show ((b :: tl).map ltr).toArray.toList[0]? = _; simp)
    refine ⟨_, rfl, _, rfl, r, c, rfl, sd, ?_⟩
    refine ⟨_, rfl, _, rfl, _, _, rfl, rfl, .inr ⟨by omega, by omega⟩, _, rfl, r * c, t, vs, by rw [Int.natCast_mul]; rfl, ht, tb, fun H1 s1 => ?_⟩
    refine ⟨_, rfl, wd, rfl, w4, fun H2 s2 => ?_⟩
    have ht2 := same_seqT (s1.trans s2) ht
    refine ⟨_, rfl, _, rfl, r, c, t, vs, rfl, sd, ht2, tb.len, fun H3 LR yR s3' hR pR => ?_⟩
    refine ⟨_, rfl, _, rfl, r, c, t, vs, rfl, sd, same_seqT s3' ht2, tb.len, fun H4 LC yC s4' hC pC => ?_⟩
    have hR4 := s4' _ _ hR
    have pR4 := tupI_kt (.of_same s4') pR
    have s14 := ((s1.trans s2).trans s3').trans s4'
    have lR : yR.length = r := by rw [Paired.length pR4]; unfold rowsI; rw [List.length_map, List.length_range]
    have lC : yC.length = c := by rw [Paired.length pC]; unfold colsI; rw [List.length_map, List.length_range]
    have lr : ∀ l ∈ rowsI r c vs, l.length ≤ 24 := fun l hl => by
      obtain ⟨i, _, rfl⟩ := List.mem_map.mp hl
      rw [List.length_drop, List.length_take]
      have := tb.len
      omega
    have lc : ∀ l ∈ colsI r c vs, l.length ≤ 24 := fun l hl => by
      obtain ⟨j, hj, rfl⟩ := List.mem_map.mp hl
      have h1 := cutStep_len vs j c
      have h2 : stepN vs.length j c ≤ vs.length := by
        unfold stepN
        have := Nat.div_le_self (vs.length - 1 - j) c
        have h5 : 0 < vs.length := by
          rw [tb.len]
          exact Nat.mul_pos sd.r1 sd.c1
        omega
      have := tb.len
      omega
    refine ⟨_, _, rfl, ?_⟩
    refine ⟨_, rfl, wS wd, 0, ltr b, rfl, rfl, hz, at0, rfl, _, rfl, ite2 (fun e => ?_) (fun e => ?_)⟩
    · have eb : b = true := by
        cases b
        · exact absurd (of_decide_eq_true e) (by decide +kernel)
        · rfl
      refine ⟨_, rfl, _, rfl, _, _, rfl, ?_⟩
      have e1 : colsI r c vs = fstI r c vs wd := by unfold fstI; rw [hb, eb, if_pos rfl]
      have e2 : rowsI r c vs = sndI r c vs wd := by unfold sndI; rw [hb, eb, if_pos rfl]
      rw [e1] at pC lc
      rw [e2] at pR4 lr
      obtain ⟨A1, yA, hA, pA, nA, llA, rfl⟩ : ∃ A1 yA, H4 A1 = some (.lst yA) ∧ Paired (TupI K H4) yA (fstI r c vs wd) ∧ yA.length ≤ 24 ∧ (∀ l ∈ fstI r c vs wd, l.length ≤ 24) ∧ A1 = LC := ⟨LC, yC, hC, pC, by omega, lc, rfl⟩
      obtain ⟨B1, yB, hB, pB, nB, llB, rfl⟩ : ∃ B1 yB, H4 B1 = some (.lst yB) ∧ Paired (TupI K H4) yB (sndI r c vs wd) ∧ (1 ≤ yB.length ∧ yB.length ≤ 24) ∧ (∀ l ∈ sndI r c vs wd, l.length ≤ 24) ∧ B1 = LR := ⟨LR, yR, hR4, pR4, by have := sd.r1; omega, lr, rfl⟩
      have lA : yA.length ≤ 64 := by omega
      have lB : yB.length ≤ 64 := by omega
      have eA := Paired.length pA
      have eB := Paired.length pB
      refine ⟨_, rfl, A1, yA, _, rfl, hA, pA, lA, fun l hl => Nat.le_trans (llA l hl) (by decide), fun H5 s5 => ⟨_, rfl, ?_⟩⟩
      have hB5 := s5 _ _ hB
      have pB5 := tupI_kt (.of_same s5) pB
      have hA5 := s5 _ _ hA
      have pA5 := tupI_kt (.of_same s5) pA
      cases ea : (fstI r c vs wd).all ascB with
      | false =>
        have e0 : origI r c vs wd = 0 := by
          unfold origI
          rw [ea]
          rfl
        have z := q H5 (s14.trans s5)
        rw [e0] at z
        exact z
      | true =>
        refine ⟨_, rfl, _, rfl, hz, rfl, _, rfl, ite2 (fun e2 => ?_) (fun e2 => ?_)⟩
        · have h2 : wd.length = 2 := by
            have := V.int.inj (of_decide_eq_true e2)
            omega
          refine ⟨_, rfl, B1, yB, _, rfl, hB5, pB5, lB, fun l hl => Nat.le_trans (llB l hl) (by decide), fun H6 s6 => ⟨_, rfl, ?_⟩⟩
          cases eb2 : (sndI r c vs wd).all ascB with
          | false =>
            have e0 : origI r c vs wd = 0 := by
              unfold origI
              rw [ea, eb2, decide_eq_true h2]
              rfl
            have z := q H6 ((s14.trans s5).trans s6)
            rw [e0] at z
            exact z
          | true =>
            refine ⟨_, rfl, _, rfl, hz, rfl, _, rfl, ite2 (fun e3 => ?_) (fun e3 => absurd e2 e3)⟩
            refine ⟨_, rfl, B1, yB, _, rfl, s6 _ _ hB5, tupI_kt (.of_same s6) pB5, by omega, by omega, llB, fun H7 s7 => ?_⟩
            have hA7 := (s6.trans s7) _ _ hA5
            have pA7 := tupI_kt (.of_same (s6.trans s7)) pA5
            refine ⟨_, rfl, A1, rfl, ⟨_, SqL.of hA7⟩, for_list (K := K) (a := A1) (xs := yA) (fun i σ G => ∃ y7 : Option V, σ = [some (.int (r : Nat)), some (.int (c : Nat)), some (.ref t), some (.str (wS wd)), some (.ref A1), some (.ref B1), some (.int (fromTo (shufI (sndI r c vs wd)) (fstI r c vs wd) i)), y7] ∧ Same H7 G) ?_ ?_ ?_ ?_⟩
            · exact ⟨none, rfl, Same.refl _⟩
            · rintro i σ G _ ⟨_, _, sG⟩
              exact SqL.of (sG _ _ hA7)
            · rintro i x σ G hi ⟨y7, rfl, sG⟩
              obtain ⟨l, hli, u, rfl, hu⟩ := paired_get pA7 hi
              have ll := llA l (List.mem_of_getElem? hli)
              have gl : (fstI r c vs wd).getD i [] = l := by rw [List.getD_eq_getElem?_getD, hli]; rfl
              have i24 : i < 24 := by
                have := (List.getElem?_eq_some_iff.mp hi).1
                omega
              refine ⟨_, rfl, _, rfl, u, _, rfl, .inr (same_seqT sG hu), l.length, by rw [List.length_map]; rfl, by omega, ?_⟩
              refine ⟨_, _, rfl, rfl, ⟨?_, ?_⟩, ?_⟩
              · exact Nat.lt_of_le_of_lt (from_bd (by exact Nat.le_trans (shuf_bd llB _) (Nat.pow_le_pow_right (by decide) (by omega))) llA i) (Nat.pow_lt_pow_right (by decide) (by omega))
              · rw [Int.natAbs_natCast]
                exact Nat.lt_of_le_of_lt (Nat.le_trans (fac_bd _ ll) (p120 ll)) (Nat.pow_lt_pow_right (by decide) (by decide))
              · refine ⟨some (.ref u), ?_, sG⟩
                show _ = [some (V.int (r : Nat)), some (V.int (c : Nat)), some (V.ref t), some (V.str (wS wd)), some (V.ref A1), some (V.ref B1), some (V.int (fromTo (shufI (sndI r c vs wd)) (fstI r c vs wd) i * ((facN ((fstI r c vs wd).getD i []).length : Nat) : Int))), some (V.ref u)]
                rw [gl]
                rfl
            · rintro σ G ⟨y7, rfl, sG⟩
              rw [eA]
              refine ⟨_, rfl, ?_⟩
              have eo : origI r c vs wd = fromTo (shufI (sndI r c vs wd)) (fstI r c vs wd) (fstI r c vs wd).length := by
                unfold origI
                rw [ea, eb2, decide_eq_true h2, if_pos h2]
                rfl
              rw [← eo]
              exact q G ((s14.trans s5).trans ((s6.trans s7).trans sG))
        · have h2 : wd.length ≠ 2 := fun z => e2 (decide_eq_true (by rw [wl, z]; rfl))
          refine ⟨_, rfl, _, rfl, hz, rfl, _, rfl, ite2 (fun e3 => absurd e3 e2) (fun e3 => ?_)⟩
          have hA7 := (Same.refl H5) _ _ hA5
          have pA7 := tupI_kt (.of_same (Same.refl H5)) pA5
          refine ⟨_, rfl, A1, rfl, ⟨_, SqL.of hA7⟩, for_list (K := K) (a := A1) (xs := yA) (fun i σ G => ∃ y7 : Option V, σ = [some (.int (r : Nat)), some (.int (c : Nat)), some (.ref t), some (.str (wS wd)), some (.ref A1), some (.ref B1), some (.int (fromTo 1 (fstI r c vs wd) i)), y7] ∧ Same H5 G) ?_ ?_ ?_ ?_⟩
          · exact ⟨none, rfl, Same.refl _⟩
          · rintro i σ G _ ⟨_, _, sG⟩
            exact SqL.of (sG _ _ hA7)
          · rintro i x σ G hi ⟨y7, rfl, sG⟩
            obtain ⟨l, hli, u, rfl, hu⟩ := paired_get pA7 hi
            have ll := llA l (List.mem_of_getElem? hli)
            have gl : (fstI r c vs wd).getD i [] = l := by rw [List.getD_eq_getElem?_getD, hli]; rfl
            have i24 : i < 24 := by
              have := (List.getElem?_eq_some_iff.mp hi).1
              omega
            refine ⟨_, rfl, _, rfl, u, _, rfl, .inr (same_seqT sG hu), l.length, by rw [List.length_map]; rfl, by omega, ?_⟩
            refine ⟨_, _, rfl, rfl, ⟨?_, ?_⟩, ?_⟩
            · exact Nat.lt_of_le_of_lt (from_bd (by exact Nat.one_le_two_pow) llA i) (Nat.pow_lt_pow_right (by decide) (by omega))
            · rw [Int.natAbs_natCast]
              exact Nat.lt_of_le_of_lt (Nat.le_trans (fac_bd _ ll) (p120 ll)) (Nat.pow_lt_pow_right (by decide) (by decide))
            · refine ⟨some (.ref u), ?_, sG⟩
              show _ = [some (V.int (r : Nat)), some (V.int (c : Nat)), some (V.ref t), some (V.str (wS wd)), some (V.ref A1), some (V.ref B1), some (V.int (fromTo 1 (fstI r c vs wd) i * ((facN ((fstI r c vs wd).getD i []).length : Nat) : Int))), some (V.ref u)]
              rw [gl]
              rfl
          · rintro σ G ⟨y7, rfl, sG⟩
            rw [eA]
            refine ⟨_, rfl, ?_⟩
            have eo : origI r c vs wd = fromTo 1 (fstI r c vs wd) (fstI r c vs wd).length := by
              unfold origI
              rw [ea, decide_eq_false h2, if_neg h2]
              rfl
            rw [← eo]
            exact q G ((s14.trans s5).trans ((Same.refl H5).trans sG))
    · have eb : b = false := by
        cases b
        · rfl
        · exact absurd (decide_eq_true (by decide +kernel)) e
      have e1 : rowsI r c vs = fstI r c vs wd := by unfold fstI; rw [hb, eb, if_neg (by decide)]
      have e2 : colsI r c vs = sndI r c vs wd := by unfold sndI; rw [hb, eb, if_neg (by decide)]
      rw [e1] at pR4 lr
      rw [e2] at pC lc
      obtain ⟨A1, yA, hA, pA, nA, llA, rfl⟩ : ∃ A1 yA, H4 A1 = some (.lst yA) ∧ Paired (TupI K H4) yA (fstI r c vs wd) ∧ yA.length ≤ 24 ∧ (∀ l ∈ fstI r c vs wd, l.length ≤ 24) ∧ A1 = LR := ⟨LR, yR, hR4, pR4, by omega, lr, rfl⟩
      obtain ⟨B1, yB, hB, pB, nB, llB, rfl⟩ : ∃ B1 yB, H4 B1 = some (.lst yB) ∧ Paired (TupI K H4) yB (sndI r c vs wd) ∧ (1 ≤ yB.length ∧ yB.length ≤ 24) ∧ (∀ l ∈ sndI r c vs wd, l.length ≤ 24) ∧ B1 = LC := ⟨LC, yC, hC, pC, by have := sd.c1; omega, lc, rfl⟩
      have lA : yA.length ≤ 64 := by omega
      have lB : yB.length ≤ 64 := by omega
      have eA := Paired.length pA
      have eB := Paired.length pB
      refine ⟨_, rfl, A1, yA, _, rfl, hA, pA, lA, fun l hl => Nat.le_trans (llA l hl) (by decide), fun H5 s5 => ⟨_, rfl, ?_⟩⟩
      have hB5 := s5 _ _ hB
      have pB5 := tupI_kt (.of_same s5) pB
      have hA5 := s5 _ _ hA
      have pA5 := tupI_kt (.of_same s5) pA
      cases ea : (fstI r c vs wd).all ascB with
      | false =>
        have e0 : origI r c vs wd = 0 := by
          unfold origI
          rw [ea]
          rfl
        have z := q H5 (s14.trans s5)
        rw [e0] at z
        exact z
      | true =>
        refine ⟨_, rfl, _, rfl, hz, rfl, _, rfl, ite2 (fun e2 => ?_) (fun e2 => ?_)⟩
        · have h2 : wd.length = 2 := by
            have := V.int.inj (of_decide_eq_true e2)
            omega
          refine ⟨_, rfl, B1, yB, _, rfl, hB5, pB5, lB, fun l hl => Nat.le_trans (llB l hl) (by decide), fun H6 s6 => ⟨_, rfl, ?_⟩⟩
          cases eb2 : (sndI r c vs wd).all ascB with
          | false =>
            have e0 : origI r c vs wd = 0 := by
              unfold origI
              rw [ea, eb2, decide_eq_true h2]
              rfl
            have z := q H6 ((s14.trans s5).trans s6)
            rw [e0] at z
            exact z
          | true =>
            refine ⟨_, rfl, _, rfl, hz, rfl, _, rfl, ite2 (fun e3 => ?_) (fun e3 => absurd e2 e3)⟩
            refine ⟨_, rfl, B1, yB, _, rfl, s6 _ _ hB5, tupI_kt (.of_same s6) pB5, by omega, by omega, llB, fun H7 s7 => ?_⟩
            have hA7 := (s6.trans s7) _ _ hA5
            have pA7 := tupI_kt (.of_same (s6.trans s7)) pA5
            refine ⟨_, rfl, A1, rfl, ⟨_, SqL.of hA7⟩, for_list (K := K) (a := A1) (xs := yA) (fun i σ G => ∃ y7 : Option V, σ = [some (.int (r : Nat)), some (.int (c : Nat)), some (.ref t), some (.str (wS wd)), some (.ref A1), some (.ref B1), some (.int (fromTo (shufI (sndI r c vs wd)) (fstI r c vs wd) i)), y7] ∧ Same H7 G) ?_ ?_ ?_ ?_⟩
            · exact ⟨none, rfl, Same.refl _⟩
            · rintro i σ G _ ⟨_, _, sG⟩
              exact SqL.of (sG _ _ hA7)
            · rintro i x σ G hi ⟨y7, rfl, sG⟩
              obtain ⟨l, hli, u, rfl, hu⟩ := paired_get pA7 hi
              have ll := llA l (List.mem_of_getElem? hli)
              have gl : (fstI r c vs wd).getD i [] = l := by rw [List.getD_eq_getElem?_getD, hli]; rfl
              have i24 : i < 24 := by
                have := (List.getElem?_eq_some_iff.mp hi).1
                omega
              refine ⟨_, rfl, _, rfl, u, _, rfl, .inr (same_seqT sG hu), l.length, by rw [List.length_map]; rfl, by omega, ?_⟩
              refine ⟨_, _, rfl, rfl, ⟨?_, ?_⟩, ?_⟩
              · exact Nat.lt_of_le_of_lt (from_bd (by exact Nat.le_trans (shuf_bd llB _) (Nat.pow_le_pow_right (by decide) (by omega))) llA i) (Nat.pow_lt_pow_right (by decide) (by omega))
              · rw [Int.natAbs_natCast]
                exact Nat.lt_of_le_of_lt (Nat.le_trans (fac_bd _ ll) (p120 ll)) (Nat.pow_lt_pow_right (by decide) (by decide))
              · refine ⟨some (.ref u), ?_, sG⟩
                show _ = [some (V.int (r : Nat)), some (V.int (c : Nat)), some (V.ref t), some (V.str (wS wd)), some (V.ref A1), some (V.ref B1), some (V.int (fromTo (shufI (sndI r c vs wd)) (fstI r c vs wd) i * ((facN ((fstI r c vs wd).getD i []).length : Nat) : Int))), some (V.ref u)]
                rw [gl]
                rfl
            · rintro σ G ⟨y7, rfl, sG⟩
              rw [eA]
              refine ⟨_, rfl, ?_⟩
              have eo : origI r c vs wd = fromTo (shufI (sndI r c vs wd)) (fstI r c vs wd) (fstI r c vs wd).length := by
                unfold origI
                rw [ea, eb2, decide_eq_true h2, if_pos h2]
                rfl
              rw [← eo]
              exact q G ((s14.trans s5).trans ((s6.trans s7).trans sG))
        · have h2 : wd.length ≠ 2 := fun z => e2 (decide_eq_true (by rw [wl, z]; rfl))
          refine ⟨_, rfl, _, rfl, hz, rfl, _, rfl, ite2 (fun e3 => absurd e3 e2) (fun e3 => ?_)⟩
          have hA7 := (Same.refl H5) _ _ hA5
          have pA7 := tupI_kt (.of_same (Same.refl H5)) pA5
          refine ⟨_, rfl, A1, rfl, ⟨_, SqL.of hA7⟩, for_list (K := K) (a := A1) (xs := yA) (fun i σ G => ∃ y7 : Option V, σ = [some (.int (r : Nat)), some (.int (c : Nat)), some (.ref t), some (.str (wS wd)), some (.ref A1), some (.ref B1), some (.int (fromTo 1 (fstI r c vs wd) i)), y7] ∧ Same H5 G) ?_ ?_ ?_ ?_⟩
          · exact ⟨none, rfl, Same.refl _⟩
          · rintro i σ G _ ⟨_, _, sG⟩
            exact SqL.of (sG _ _ hA7)
          · rintro i x σ G hi ⟨y7, rfl, sG⟩
            obtain ⟨l, hli, u, rfl, hu⟩ := paired_get pA7 hi
            have ll := llA l (List.mem_of_getElem? hli)
            have gl : (fstI r c vs wd).getD i [] = l := by rw [List.getD_eq_getElem?_getD, hli]; rfl
            have i24 : i < 24 := by
              have := (List.getElem?_eq_some_iff.mp hi).1
              omega
            refine ⟨_, rfl, _, rfl, u, _, rfl, .inr (same_seqT sG hu), l.length, by rw [List.length_map]; rfl, by omega, ?_⟩
            refine ⟨_, _, rfl, rfl, ⟨?_, ?_⟩, ?_⟩
            · exact Nat.lt_of_le_of_lt (from_bd (by exact Nat.one_le_two_pow) llA i) (Nat.pow_lt_pow_right (by decide) (by omega))
            · rw [Int.natAbs_natCast]
              exact Nat.lt_of_le_of_lt (Nat.le_trans (fac_bd _ ll) (p120 ll)) (Nat.pow_lt_pow_right (by decide) (by decide))
            · refine ⟨some (.ref u), ?_, sG⟩
              show _ = [some (V.int (r : Nat)), some (V.int (c : Nat)), some (V.ref t), some (V.str (wS wd)), some (V.ref A1), some (V.ref B1), some (V.int (fromTo 1 (fstI r c vs wd) i * ((facN ((fstI r c vs wd).getD i []).length : Nat) : Int))), some (V.ref u)]
              rw [gl]
              rfl
          · rintro σ G ⟨y7, rfl, sG⟩
            rw [eA]
            refine ⟨_, rfl, ?_⟩
            have eo : origI r c vs wd = fromTo 1 (fstI r c vs wd) (fstI r c vs wd).length := by
              unfold origI
              rw [ea, decide_eq_false h2, if_neg h2]
              rfl
            rw [← eo]
            exact q G ((s14.trans s5).trans ((Same.refl H5).trans sG))
end
end KS
namespace KS
open PySem PySem.Spec PyProof.Rows L2
/-- the numbers of tables that count_origins tells are no negative ones, and no more than all -/
theorem facPos : ∀ n, 1 ≤ facN n
  | 0 => Nat.le_refl _
  | n + 1 => Nat.mul_pos (facPos n) (Nat.succ_pos n)
def lowT (a b : Nat) : List V := [.int ((a / Nat.gcd a b : Nat) : Int), .int ((b / Nat.gcd a b : Nat) : Int)]
def spChance (K : PySem.W.Frag) : Sp := fun xs H Q _ => ∃ (r c : Nat) (t : Addr) (vs : List Int) (w : List Bool) (o : Nat), xs = [.int (r : Nat), .int (c : Nat), .ref t, .str (wS w)] ∧ Sides r c ∧ SqT K H t (vs.map V.int) ∧ Tab (r * c) vs ∧ Wd4 w ∧ origI r c vs w = ((o : Nat) : Int) ∧ ∀ H' u, Same H H' → H' u = some (.tup (lowT o (facN (r * c)))) → Q (.ref u) H'
abbrev nChance : List Str := ["rows", "columns", "table", "word", "top", "bottom", "divisor", "remainder"]
section
variable {P : Program} {w : World} {K : PySem.W.Frag} {mg : Str → Option Value} {base : Heap}
theorem ok_shortW {f : Addr} {fd : FuncData} (F : Fun K "check_short_word" "check_short_word" sShortW f fd) (mi : mg "isinstance" = none) (mS : mg "str" = none) : FnOk P w K mg base CX0 1 f fd ["word"] spShortW := by
  refine F.ok scShortW (fun vs H Q E h => ?_) (fun cdv A outer s H vs Q E hr h => ?_)
  · obtain ⟨w, rfl, _⟩ := h
    rfl
  · obtain ⟨wd, rfl, w4, q⟩ := h
    have nd := scShortW.nd
    refine ⟨_, pss_one (ps_if (PW.pt (pw_or (pt_not (pt_val (pe_callB call_isi (by rfl) mi (by decide +kernel) (pa_cons (pv 0) (pa_cons (pe_bltn (v := .ty "str") (by rfl) mS (by decide +kernel) rfl) pa_nil)))))
          (pw_or1 (pt_cmpR op_notIn_seq (pv 0) (pe_tup (pa_cons pe_str (pa_cons pe_str (pa_cons pe_str (pa_cons pe_str pa_nil))))) (by rfl))))) (pss_one ps_never) pss_nil), ?_⟩
    refine ⟨_, rfl, _, _, _, _, true, rfl, .ty "str", .base (.str _), kit_ty (by decide +kernel), true, rfl, ?_⟩
    refine ⟨_, rfl, (by show 4 ≤ sizeLine; decide), fun t nt => ⟨t, _, rfl, .inr (SqT.of upd_same), rfl, rfl, ?_⟩⟩
    have e : inV (V.str (wS wd)) [V.str "R", V.str "C", V.str "RC", V.str "CR"] = true := by
      rcases w4 with z | z | z | z <;> rw [z] <;> decide +kernel
    rw [e]
    refine ⟨_, rfl, ?_⟩
    exact q _ (same_new nt)
end
end KS
namespace KS
open PySem PySem.Spec PyProof.Rows L2
abbrev sOrders : Stmt := topS 27
abbrev nOrders : List Str := ["_law_size", "_law_found", "_law_one", "_law_longer", "_law_part", "_law_k"]
theorem scOrders : FnScope nOrders ["_law_size"] (defScope sOrders) := ⟨rfl, rfl, rfl, by decide +kernel, rfl, by decide +kernel, by decide +kernel⟩
def spOrders (K : PySem.W.Frag) : Sp := fun xs H Q _ => ∃ n : Nat, xs = [.int (n : Nat)] ∧ n ≤ 6 ∧ ∀ H' F ys, Same H H' → H' F = some (.lst ys) → Paired (TupI K H') ys (ordI n) → Q (.ref F) H'
section
variable {P : Program} {w : World} {K : PySem.W.Frag} {mg : Str → Option Value} {base : Heap}
theorem ok_orders {f : Addr} {fd : FuncData} (F : Fun K "_law_orders" "_law_orders" sOrders f fd) (mr : mg "range" = none) (ml : mg "len" = none) : FnOk P w K mg base CX0 1 f fd ["_law_size"] (spOrders K) := by
  refine F.ok scOrders (fun vs H Q E h => ?_) (fun cdv A outer s H vs Q E hr h => ?_)
  · obtain ⟨n, rfl, _⟩ := h
    rfl
  · obtain ⟨n, rfl, hn, q⟩ := h
    have nd := scOrders.nd
    refine ⟨_, pss_cons (ps_set (i := 1) nd rfl (.inl rfl) (pe_lst (pa_cons (pe_tup pa_nil) pa_nil)))
      (pss_cons (ps_for PassesOwn.never rfl (pi_range2 (by rfl) mr (pa_cons pe_int (pa_cons (pe_op op_add (pv 0) pe_int) pa_nil))) (pg_name (i := 2) nd rfl (.inr rfl))
        (pss_cons (ps_set (i := 3) nd rfl (.inl rfl) (pe_lst pa_nil))
        (pss_cons (ps_for PassesOwn.never rfl (pi_list (pv 1)) (pg_name (i := 4) nd rfl (.inr rfl))
          (pss_one (ps_expr (pe_bm PySem.F.plainAttrs_list PySem.F.slot_list_extend PySem.F.type_list_extend mt_extend (pv 3) (pa_cons
            (pe_lc (own := [("_law_k", 5)]) (g := gName 5) (tt := tYes) rfl nd (pi_range1 (by rfl) mr (pa_cons (pe_op op_add (pe_callB call_len_seq (by rfl) ml PySem.boot_len (pa_cons (pv 4) pa_nil)) pe_int) pa_nil)) (blkOk_by (N := nOrders) (sc := defScope sOrders) (by decide +kernel))
              (fun _ _ _ _ _ => pg_name (i := 5) nd rfl (Or.inl rfl)) (fun _ _ _ _ _ => pts_nil)
              (fun _ _ _ _ _ => pe_op (r := rCatA K) op_catA (pe_op (r := rCatA K) op_catA (pe_slice (r := rSlA K) sl_tupA (pv 4) po_none (po_some (pv 5))) (pe_tup (pa_cons (pv 2) pa_nil))) (pe_slice (r := rSlA K) sl_tupA (pv 4) (po_some (pv 5)) po_none))) pa_nil)))))
        (pss_one (ps_set (i := 1) nd rfl (.inl rfl) (pv 3))))))
      (pss_one (ps_ret (pv 1)))), ?_⟩
    refine ⟨(by show 0 ≤ sizeLine; decide), fun T0 n0 => ?_⟩
    have s0 := same_new (o := .tup []) n0
    refine ⟨(by show 1 ≤ sizeLine; decide), fun F0 nF0 => ?_⟩
    have s1 := same_new (o := .lst [.ref T0]) nF0
    refine ⟨_, rfl, _, _, rfl, rfl, 1, (n : Int) + 1, rfl, ⟨by omega, by omega, by omega, by omega⟩, for_range (lo := 1) (n := ((n : Int) + 1 - 1).toNat) (fun i σ G => ∃ (F : Addr) (ys : List V) (y2 y3 y4 : Option V), σ = [some (.int (n : Nat)), some (.ref F), y2, y3, y4, none] ∧
      Same H G ∧ G F = some (.lst ys) ∧ Paired (TupI K G) ys (ordI i)) ?_ ?_ ?_⟩
    · exact ⟨F0, [.ref T0], none, none, none, rfl, s0.trans s1, upd_same, .cons ⟨T0, rfl, same_seqT s1 (SqT.of upd_same)⟩ .nil⟩
    · rintro i σ G hi ⟨F, ys, y2, y3, y4, rfl, sG, hF, hy⟩
      have hi' : i < n := by omega
      have f1 := fac_le (n := i + 1) (by omega)
      have hyl := Paired.length hy
      rw [len_ord] at hyl
      have hfac : facN (i + 1) = facN i * (i + 1) := rfl
      refine ⟨(by show 0 ≤ sizeLine; decide), fun L nL => ?_⟩
      have sL := same_new (o := .lst []) nL
      have nFL : F ≠ L := ne_of_none hF nL
      refine ⟨_, rfl, F, rfl, ⟨_, SqL.of (sL _ _ hF)⟩, for_list (K := K) (a := F) (xs := ys) (fun j σ G' => ∃ (ls : List V) (y4 : Option V), σ = [some (.int (n : Nat)), some (.ref F), some (.int (1 + (i : Int))), some (.ref L), y4, none] ∧ (∀ b o, b ≠ L → G b = some o → G' b = some o) ∧ G' L = some (.lst ls) ∧
        Paired (TupI K G') ls (((ordI i).take j).flatMap (insAll (1 + (i : Int))))) ?_ ?_ ?_ ?_⟩
      · exact ⟨[], y4, rfl, fun b o n e => sL b o e, upd_same, .nil⟩
      · rintro j σ G' _ ⟨ls, _, _, k', _⟩
        exact SqL.of (k' _ _ nFL hF)
      · rintro j x σ G' hj ⟨ls, y4, rfl, k', hL, hq⟩
        obtain ⟨l, hlj, t, rfl, ht⟩ := paired_get hy hj
        have sm : Same G G' := fun b o e => k' b o (ne_of_none e nL) e
        have hll := ord_len (List.mem_of_getElem? hlj)
        have ht' := same_seqT sm ht
        have lsl : ls.length = (List.take j (ordI i)).length * (i + 1) := by
          rw [Paired.length hq]
          exact flat_len fun m hm => ord_len (List.mem_of_mem_take hm)
        have tj : (List.take j (ordI i)).length ≤ facN i := by
          rw [← len_ord, List.length_take]
          omega
        have lsb : ls.length ≤ 720 := by
          rw [lsl]
          exact Nat.le_trans (Nat.mul_le_mul_right _ tj) (by omega)
        refine ⟨_, rfl, .inl ⟨rfl, _, SqL.of hL⟩, _, rfl, t, _, rfl, .inr ht', _, _, rfl, rfl, _, rfl, by rw [List.length_map]; omega, by rw [List.length_map]; omega, fun D nD => ?_⟩
        have nLD : L ≠ D := ne_of_none hL nD
        have en : (((l.map V.int).length : Int) + 1).toNat = l.length + 1 := by
          rw [List.length_map]
          omega
        rw [en]
        refine lc_range (lo := 0) (n := l.length + 1) (fun k G2 => ∃ acc : List V, G2 D = some (.lst acc) ∧ Paired (TupI K G2) acc ((List.range k).map (insAt l (1 + (i : Int)))) ∧ (∀ b o, b ≠ D → G' b = some o → G2 b = some o)) ?_ ?_ ?_
        · exact ⟨[], upd_same, .nil, fun b o n e => by rw [upd_ne n]; exact e⟩
        · rintro k G2 hk ⟨acc, a1, a2, a3⟩
          have s2 : Same G' G2 := fun b o e => a3 b o (ne_of_none e nD) e
          have ht2 := same_seqT s2 ht'
          have al : acc.length = k := by rw [Paired.length a2, List.length_map, List.length_range]
          refine ⟨rfl, _, rfl, _, rfl, _, rfl, ?_⟩
          rw [Int.zero_add]
          refine slTo_ok2 (n := k) ht2 (by rw [List.length_map]; omega) (fun G3 u t3 hu => ?_)
          refine ⟨_, rfl, (by show 1 ≤ sizeLine; decide), fun Z nZ => ?_⟩
          have t4 := same_new (o := .tup [.int (1 + (i : Int))]) nZ
          refine catA_ok2 (same_seqT t4 hu) (SqT.of upd_same) (by rw [List.length_take, List.length_map]; show min k l.length + 1 ≤ 64; omega) (fun G5 v t5 hv => ?_)
          refine ⟨_, rfl, _, rfl, _, rfl, ?_⟩
          dsimp only [tNoPart]
          refine slFrom_ok2 (n := k) (same_seqT ((t3.trans t4).trans t5) ht2) (by rw [List.length_map]; omega) (fun G6 x t6 hx => ?_)
          refine catA_ok2 (same_seqT t6 hv) hx (by rw [List.length_append, List.length_take, List.length_drop, List.length_map]; show min k l.length + 1 + (l.length - k) ≤ 64; omega) (fun G7 y t7 hy' => ?_)
          have s7 := (((t3.trans t4).trans t5).trans t6).trans t7
          have hD7 := s7 _ _ a1
          refine ⟨acc, hD7, by rw [sizeLine_eq]; omega, acc ++ [.ref y], upd_same, ?_, fun b o n e => by rw [upd_ne n]; exact s7 _ _ (a3 b o n e)⟩
          rw [List.range_succ, List.map_append]
          refine paired_append (tupI_kt ((KT.of_same s7).trans (KT.upd hD7)) a2) (.cons ⟨y, rfl, KT.upd hD7 _ _ ?_⟩ .nil)
          have ee : (insAt l (1 + (i : Int)) k).map V.int = List.take k (l.map V.int) ++ [V.int (1 + (i : Int))] ++ List.drop k (l.map V.int) := by
            unfold insAt
            rw [List.map_append, List.map_append, List.map_take, List.map_drop]
            rfl
          rw [ee]
          exact hy'
        · rintro G2 ⟨acc, a1, a2, a3⟩
          have s2 : Same G' G2 := fun b o e => a3 b o (ne_of_none e nD) e
          have al : acc.length = l.length + 1 := by rw [Paired.length a2, List.length_map, List.length_range]
          have hL2 := s2 _ _ hL
          refine ⟨L, D, ls, acc, rfl, rfl, hL2, a1, by rw [sizeLine_eq]; omega, ?_⟩
          refine ⟨ls ++ acc, _, rfl, fun b o n e => by rw [upd_ne n]; exact s2 _ _ (k' b o n e), upd_same, ?_⟩
          rw [List.take_add_one, hlj, List.flatMap_append]
          refine tupI_kt (KT.upd hL2) (paired_append (tupI_kt (.of_same s2) hq) ?_)
          show Paired (TupI K G2) acc (insAll (1 + (i : Int)) l ++ [])
          rw [List.append_nil]
          exact a2
      · rintro σ G' ⟨ls, y4, rfl, k', hL, hq⟩
        rw [Paired.length hy, List.take_length] at hq
        have sm : Same G G' := fun b o e => k' b o (ne_of_none e nL) e
        exact ⟨_, rfl, L, ls, _, _, _, rfl, sG.trans sm, hL, hq⟩
    · rintro σ G ⟨F, ys, y2, y3, y4, rfl, sG, hF, hy⟩
      have en : ((n : Int) + 1 - 1).toNat = n := by omega
      rw [en] at hy
      exact ⟨_, rfl, q G F ys sG hF hy⟩
end
end KS
namespace KS
open PySem PySem.Spec PyProof.Rows L2
/-! ### tuples of ints made at run time -/
def TupE (H : Hp) (x : V) (l : List Int) : Prop := ∃ t, x = .ref t ∧ H t = some (.tup (l.map V.int))
def KTE (H H' : Hp) : Prop := ∀ z ys, H z = some (.tup ys) → H' z = some (.tup ys)
theorem KTE.of_same {H H' : Hp} (s : Same H H') : KTE H H' := fun z ys e => s _ _ e
theorem KTE.upd {H : Hp} {D : Addr} {ls : List V} {o : HO} (hD : H D = some (.lst ls)) : KTE H (upd H D o) := fun z ys e => by
  rw [upd_ne (ne_of e hD (fun q => nomatch q))]
  exact e
theorem KTE.keepX {p : Addr} {H H' : Hp} (po : PoolO (H p)) (k : KeepX p H H') : KTE H H' := fun z ys e => by
  obtain ⟨a, b, c, hp, _⟩ := po
  exact k z _ (ne_of e hp (fun q => nomatch q)) e
theorem KTE.trans {A B C : Hp} (h : KTE A B) (k : KTE B C) : KTE A C := fun z ys e => k z ys (h z ys e)
theorem tupE_mono {G G' : Hp} (s : KTE G G') {xs : List V} {ls : List (List Int)} (h : Paired (TupE G) xs ls) : Paired (TupE G') xs ls := Paired.mono (fun _ _ ⟨t, e, z⟩ => ⟨t, e, s _ _ z⟩) h
theorem tupE_I {K : PySem.W.Frag} {G : Hp} {xs : List V} {ls : List (List Int)} (h : Paired (TupE G) xs ls) : Paired (TupI K G) xs ls := Paired.mono (fun _ _ ⟨t, e, z⟩ => ⟨t, e, SqT.of z⟩) h
def spOrdersE : Sp := fun xs H Q _ => ∃ n : Nat, xs = [.int (n : Nat)] ∧ n ≤ 6 ∧ ∀ H' F ys, Same H H' → H' F = some (.lst ys) → Paired (TupE H') ys (ordI n) → Q (.ref F) H'
section
variable {P : Program} {w : World} {K : PySem.W.Frag} {mg : Str → Option Value} {base : Heap}
theorem ok_ordersE {f : Addr} {fd : FuncData} (F : Fun K "_law_orders" "_law_orders" sOrders f fd) (mr : mg "range" = none) (ml : mg "len" = none) : FnOk P w K mg base CX0 1 f fd ["_law_size"] spOrdersE := by
  refine F.ok scOrders (fun vs H Q E h => ?_) (fun cdv A outer s H vs Q E hr h => ?_)
  · obtain ⟨n, rfl, _⟩ := h
    rfl
  · obtain ⟨n, rfl, hn, q⟩ := h
    have nd := scOrders.nd
    refine ⟨_, pss_cons (ps_set (i := 1) nd rfl (.inl rfl) (pe_lst (pa_cons (pe_tup pa_nil) pa_nil)))
      (pss_cons (ps_for PassesOwn.never rfl (pi_range2 (by rfl) mr (pa_cons pe_int (pa_cons (pe_op op_add (pv 0) pe_int) pa_nil))) (pg_name (i := 2) nd rfl (.inr rfl))
        (pss_cons (ps_set (i := 3) nd rfl (.inl rfl) (pe_lst pa_nil))
        (pss_cons (ps_for PassesOwn.never rfl (pi_list (pv 1)) (pg_name (i := 4) nd rfl (.inr rfl))
          (pss_one (ps_expr (pe_bm PySem.F.plainAttrs_list PySem.F.slot_list_extend PySem.F.type_list_extend mt_extend (pv 3) (pa_cons
            (pe_lc (own := [("_law_k", 5)]) (g := gName 5) (tt := tYes) rfl nd (pi_range1 (by rfl) mr (pa_cons (pe_op op_add (pe_callB call_len_seq (by rfl) ml PySem.boot_len (pa_cons (pv 4) pa_nil)) pe_int) pa_nil)) (blkOk_by (N := nOrders) (sc := defScope sOrders) (by decide +kernel))
              (fun _ _ _ _ _ => pg_name (i := 5) nd rfl (Or.inl rfl)) (fun _ _ _ _ _ => pts_nil)
              (fun _ _ _ _ _ => pe_op (r := rCatA K) op_catA (pe_op (r := rCatA K) op_catA (pe_slice (r := rSlA K) sl_tupA (pv 4) po_none (po_some (pv 5))) (pe_tup (pa_cons (pv 2) pa_nil))) (pe_slice (r := rSlA K) sl_tupA (pv 4) (po_some (pv 5)) po_none))) pa_nil)))))
        (pss_one (ps_set (i := 1) nd rfl (.inl rfl) (pv 3))))))
      (pss_one (ps_ret (pv 1)))), ?_⟩
    refine ⟨(by show 0 ≤ sizeLine; decide), fun T0 n0 => ?_⟩
    have s0 := same_new (o := .tup []) n0
    refine ⟨(by show 1 ≤ sizeLine; decide), fun F0 nF0 => ?_⟩
    have s1 := same_new (o := .lst [.ref T0]) nF0
    refine ⟨_, rfl, _, _, rfl, rfl, 1, (n : Int) + 1, rfl, ⟨by omega, by omega, by omega, by omega⟩, for_range (lo := 1) (n := ((n : Int) + 1 - 1).toNat) (fun i σ G => ∃ (F : Addr) (ys : List V) (y2 y3 y4 : Option V), σ = [some (.int (n : Nat)), some (.ref F), y2, y3, y4, none] ∧
      Same H G ∧ G F = some (.lst ys) ∧ Paired (TupE G) ys (ordI i)) ?_ ?_ ?_⟩
    · exact ⟨F0, [.ref T0], none, none, none, rfl, s0.trans s1, upd_same, .cons ⟨T0, rfl, s1 _ _ upd_same⟩ .nil⟩
    · rintro i σ G hi ⟨F, ys, y2, y3, y4, rfl, sG, hF, hy⟩
      have hi' : i < n := by omega
      have f1 := fac_le (n := i + 1) (by omega)
      have hyl := Paired.length hy
      rw [len_ord] at hyl
      have hfac : facN (i + 1) = facN i * (i + 1) := rfl
      refine ⟨(by show 0 ≤ sizeLine; decide), fun L nL => ?_⟩
      have sL := same_new (o := .lst []) nL
      have nFL : F ≠ L := ne_of_none hF nL
      refine ⟨_, rfl, F, rfl, ⟨_, SqL.of (sL _ _ hF)⟩, for_list (K := K) (a := F) (xs := ys) (fun j σ G' => ∃ (ls : List V) (y4 : Option V), σ = [some (.int (n : Nat)), some (.ref F), some (.int (1 + (i : Int))), some (.ref L), y4, none] ∧ (∀ b o, b ≠ L → G b = some o → G' b = some o) ∧ G' L = some (.lst ls) ∧
        Paired (TupE G') ls (((ordI i).take j).flatMap (insAll (1 + (i : Int))))) ?_ ?_ ?_ ?_⟩
      · exact ⟨[], y4, rfl, fun b o n e => sL b o e, upd_same, .nil⟩
      · rintro j σ G' _ ⟨ls, _, _, k', _⟩
        exact SqL.of (k' _ _ nFL hF)
      · rintro j x σ G' hj ⟨ls, y4, rfl, k', hL, hq⟩
        obtain ⟨l, hlj, t, rfl, ht⟩ := paired_get hy hj
        have sm : Same G G' := fun b o e => k' b o (ne_of_none e nL) e
        have hll := ord_len (List.mem_of_getElem? hlj)
        have ht' : SqT K G' t (l.map V.int) := SqT.of (sm _ _ ht)
        have lsl : ls.length = (List.take j (ordI i)).length * (i + 1) := by
          rw [Paired.length hq]
          exact flat_len fun m hm => ord_len (List.mem_of_mem_take hm)
        have tj : (List.take j (ordI i)).length ≤ facN i := by
          rw [← len_ord, List.length_take]
          omega
        have lsb : ls.length ≤ 720 := by
          rw [lsl]
          exact Nat.le_trans (Nat.mul_le_mul_right _ tj) (by omega)
        refine ⟨_, rfl, .inl ⟨rfl, _, SqL.of hL⟩, _, rfl, t, _, rfl, .inr ht', _, _, rfl, rfl, _, rfl, by rw [List.length_map]; omega, by rw [List.length_map]; omega, fun D nD => ?_⟩
        have nLD : L ≠ D := ne_of_none hL nD
        have en : (((l.map V.int).length : Int) + 1).toNat = l.length + 1 := by
          rw [List.length_map]
          omega
        rw [en]
        refine lc_range (lo := 0) (n := l.length + 1) (fun k G2 => ∃ acc : List V, G2 D = some (.lst acc) ∧ Paired (TupE G2) acc ((List.range k).map (insAt l (1 + (i : Int)))) ∧ (∀ b o, b ≠ D → G' b = some o → G2 b = some o)) ?_ ?_ ?_
        · exact ⟨[], upd_same, .nil, fun b o n e => by rw [upd_ne n]; exact e⟩
        · rintro k G2 hk ⟨acc, a1, a2, a3⟩
          have s2 : Same G' G2 := fun b o e => a3 b o (ne_of_none e nD) e
          have ht2 := same_seqT s2 ht'
          have al : acc.length = k := by rw [Paired.length a2, List.length_map, List.length_range]
          refine ⟨rfl, _, rfl, _, rfl, _, rfl, ?_⟩
          rw [Int.zero_add]
          refine slTo_ok2 (n := k) ht2 (by rw [List.length_map]; omega) (fun G3 u t3 hu => ?_)
          refine ⟨_, rfl, (by show 1 ≤ sizeLine; decide), fun Z nZ => ?_⟩
          have t4 := same_new (o := .tup [.int (1 + (i : Int))]) nZ
          refine catL_ok (same_seqT t4 hu) upd_same (by simp) (by rw [List.length_take, List.length_map]; show min k l.length + 1 ≤ 64; omega) (fun G5 v t5 hv => ?_)
          refine ⟨_, rfl, _, rfl, _, rfl, ?_⟩
          dsimp only [tNoPart]
          refine slFrom_ok2 (n := k) (same_seqT ((t3.trans t4).trans t5) ht2) (by rw [List.length_map]; omega) (fun G6 x t6 hx => ?_)
          refine catR_ok (t6 _ _ hv) hx (by simp) (by rw [List.length_append, List.length_take, List.length_drop, List.length_map]; show min k l.length + 1 + (l.length - k) ≤ 64; omega) (fun G7 y t7 hy' => ?_)
          have s7 := (((t3.trans t4).trans t5).trans t6).trans t7
          have hD7 := s7 _ _ a1
          refine ⟨acc, hD7, by rw [sizeLine_eq]; omega, acc ++ [.ref y], upd_same, ?_, fun b o n e => by rw [upd_ne n]; exact s7 _ _ (a3 b o n e)⟩
          rw [List.range_succ, List.map_append]
          refine paired_append (tupE_mono ((KTE.of_same s7).trans (KTE.upd hD7)) a2) (.cons ⟨y, rfl, KTE.upd hD7 _ _ ?_⟩ .nil)
          have ee : (insAt l (1 + (i : Int)) k).map V.int = List.take k (l.map V.int) ++ [V.int (1 + (i : Int))] ++ List.drop k (l.map V.int) := by
            unfold insAt
            rw [List.map_append, List.map_append, List.map_take, List.map_drop]
            rfl
          rw [ee]
          exact hy'
        · rintro G2 ⟨acc, a1, a2, a3⟩
          have s2 : Same G' G2 := fun b o e => a3 b o (ne_of_none e nD) e
          have al : acc.length = l.length + 1 := by rw [Paired.length a2, List.length_map, List.length_range]
          have hL2 := s2 _ _ hL
          refine ⟨L, D, ls, acc, rfl, rfl, hL2, a1, by rw [sizeLine_eq]; omega, ?_⟩
          refine ⟨ls ++ acc, _, rfl, fun b o n e => by rw [upd_ne n]; exact s2 _ _ (k' b o n e), upd_same, ?_⟩
          rw [List.take_add_one, hlj, List.flatMap_append]
          refine tupE_mono (KTE.upd hL2) (paired_append (tupE_mono (.of_same s2) hq) ?_)
          show Paired (TupE G2) acc (insAll (1 + (i : Int)) l ++ [])
          rw [List.append_nil]
          exact a2
      · rintro σ G' ⟨ls, y4, rfl, k', hL, hq⟩
        rw [Paired.length hy, List.take_length] at hq
        have sm : Same G G' := fun b o e => k' b o (ne_of_none e nL) e
        exact ⟨_, rfl, L, ls, _, _, _, rfl, sG.trans sm, hL, hq⟩
    · rintro σ G ⟨F, ys, y2, y3, y4, rfl, sG, hF, hy⟩
      have en : ((n : Int) + 1 - 1).toNat = n := by omega
      rw [en] at hy
      exact ⟨_, rfl, q G F ys sG hF hy⟩
end
end KS
namespace KS
open PySem PySem.Spec PyProof.Rows L2
/-! ### tuples of ints as keys of a dict that counts -/
def keyI (k : List Int) : List L2.Key := k.map fun n : Int => Sum.inl n
theorem keyI_inj {a b : List Int} : keyI a = keyI b ↔ a = b := by
  refine ⟨fun h => ?_, fun h => by rw [h]⟩
  induction a generalizing b with
  | nil =>
    cases b with
    | nil => rfl
    | cons y b => cases h
  | cons x a ih =>
    cases b with
    | nil => cases h
    | cons y b =>
      have h : Sum.inl x :: keyI a = Sum.inl y :: keyI b := h
      injection h with h1 h2
      rw [ih h2, Sum.inl.inj h1]
theorem keyI_kV (k : List Int) : (keyI k).map kV = k.map V.int := by
  unfold keyI
  rw [List.map_map]
  rfl
abbrev PDI := List (List Int × Nat)
def hasI : PDI → List Int → Bool
  | [], _ => false
  | p :: d, k => if p.1 = k then true else hasI d k
def getC : PDI → List Int → Nat
  | [], _ => 0
  | p :: d, k => if p.1 = k then p.2 else getC d k
def putI (d : PDI) (k : List Int) (n : Nat) : PDI := if hasI d k = true then d.map fun p => if p.1 = k then (p.1, n) else p else d ++ [(k, n)]
def addI (d : PDI) (k : List Int) : PDI := putI d k (getC d k + 1)
def imgI (d : PDI) : List (List L2.Key × V) := d.map fun p => (keyI p.1, V.int (p.2 : Int))
theorem imgI_get : ∀ (d : PDI) (k : List Int), valV (imgI d) (keyI k) = if hasI d k = true then some (V.int (getC d k)) else none
  | [], k => rfl
  | p :: d, k => by
    have ih := imgI_get d k
    by_cases e : p.1 = k
    · show valV ((keyI p.1, V.int (p.2 : Int)) :: imgI d) (keyI k) = _
      rw [valV_pos (keyI_inj.mpr e), hasI, getC, if_pos e, if_pos e]
      rfl
    · show valV ((keyI p.1, V.int (p.2 : Int)) :: imgI d) (keyI k) = _
      rw [valV_neg (fun q => e (keyI_inj.mp q)), hasI, getC, if_neg e, if_neg e]
      exact ih
theorem getI_not : ∀ (d : PDI) (k : List Int), hasI d k = false → getC d k = 0
  | [], _, _ => rfl
  | p :: d, k, h => by
    rw [hasI] at h
    rw [getC]
    by_cases e : p.1 = k
    · rw [if_pos e] at h
      cases h
    · rw [if_neg e] at h ⊢
      exact getI_not d k h
theorem imgI_getD (d : PDI) (k : List Int) : (valV (imgI d) (keyI k)).getD (V.int 0) = V.int (getC d k) := by
  rw [imgI_get]
  cases e : hasI d k with
  | true => rfl
  | false =>
    rw [getI_not d k e]
    rfl
theorem hasI_any : ∀ (d : PDI) (k : List Int), ((imgI d).any fun kv => decide (kv.1 = keyI k)) = hasI d k
  | [], _ => rfl
  | p :: d, k => by
    show ((keyI p.1, V.int (p.2 : Int)) :: imgI d).any _ = _
    rw [List.any_cons, hasI_any d k, hasI]
    by_cases e : p.1 = k
    · rw [if_pos e, e]
      simp
    · rw [if_neg e]
      simp [keyI_inj, e]
theorem imgI_put (d : PDI) (k : List Int) (n : Nat) : putK (imgI d) (keyI k) (V.int n) = imgI (putI d k n) := by
  unfold putK putI
  rw [hasI_any]
  cases hasI d k with
  | true =>
    rw [if_pos rfl, if_pos rfl]
    unfold imgI
    rw [List.map_map, List.map_map]
    refine List.map_congr_left fun p _ => ?_
    show (if keyI p.1 = keyI k then (keyI p.1, V.int (n : Int)) else (keyI p.1, V.int (p.2 : Int))) = (keyI (if p.1 = k then (p.1, n) else p).1, V.int ((if p.1 = k then (p.1, n) else p).2 : Int))
    by_cases e : p.1 = k
    · rw [if_pos e, if_pos (keyI_inj.mpr e)]
    · rw [if_neg e, if_neg (fun q => e (keyI_inj.mp q))]
  | false =>
    rw [if_neg (by decide), if_neg (by decide)]
    unfold imgI
    rw [List.map_append]
    rfl
theorem imgI_len (d : PDI) : (imgI d).length = d.length := List.length_map ..
theorem putI_len (d : PDI) (k : List Int) (n : Nat) : (putI d k n).length ≤ d.length + 1 := by
  unfold putI
  split
  · rw [List.length_map]
    exact Nat.le_succ _
  · rw [List.length_append]
    exact Nat.le_refl _
theorem getC_put : ∀ (d : PDI) (k : List Int) (n : Nat) (m : List Int), getC (putI d k n) m = if k = m then n else getC d m := by
  intro d k n m
  unfold putI
  cases h : hasI d k with
  | false =>
    rw [if_neg (by decide)]
    induction d with
    | nil =>
      rfl
    | cons p d ih =>
      rw [hasI] at h
      have ne : ¬p.1 = k := fun e => by rw [if_pos e] at h; cases h
      rw [if_neg ne] at h
      show getC (p :: (d ++ [(k, n)])) m = _
      rw [getC, getC, ih h]
      by_cases e : p.1 = m
      · rw [if_pos e, if_pos e, if_neg (fun z => ne (e.trans z.symm))]
      · rw [if_neg e, if_neg e]
  | true =>
    rw [if_pos rfl]
    induction d with
    | nil => cases h
    | cons p d ih =>
      show getC ((if p.1 = k then (p.1, n) else p) :: d.map _) m = _
      by_cases ek : p.1 = k
      · rw [if_pos ek, getC, getC]
        by_cases e : p.1 = m
        · rw [if_pos e, if_pos (ek.symm.trans e)]
        · rw [if_neg e, if_neg (fun z => e (ek.trans z)), if_neg e]
          -- the rest holds no k or is left alone at m
          have key : ∀ d : PDI, getC (d.map fun p => if p.1 = k then (p.1, n) else p) m = getC d m := by
            intro d
            induction d with
            | nil => rfl
            | cons q d ih2 =>
              show getC ((if q.1 = k then (q.1, n) else q) :: d.map _) m = _
              by_cases eq : q.1 = k
              · rw [if_pos eq, getC, getC]
                have nq : ¬q.1 = m := fun z => e (ek.trans (eq.symm.trans z))
                rw [if_neg nq, if_neg nq]
                exact ih2
              · rw [if_neg eq, getC, getC, ih2]
          exact key d
      · rw [if_neg ek, getC, getC]
        rw [hasI, if_neg ek] at h
        rw [ih h]
        by_cases e : p.1 = m
        · rw [if_pos e, if_pos e, if_neg (fun z => ek (e.trans z.symm))]
        · rw [if_neg e, if_neg e]
theorem count_addI : ∀ (ks : List (List Int)) (d : PDI) (m : List Int), getC (ks.foldl addI d) m = getC d m + ks.count m
  | [], d, m => by rw [List.count_nil]; rfl
  | k :: ks, d, m => by
    show getC (ks.foldl addI (addI d k)) m = _
    rw [count_addI ks, addI, getC_put, List.count_cons]
    by_cases e : k = m
    · subst e
      simp
      omega
    · rw [if_neg e, if_neg (by simpa using e)]
      omega
theorem addI_len (ks : List (List Int)) : ∀ d : PDI, (ks.foldl addI d).length ≤ d.length + ks.length := by
  induction ks with
  | nil => intro d; exact Nat.le_refl _
  | cons k ks ih =>
    intro d
    refine Nat.le_trans (ih _) ?_
    have := putI_len d k (getC d k + 1)
    show (putI d k (getC d k + 1)).length + ks.length ≤ d.length + (ks.length + 1)
    omega
end KS
namespace KS
open PySem PySem.Spec PyProof.Rows L2
/-! ### list(range(a, b, c)) -/
def rg3V (i k : Int) (n : Nat) : List V := (List.range n).map fun m : Nat => V.int (i + (m : Int) * k)
theorem vals_rg3 {i k : Int} {n : Nat} {acc : Array Value} (h : ItemsOf (fun m v => ∃ t, v = .int (i + m * k) t) acc n) : Vals (rg3V i k n) acc.toList := by
  have e : acc.toList.length = n := by rw [Array.length_toList]; exact h.1
  unfold rg3V
  rw [← e]
  refine vals_of_get acc.toList _ fun j u hj => ?_
  obtain ⟨t, rfl⟩ := h.2 j u (by rw [← hj, Array.getElem?_toList])
  exact ⟨t, rfl⟩
def PRg3 (X : Cx) (e : Expr) (ta : TA) : Prop :=
  ∀ (pins : List (Addr × Obj)) (s : Shared) (σ : L2.St) (H : Hp) (Q : Int → Int → Nat → Hp → Prop), Inv X pins σ H s → (ta σ H fun vs H1 => ∃ (i j k : Int) (n : Nat), vs = [.int i, .int j, .int k] ∧ RgC i j k n ∧ Q i k n H1) →
    wpAny (model X.prog X.w) X.A (eval e X.env) (fun x s' => ∃ r i j k n t u v H', x = .ref r ∧ IsRange s'.heap r i j k t u v ∧ RgC i j k n ∧ Inv X pins σ H' s' ∧ Q i k n H') X.xe s
section
variable {X : Cx}
theorem prg_3 {a b c : Expr} {ta : TA} {p pos : Pos} (hg : Gl X "range") (hm : X.mg "range" = none) (ha : PA X [a, b, c] ta)
    (hs : starEach [a, b, c] X.env = (false, eval a X.env) :: starEach [b, c] X.env := by rfl) (hpl : (backTo pos (starEach [b, c] X.env)).any (·.1) = false := by rfl) : PRg3 X (.Call (.Name "range" p) [a, b, c] [] pos) ta := by
  intro pins s σ H Q I h
  refine Call_ (ld_blt I hg hm boot_range (PyProof.Rows.callWith_type1 (thn (ha.run pos pins s σ H _ I h) fun us s1 ⟨vs, H1, I1, r1, q1⟩ => ?_) hs hpl))
  obtain ⟨i, j, k, n, e, ⟨c0, c1, c2, c3⟩, q⟩ := q1
  subst e
  cases r1 with
  | cons r rr =>
    cases rr with
    | cons r' rr =>
      cases rr with
      | cons r'' rr =>
        cases rr
        obtain ⟨t, rfl⟩ := r
        obtain ⟨t', rfl⟩ := r'
        obtain ⟨t'', rfl⟩ := r''
        refine call_range_3 c0 ?_ (.inl (PyProof.noPylong_small c1))
        exact ⟨_, i, j, k, n, _, _, _, H1, rfl, IsRange.new .., ⟨c0, c1, c2, c3⟩, I1.kept fun b o e => Heap.get?_push_of_some _ e, q⟩
def tLstRg3 (ta : TA) : TE := fun σ H Q => ta σ H fun vs H1 => ∃ (i j k : Int) (n : Nat), vs = [.int i, .int j, .int k] ∧ RgC i j k n ∧ (n ≤ 2 ^ 20 ∧ ∀ q, H1 q = none → Q (.ref q) (upd H1 q (.lst (rg3V i k n))))
theorem pe_listRg3 {e : Expr} {ta : TA} {p pos : Pos} (hc : X.calm = true) (hg : Gl X "list") (hm : X.mg "list" = none) (he : PRg3 X e ta) (na : starEach [e] X.env = (false, eval e X.env) :: starEach [] X.env := by rfl) : PE X (.Call (.Name "list" p) [e] [] pos) (tLstRg3 ta) := by
  refine ⟨fun pins s σ H Q I h => ?_⟩
  refine Call_ (ld_blt I hg hm boot_list (PyProof.Rows.callWith_type1 (args_cons (thn (he pins s σ H (fun i k n H1 => n ≤ 2 ^ 20 ∧ ∀ q, H1 q = none → Q (.ref q) (upd H1 q (.lst (rg3V i k n)))) I h) fun x s1 ⟨r, i, j, k, n, t, u, v, H1, ex, hr, ⟨c0, c1, c2, c3⟩, I1, ok, q⟩ => args_nil ?_) na) na))
  subst ex
  refine call_list_range (n := n) (I1.ok.hd hc) hr c2 c3 (Nat.le_trans ok (by decide)) fun h' tk acc c' hk e' hi => ?_
  refine ⟨.ref s1.heap.objs.size, upd H1 s1.heap.objs.size (.lst (rg3V i k n)), I1.laid hk (Nat.le_refl _) (show ObjOk X.prog X.w _ _ _ (.lst (rg3V i k n)) from ⟨?_, acc.toList, c', vals_rg3 hi, ?_⟩), rfl, q _ (I1.hok.fresh (Nat.le_refl _))⟩
  · unfold rg3V
    rw [List.length_map, List.length_range, sizeLine_eq]
    have : (2 : Nat) ^ 20 = 1048576 := by decide
    omega
  · rw [Array.toArray_toList]
    exact e'
end
end KS
namespace KS
open PySem PySem.Spec PyProof.Rows L2
def LstN (H H' : Hp) (x : V) (l : List Int) : Prop := ∃ t, x = .ref t ∧ H' t = some (.lst (l.map V.int)) ∧ H t = none
/-- the law's own lines: new lists -/
def spLawLinesN (K : PySem.W.Frag) : Sp := fun vs H Q _ => ∃ (a : Addr) (b : Bool) (cs : List Cell), vs = [.ref a, .str (if b = true then "C" else "R")] ∧ PlanAt K H a cs ∧ cs.length ≤ 24 ∧
  ∀ H' p xs, Same H H' → H' p = some (.lst xs) → H p = none → Paired (LstN H H') xs (lnsOf b cs) → Q (.ref p) H'
abbrev nLawLines : List Str := ["_law_spots", "_law_sort", "_law_at", "_law_found", "_law_side", "_law_strip", "_law_k"]
section
variable {P : Program} {w : World} {K : PySem.W.Frag} {mg : Str → Option Value} {base : Heap}
end
end KS
namespace KS
open PySem PySem.Spec PyProof.Rows L2
/-- the law's own strips, as indexes -/
def ixL (b : Bool) (r c : Nat) : List (List Int) :=
  if b = true then (List.range c).map fun j => (List.range r).map fun i => (((j + i * c : Nat)) : Int)
  else (List.range r).map fun i => (List.range c).map fun j => (((j + i * c : Nat)) : Int)
def spStrips51 (K : PySem.W.Frag) : Sp := fun xs H Q _ => ∃ (r c : Nat) (b : Bool), xs = [.int (r : Nat), .int (c : Nat), .str (if b = true then "C" else "R")] ∧ Sides r c ∧ ∀ H' L ys, Same H H' → H' L = some (.lst ys) → H L = none → Paired (LstN H H') ys (ixL b r c) → Q (.ref L) H'
abbrev sStrips : Stmt := topS 28
abbrev nStrips51 : List Str := ["_law_high", "_law_wide", "_law_sort", "_law_start"]
theorem scStrips51 : FnScope nStrips51 ["_law_high", "_law_wide", "_law_sort"] (defScope sStrips) := ⟨rfl, rfl, rfl, by decide +kernel, rfl, by decide +kernel, by decide +kernel⟩
theorem rg_row {i c : Nat} {a b : Int} (ha : a = ((i * c : Nat) : Int)) (hb : b = a + ((c : Nat) : Int)) : rgV a b = ((List.range c).map fun j => (((j + i * c : Nat)) : Int)).map V.int := by
  unfold rgV
  have e : (b - a).toNat = c := by omega
  rw [e, List.map_map]
  refine List.map_congr_left fun j _ => ?_
  show V.int (a + (j : Int)) = V.int (((j + i * c : Nat)) : Int)
  congr 1
  rw [ha]
  omega
theorem rg_col {j r c : Nat} {a k : Int} (ha : a = ((j : Nat) : Int)) (hk : k = ((c : Nat) : Int)) : rg3V a k r = ((List.range r).map fun i => (((j + i * c : Nat)) : Int)).map V.int := by
  unfold rg3V
  rw [List.map_map]
  refine List.map_congr_left fun i _ => ?_
  show V.int (a + (i : Int) * k) = V.int (((j + i * c : Nat)) : Int)
  congr 1
  rw [ha, hk, Int.natCast_add, Int.natCast_mul]
theorem rg_all2 : ((List.range 25).all fun r => (List.range 25).all fun c => decide (24 < r * c) || decide (r = 0) || (List.range c).all fun j => (Builtin.Range.small ((j : Nat) : Int) ((r * c : Nat) : Int) (c : Int) && decide (Builtin.Range.rangeSize ((j : Nat) : Int) ((r * c : Nat) : Int) (c : Int) = ((r : Nat) : Int)))) = true := by decide +kernel
theorem rgc_col {j r c : Nat} (hj : j < c) (sd : Sides r c) : RgC ((j : Nat) : Int) ((r * c : Nat) : Int) ((c : Nat) : Int) r := by
  have hl := sd.le
  have h24 := sd.rc
  have hr := sd.r1
  have h1 := List.all_eq_true.mp rg_all2 r (List.mem_range.mpr (by omega))
  have h2 := List.all_eq_true.mp h1 c (List.mem_range.mpr (by omega))
  rw [Bool.or_eq_true, Bool.or_eq_true, decide_eq_true_eq, decide_eq_true_eq, List.all_eq_true] at h2
  rcases h2 with (z | z) | z
  · omega
  · omega
  · have := z j (List.mem_range.mpr hj)
    rw [Bool.and_eq_true, decide_eq_true_eq] at this
    exact ⟨by omega, by omega, this.1, this.2⟩
section
variable {P : Program} {w : World} {K : PySem.W.Frag} {mg : Str → Option Value} {base : Heap}
theorem ok_strips51 {f : Addr} {fd : FuncData} (F : Fun K "_law_strips" "_law_strips" sStrips f fd) (mr : mg "range" = none) (mL : mg "list" = none) : FnOk P w K mg base CX0 1 f fd ["_law_high", "_law_wide", "_law_sort"] (spStrips51 K) := by
  refine F.ok scStrips51 (fun vs H Q E h => ?_) (fun cdv A outer s H vs Q E hr h => ?_)
  · obtain ⟨r, c, b, rfl, _⟩ := h
    rfl
  · obtain ⟨r, c, b, rfl, sd, q⟩ := h
    have nd := scStrips51.nd
    have sl := sd.le
    have s3 := sd.rc
    refine ⟨_, pss_cons (ps_if (pt_cmpR op_eq (pv 2) pe_str (nomark _)) (pss_one (ps_ret
        (pe_lc (own := [("_law_start", 3)]) (g := gName 3) (tt := tYes) rfl nd (pi_range3 (by rfl) mr (pa_cons pe_int (pa_cons (pe_op op_mul (pv 0) (pv 1)) (pa_cons (pv 1) pa_nil)))) (blkOk_by (N := nStrips51) (sc := defScope sStrips) (by decide +kernel))
          (fun _ _ _ _ _ => pg_name (i := 3) nd rfl (Or.inl rfl)) (fun _ _ _ _ _ => pts_nil)
          (fun _ _ _ _ _ => pe_listRg rfl (by rfl) mL (prg_2 (by rfl) mr (pv 3) (pe_op op_add (pv 3) (pv 1))))))) pss_nil)
      (pss_one (ps_ret
        (pe_lc (own := [("_law_start", 3)]) (g := gName 3) (tt := tYes) rfl nd (pi_range1 (by rfl) mr (pa_cons (pv 1) pa_nil)) (blkOk_by (N := nStrips51) (sc := defScope sStrips) (by decide +kernel))
          (fun _ _ _ _ _ => pg_name (i := 3) nd rfl (Or.inl rfl)) (fun _ _ _ _ _ => pts_nil)
          (fun _ _ _ _ _ => pe_listRg3 rfl (by rfl) mL (prg_3 (by rfl) mr (pa_cons (pv 3) (pa_cons (pe_op op_mul (pv 0) (pv 1)) (pa_cons (pv 1) pa_nil)))))))), ?_⟩
    have hm : ((r : Nat) : Int) * ((c : Nat) : Int) = ((r * c : Nat) : Int) := by rw [Int.natCast_mul]
    cases b with
    | false =>
      refine ⟨_, rfl, rfl, _, rfl, iteT ?_⟩
      refine ⟨_, rfl, _, rfl, _, _, rfl, rfl, .inr ⟨by omega, by omega⟩, _, rfl, _, _, _, r, rfl, by rw [hm]; exact rg_step sd, fun D nD => ?_⟩
      refine lc_it walk_rangeC (fun i G => ∃ ys, G D = some (.lst ys) ∧ Paired (fun x l => ∃ t, x = .ref t ∧ G t = some (.lst (l.map V.int)) ∧ t ≠ D ∧ H t = none) ys ((ixL false r c).take i) ∧ (∀ b o, b ≠ D → H b = some o → G b = some o)) ?_ ?_ ?_ ?_
      · exact ⟨[], upd_same, .nil, fun b o n e => by rw [upd_ne n]; exact e⟩
      · intros
        trivial
      · rintro i x G0 G hi ⟨ys, a1, a2, a3⟩ ⟨rfl, rfl⟩
        have yl := Paired.length a2
        rw [List.length_take] at yl
        have hic : i * c ≤ 24 := Nat.le_trans (Nat.mul_le_mul_right c (Nat.le_of_lt hi)) s3
        have ea : (0 : Int) + ((i : Nat) : Int) * ((c : Nat) : Int) = ((i * c : Nat) : Int) := by rw [Int.zero_add, Int.natCast_mul]
        refine ⟨rfl, _, rfl, _, rfl, _, rfl, _, _, rfl, rfl, _, _, rfl, rfl, RgOk.of_le (by rw [ea]; omega) (by rw [ea]; omega) (by rw [ea]; omega) (by rw [ea]; omega), fun u nu => ?_⟩
        rw [rg_row ea rfl]
        have su := same_new (o := .lst (((List.range c).map fun j => (((j + i * c : Nat)) : Int)).map V.int)) nu
        have hD := su _ _ a1
        have nDu : D ≠ u := ne_of_none a1 nu
        refine ⟨ys, hD, by rw [sizeLine_eq]; omega, ys ++ [.ref u], upd_same, ?_, fun b o n e => by rw [upd_ne n]; exact su _ _ (a3 b o n e)⟩
        have gi : (ixL false r c)[i]? = some ((List.range c).map fun j => (((j + i * c : Nat)) : Int)) := by
          unfold ixL
          rw [if_neg (by decide), List.getElem?_map, List.getElem?_range hi]
          rfl
        rw [List.take_add_one, gi]
        refine paired_append (Paired.mono (fun _ _ ⟨t, e1, e2, e3⟩ => ⟨t, e1, by rw [upd_ne e3.1]; exact su _ _ e2, e3⟩) a2) (.cons ⟨u, rfl, by rw [upd_ne (Ne.symm nDu)]; exact upd_same, Ne.symm nDu, Same.free (fun b o e => a3 b o (ne_of_none e nD) e) nu⟩ .nil)
      · rintro G ⟨ys, a1, a2, a3⟩
        have el : (ixL false r c).length = r := by unfold ixL; rw [if_neg (by decide), List.length_map, List.length_range]
        rw [List.take_of_length_le (by omega)] at a2
        exact q G D ys (fun b o e => a3 b o (ne_of_none e nD) e) a1 nD (Paired.mono (fun _ _ ⟨t, e1, e2, e3⟩ => ⟨t, e1, e2, e3.2⟩) a2)
    | true =>
      refine ⟨_, rfl, rfl, _, rfl, iteF ?_⟩
      refine ⟨_, rfl, _, rfl, by omega, by omega, fun D nD => ?_⟩
      refine lc_range (lo := 0) (n := ((c : Nat) : Int).toNat) (fun i G => ∃ ys, G D = some (.lst ys) ∧ Paired (fun x l => ∃ t, x = .ref t ∧ G t = some (.lst (l.map V.int)) ∧ t ≠ D ∧ H t = none) ys ((ixL true r c).take i) ∧ (∀ b o, b ≠ D → H b = some o → G b = some o)) ?_ ?_ ?_
      · exact ⟨[], upd_same, .nil, fun b o n e => by rw [upd_ne n]; exact e⟩
      · rintro i G hi ⟨ys, a1, a2, a3⟩
        rw [Int.toNat_natCast] at hi
        have yl := Paired.length a2
        rw [List.length_take] at yl
        refine ⟨rfl, _, rfl, _, rfl, _, rfl, _, _, rfl, rfl, .inr ⟨by omega, by omega⟩, _, rfl, _, _, _, r, rfl, by rw [Int.zero_add, hm]; exact rgc_col hi sd, by omega, fun u nu => ?_⟩
        rw [rg_col (j := i) (c := c) (Int.zero_add _) rfl]
        have su := same_new (o := .lst (((List.range r).map fun i2 => (((i + i2 * c : Nat)) : Int)).map V.int)) nu
        have hD := su _ _ a1
        have nDu : D ≠ u := ne_of_none a1 nu
        refine ⟨ys, hD, by rw [sizeLine_eq]; omega, ys ++ [.ref u], upd_same, ?_, fun b o n e => by rw [upd_ne n]; exact su _ _ (a3 b o n e)⟩
        have gi : (ixL true r c)[i]? = some ((List.range r).map fun i2 => (((i + i2 * c : Nat)) : Int)) := by
          unfold ixL
          rw [if_pos rfl, List.getElem?_map, List.getElem?_range hi]
          rfl
        rw [List.take_add_one, gi]
        refine paired_append (Paired.mono (fun _ _ ⟨t, e1, e2, e3⟩ => ⟨t, e1, by rw [upd_ne e3.1]; exact su _ _ e2, e3⟩) a2) (.cons ⟨u, rfl, by rw [upd_ne (Ne.symm nDu)]; exact upd_same, Ne.symm nDu, Same.free (fun b o e => a3 b o (ne_of_none e nD) e) nu⟩ .nil)
      · rintro G ⟨ys, a1, a2, a3⟩
        have el : (ixL true r c).length = c := by unfold ixL; rw [if_pos rfl, List.length_map, List.length_range]
        rw [List.take_of_length_le (by rw [el, Int.toNat_natCast]; omega)] at a2
        exact q G D ys (fun b o e => a3 b o (ne_of_none e nD) e) a1 nD (Paired.mono (fun _ _ ⟨t, e1, e2, e3⟩ => ⟨t, e1, e2, e3.2⟩) a2)
end
end KS
namespace KS
open PySem PySem.Spec PyProof.Rows L2 RZ
theorem ix_mem {b : Bool} {r c : Nat} (sd : Sides r c) {l : List Int} (h : l ∈ ixL b r c) : (∀ k ∈ l, ∃ j : Nat, k = (j : Int) ∧ j < r * c) ∧ l.length ≤ r * c := by
  have h1 := sd.r1
  have h2 := sd.c1
  have a1 : r ≤ r * c := Nat.le_mul_of_pos_right r h2
  have a2 : c ≤ r * c := Nat.le_mul_of_pos_left c h1
  have lt : ∀ i j, i < r → j < c → j + i * c < r * c := fun i j hi hj => by
    have := Nat.mul_le_mul_right c hi
    rw [Nat.succ_mul] at this
    omega
  unfold ixL at h
  cases b with
  | false =>
    rw [if_neg (by decide)] at h
    obtain ⟨i, hi, rfl⟩ := List.mem_map.mp h
    refine ⟨fun k hk => ?_, by rw [List.length_map, List.length_range]; exact a2⟩
    obtain ⟨j, hj, rfl⟩ := List.mem_map.mp hk
    exact ⟨_, rfl, lt i j (List.mem_range.mp hi) (List.mem_range.mp hj)⟩
  | true =>
    rw [if_pos rfl] at h
    obtain ⟨j, hj, rfl⟩ := List.mem_map.mp h
    refine ⟨fun k hk => ?_, by rw [List.length_map, List.length_range]; exact a1⟩
    obtain ⟨i, hi, rfl⟩ := List.mem_map.mp hk
    exact ⟨_, rfl, lt i j (List.mem_range.mp hi) (List.mem_range.mp hj)⟩
/-- the law's own sort of a table -/
def srtR (b : Bool) (r c : Nat) (vs : List Int) : List Int := srtTo vs (ixL b r c)
def spSorted51 (K : PySem.W.Frag) : Sp := fun xs H Q _ => ∃ (r c : Nat) (t : Addr) (b : Bool) (vs : List Int), xs = [.int (r : Nat), .int (c : Nat), .ref t, .str (if b = true then "C" else "R")] ∧ Sides r c ∧ SqT K H t (vs.map V.int) ∧ vs.length = r * c ∧
  ∀ H' u, Same H H' → H' u = some (.tup ((srtR b r c vs).map V.int)) → Q (.ref u) H'
abbrev sSorted : Stmt := topS 29
abbrev nSorted51 : List Str := ["_law_high", "_law_wide", "_law_some", "_law_sort", "_law_found", "_law_strip", "_law_at", "_law_one", "_law_k"]
theorem scSorted51 : FnScope nSorted51 ["_law_high", "_law_wide", "_law_some", "_law_sort"] (defScope sSorted) := ⟨rfl, rfl, rfl, by decide +kernel, rfl, by decide +kernel, by decide +kernel⟩
section
variable {P : Program} {w : World} {K : PySem.W.Frag} {mg : Str → Option Value} {base : Heap}
theorem ok_sorted51 {f fL : Addr} {fd fdL : FuncData} (F : Fun K "_law_sorted" "_law_sorted" sSorted f fd) (GL : FnOk P w K mg base CX0 1 fL fdL ["_law_high", "_law_wide", "_law_sort"] (spStrips51 K))
    (bL : Binds K fdL ["_law_high", "_law_wide", "_law_sort"] []) (gL : mg "_law_strips" = some (.ref fL)) (kL : PySem.W.keepIn K (.ref fL) = true)
    (mL : mg "list" = none) (mz : mg "zip" = none) (ms : mg "sorted" = none) (mt : mg "tuple" = none) :
    FnOk P w K mg base CX0 2 f fd ["_law_high", "_law_wide", "_law_some", "_law_sort"] (spSorted51 K) := by
  refine F.ok scSorted51 (fun vs H Q E h => ?_) (fun cdv A outer s H vs Q E hr h => ?_)
  · obtain ⟨r, c, t, b, vs, rfl, _⟩ := h
    rfl
  · obtain ⟨r, c, t, b, vs, rfl, sd, ht, hv, q⟩ := h
    have nd := scSorted51.nd
    have hl := sd.rc
    refine ⟨_, pss_cons (ps_set (i := 4) nd rfl (.inl rfl) (pe_callTy call_list_of (by rfl) mL (by decide +kernel) (pa_cons (pv 2) pa_nil)))
      (pss_cons (ps_for PassesOwn.never rfl (pi_list (pe_call GL hr (by rfl) gL kL bL .nil pass0 (pa_cons (pv 0) (pa_cons (pv 1) (pa_cons (pv 3) pa_nil))))) (pg_name (i := 5) nd rfl (.inl rfl))
        (pss_one (ps_for PassesOwn.never rfl (pi_zip (by rfl) mz (pa_cons (pv 5) (pa_cons (pe_callB cr_sortedI (by rfl) ms (by decide +kernel) (pa_cons
            (pe_lc (own := [("_law_k", 8)]) (g := gName 8) (tt := tYes) rfl nd (pi_list (pv 5)) (blkOk_by (N := nSorted51) (sc := defScope sSorted) (by decide +kernel))
              (fun _ _ _ _ _ => pg_name (i := 8) nd rfl (Or.inl rfl)) (fun _ _ _ _ _ => pts_nil) (fun _ _ _ _ _ => pe_ix (r := rIxT K) ix_tup (pv 2) (pv 8) (fun _ _ => rfl))) pa_nil)) pa_nil)))
          (pg_tup (by rfl) (pgs_cons (pg_name (i := 6) nd rfl (.inl rfl)) (pgs_cons (pg_name (i := 7) nd rfl (.inl rfl)) pgs_nil)))
          (pss_one (ps_asg (pv 7) (pg_sub (pv 4) (pv 6) set_list))))))
      (pss_one (ps_ret (pe_callTy call_tuple_of (by rfl) mt (by decide +kernel) (pa_cons (pv 4) pa_nil))))), ?_⟩
    refine ⟨_, rfl, t, _, rfl, .inr ht, fun o no => ?_⟩
    have so := same_new (o := .lst (vs.map V.int)) no
    refine ⟨_, rfl, _, rfl, _, rfl, r, c, b, rfl, sd, fun H1 p xs s1 hp1 np hx => ?_⟩
    have npo : p ≠ o := Ne.symm (ne_of_none (H := upd H o (.lst (vs.map V.int))) upd_same np)
    refine ⟨p, rfl, ⟨_, SqL.of hp1⟩, for_list (K := K) (a := p) (xs := xs) (fun i σ H' => ∃ (y4 y5 y6 : Option V), σ = [some (.int (r : Nat)), some (.int (c : Nat)), some (.ref t), some (.str (if b = true then "C" else "R")), some (.ref o), y4, y5, y6, none] ∧
      (∀ c u, c ≠ o → H1 c = some u → H' c = some u) ∧ H' o = some (.lst ((srtTo vs ((ixL b r c).take i)).map V.int))) ?_ ?_ ?_ ?_⟩
    · exact ⟨none, none, none, rfl, fun c u _ e => e, s1 _ _ upd_same⟩
    · rintro i σ H' _ ⟨y4, y5, y6, rfl, k', ho⟩
      exact SqL.of (k' _ _ npo hp1)
    · rintro i x σ H' hi ⟨y4, y5, y6, rfl, k', ho⟩
      obtain ⟨l, hli, t', rfl, hl', hn'⟩ := paired_get hx hi
      have nto : t' ≠ o := Ne.symm (ne_of_none (H := upd H o (.lst (vs.map V.int))) upd_same hn')
      have sm : Same H H' := fun c u e => k' c u (ne_of_none e no) (s1 c u (so c u e))
      have hlt := k' _ _ nto hl'
      have hm := ix_mem sd (List.mem_of_getElem? hli)
      refine ⟨_, rfl, _, rfl, t', rfl, ⟨_, SqL.of hlt⟩, fun D nD => ?_⟩
      have ntD : t' ≠ D := ne_of_none hlt nD
      have noD : o ≠ D := ne_of_none ho nD
      refine lc_list (K := K) (a := t') (xs := l.map V.int) (fun j G => G = upd H' D (.lst (((l.take j).map (getI vs)).map V.int))) ?_ ?_ ?_ ?_
      · rfl
      · rintro j G _ rfl
        exact SqL.of (by rw [upd_ne ntD]; exact hlt)
      · rintro j x G hj rfl
        rw [List.getElem?_map] at hj
        cases ev : l[j]? with
        | none =>
          rw [ev] at hj
          cases hj
        | some k =>
          rw [ev] at hj
          cases hj
          obtain ⟨j', rfl, hj'⟩ := hm.1 k (List.mem_of_getElem? ev)
          refine ⟨rfl, _, rfl, _, rfl, t, _, _, .int (getI vs (j' : Int)), rfl, rfl, same_seqT (sm.trans (same_new nD)) ht, atI_nat (getI_at (by omega)), _, upd_same, ?_, ?_⟩
          · rw [List.length_map, List.length_map, List.length_take]
            exact small64 (by omega)
          · rw [upd_upd, List.take_add_one, ev, List.map_append, List.map_append]
            rfl
      · rintro G rfl
        rw [List.length_map, List.take_length]
        refine ⟨D, _, rfl, SqL.of upd_same, fun ys P' perm asc nP => ?_⟩
        have ey := sortI_eq perm asc
        have yl : ys.length = l.length := by
          rw [perm.length_eq, List.length_map]
        have ntP : t' ≠ P' := fun e => by
          rw [← e, upd_ne ntD, hlt] at nP
          cases nP
        have noP : o ≠ P' := fun e => by
          rw [← e, upd_ne noD, ho] at nP
          cases nP
        have sP := (same_new (o := .lst ((l.map (getI vs)).map V.int)) nD).trans (same_new (o := .lst (ys.map V.int)) nP)
        generalize hG : upd (upd H' D (.lst ((l.map (getI vs)).map V.int))) P' (.lst (ys.map V.int)) = G0 at sP
        have hP0 : G0 P' = some (.lst (ys.map V.int)) := by rw [← hG, upd_same]
        refine ⟨t', P', _, _, rfl, SqL.of (sP _ _ hlt), SqL.of hP0, for_zipL (K := K) (a := t') (b := P') (xs := l.map V.int) (ys := ys.map V.int) (by rw [List.length_map, List.length_map, yl])
          (fun j σ G => ∃ (y5 y6 : Option V), σ = [some (.int (r : Nat)), some (.int (c : Nat)), some (.ref t), some (.str (if b = true then "C" else "R")), some (.ref o), some (.ref t'), y5, y6, none] ∧
            (∀ c u, c ≠ o → G0 c = some u → G c = some u) ∧ G o = some (.lst ((putZ (srtTo vs ((ixL b r c).take i)) ((l.zip ys).take j)).map V.int))) ?_ ?_ ?_ ?_⟩
        · exact ⟨y5, y6, rfl, fun c u _ e => e, sP _ _ ho⟩
        · rintro j σ G ⟨y5, y6, rfl, kG, hoG⟩
          exact ⟨SqL.of (kG _ _ nto (sP _ _ hlt)), SqL.of (kG _ _ (Ne.symm noP) hP0)⟩
        · rintro j x y T σ G hx' hy' ⟨y5, y6, rfl, kG, hoG⟩ nT
          rw [List.getElem?_map] at hx' hy'
          cases ex : l[j]? with
          | none =>
            rw [ex] at hx'
            cases hx'
          | some k =>
            cases ey' : ys[j]? with
            | none =>
              rw [ey'] at hy'
              cases hy'
            | some v =>
              rw [ex] at hx'
              rw [ey'] at hy'
              cases hx'
              cases hy'
              obtain ⟨j', rfl, hj'⟩ := hm.1 k (List.mem_of_getElem? ex)
              have noT : o ≠ T := ne_of_none hoG nT
              refine ⟨T, _, rfl, SqT.of upd_same, rfl, _, _, rfl, _, _, rfl, rfl, ?_⟩
              refine ⟨_, rfl, _, rfl, _, rfl, o, _, (j' : Int), j', rfl, rfl, by rw [upd_ne noT]; exact hoG, ixN_at ?_, ?_⟩
              · rw [List.length_map, putZ_len, srtTo_len]
                omega
              · refine ⟨_, _, rfl, fun c u nc e => ?_, ?_⟩
                · rw [upd_ne nc, upd_ne (ne_of_none (kG c u nc e) nT)]
                  exact kG c u nc e
                · have ez : (l.zip ys)[j]? = some ((j' : Int), v) := by
                    rw [List.getElem?_zip_eq_some]
                    exact ⟨ex, ey'⟩
                  rw [upd_same, List.take_add_one, ez]
                  show _ = some (HO.lst ((putZ _ (List.take j (l.zip ys) ++ [((j' : Int), v)])).map V.int))
                  rw [putZ_more, List.map_set]
                  rfl
        · rintro σ G ⟨y5, y6, rfl, kG, hoG⟩
          refine ⟨_, _, _, rfl, fun c u nc e => kG c u nc (sP c u (k' c u nc e)), ?_⟩
          have et : List.take (List.map V.int l).length (l.zip ys) = l.zip ys := List.take_of_length_le (by rw [List.length_zip, List.length_map]; omega)
          rw [hoG, et, List.take_add_one, hli, ey]
          show _ = some (HO.lst ((srtTo vs (List.take i (ixL b r c) ++ [l])).map V.int))
          rw [srtTo_more]
          rfl
    · rintro σ H' ⟨y4, y5, y6, rfl, k', ho⟩
      rw [Paired.length hx, List.take_length] at ho
      refine ⟨_, rfl, o, _, rfl, .inl ⟨SqL.of ho, fun u nu => ?_⟩⟩
      have sm : Same H H' := fun c u e => k' c u (ne_of_none e no) (s1 c u (so c u e))
      exact q _ u (sm.trans (same_new nu)) upd_same
end
end KS
namespace KS
open PySem PySem.Spec PyProof.Rows L2
def aftR (r c : Nat) (w : List Bool) (vs : List Int) : List Int := w.foldl (fun v b => srtR b r c v) vs
theorem aftR_more (r c : Nat) (w : List Bool) (b : Bool) (vs : List Int) : aftR r c (w ++ [b]) vs = srtR b r c (aftR r c w vs) := by
  unfold aftR
  rw [List.foldl_append]
  rfl
theorem srtR_len (b : Bool) (r c : Nat) (vs : List Int) : (srtR b r c vs).length = vs.length := srtTo_len ..
theorem aftR_len (r c : Nat) : ∀ (w : List Bool) (vs : List Int), (aftR r c w vs).length = vs.length
  | [], _ => rfl
  | b :: w, vs => (aftR_len r c w (srtR b r c vs)).trans (srtR_len b r c vs)
def spAfter51 (K : PySem.W.Frag) : Sp := fun xs H Q _ => ∃ (r c : Nat) (t : Addr) (w : List Bool) (vs : List Int), xs = [.int (r : Nat), .int (c : Nat), .ref t, .str (wS w)] ∧ Sides r c ∧ SqT K H t (vs.map V.int) ∧ vs.length = r * c ∧
  ∀ H' u, Same H H' → SqT K H' u ((aftR r c w vs).map V.int) → Q (.ref u) H'
abbrev sAfter : Stmt := topS 30
abbrev nAfter51 : List Str := ["_law_high", "_law_wide", "_law_some", "_law_letters", "_law_sort"]
theorem scAfter51 : FnScope nAfter51 ["_law_high", "_law_wide", "_law_some", "_law_letters"] (defScope sAfter) := ⟨rfl, rfl, rfl, by decide +kernel, rfl, by decide +kernel, by decide +kernel⟩
section
variable {P : Program} {w : World} {K : PySem.W.Frag} {mg : Str → Option Value} {base : Heap}
theorem ok_after51 {f fS : Addr} {fd fdS : FuncData} (F : Fun K "_law_after" "_law_after" sAfter f fd) (GS : FnOk P w K mg base CX0 2 fS fdS ["_law_high", "_law_wide", "_law_some", "_law_sort"] (spSorted51 K))
    (bS : Binds K fdS ["_law_high", "_law_wide", "_law_some", "_law_sort"] []) (gS : mg "_law_sorted" = some (.ref fS)) (kS : PySem.W.keepIn K (.ref fS) = true) :
    FnOk P w K mg base CX0 3 f fd ["_law_high", "_law_wide", "_law_some", "_law_letters"] (spAfter51 K) := by
  refine F.ok scAfter51 (fun vs H Q E h => ?_) (fun cdv A outer s H vs Q E hr h => ?_)
  · obtain ⟨r, c, t, w, vs, rfl, _⟩ := h
    rfl
  · obtain ⟨r, c, t, wd, vs, rfl, sd, ht, hv, q⟩ := h
    have nd := scAfter51.nd
    refine ⟨_, pss_cons (ps_for PassesOwn.never rfl (pi_str (pv 3)) (pg_name (i := 4) nd rfl (.inl rfl))
        (pss_one (ps_set (i := 2) nd rfl (.inl rfl) (pe_call GS hr (by rfl) gS kS bS .nil pass0 (pa_cons (pv 0) (pa_cons (pv 1) (pa_cons (pv 2) (pa_cons (pv 4) pa_nil))))))))
      (pss_one (ps_ret (pv 2))), ?_⟩
    refine ⟨_, rfl, _, rfl, for_it walk_str (fun i σ H' => ∃ (u : Addr) (y4 : Option V), σ = [some (.int (r : Nat)), some (.int (c : Nat)), some (.ref u), some (.str (wS wd)), y4] ∧ Same H H' ∧ SqT K H' u ((aftR r c (wd.take i) vs).map V.int)) ?_ ?_ ?_ ?_⟩
    · exact ⟨t, none, rfl, Same.refl _, ht⟩
    · intros
      trivial
    · rintro i x σ H' H'' hi ⟨u, y4, rfl, sm, hu⟩ ⟨rfl, k, hk, rfl⟩
      obtain ⟨b, hb, rfl⟩ := wS_at hk
      rw [ltr_str]
      refine ⟨_, rfl, _, rfl, _, rfl, _, rfl, r, c, u, b, _, rfl, sd, hu, by rw [aftR_len]; exact hv, fun G u' sG hu' => ?_⟩
      refine ⟨u', _, rfl, sm.trans sG, ?_⟩
      rw [List.take_add_one, hb]
      show SqT K G u' ((aftR r c (wd.take i ++ [b]) vs).map V.int)
      rw [aftR_more]
      exact SqT.of hu'
    · rintro σ H' ⟨u, y4, rfl, sm, hu⟩
      have e : wd.take (wS wd).cps.size = wd := List.take_of_length_le (by
        have := wS_len wd
        show wd.length ≤ (wS wd).length
        omega)
      rw [e] at hu
      exact ⟨_, rfl, q H' u sm hu⟩
/-- the same, the word not empty: its result is made at run time -/
def spAfterE (K : PySem.W.Frag) : Sp := fun xs H Q _ => ∃ (r c : Nat) (t : Addr) (w : List Bool) (vs : List Int), xs = [.int (r : Nat), .int (c : Nat), .ref t, .str (wS w)] ∧ Sides r c ∧ SqT K H t (vs.map V.int) ∧ vs.length = r * c ∧ w ≠ [] ∧
  ∀ H' u, Same H H' → H' u = some (.tup ((aftR r c w vs).map V.int)) → Q (.ref u) H'
theorem ok_afterE {f fS : Addr} {fd fdS : FuncData} (F : Fun K "_law_after" "_law_after" sAfter f fd) (GS : FnOk P w K mg base CX0 2 fS fdS ["_law_high", "_law_wide", "_law_some", "_law_sort"] (spSorted51 K))
    (bS : Binds K fdS ["_law_high", "_law_wide", "_law_some", "_law_sort"] []) (gS : mg "_law_sorted" = some (.ref fS)) (kS : PySem.W.keepIn K (.ref fS) = true) :
    FnOk P w K mg base CX0 3 f fd ["_law_high", "_law_wide", "_law_some", "_law_letters"] (spAfterE K) := by
  refine F.ok scAfter51 (fun vs H Q E h => ?_) (fun cdv A outer s H vs Q E hr h => ?_)
  · obtain ⟨r, c, t, w, vs, rfl, _⟩ := h
    rfl
  · obtain ⟨r, c, t, wd, vs, rfl, sd, ht, hv, ne, q⟩ := h
    have nd := scAfter51.nd
    refine ⟨_, pss_cons (ps_for PassesOwn.never rfl (pi_str (pv 3)) (pg_name (i := 4) nd rfl (.inl rfl))
        (pss_one (ps_set (i := 2) nd rfl (.inl rfl) (pe_call GS hr (by rfl) gS kS bS .nil pass0 (pa_cons (pv 0) (pa_cons (pv 1) (pa_cons (pv 2) (pa_cons (pv 4) pa_nil))))))))
      (pss_one (ps_ret (pv 2))), ?_⟩
    refine ⟨_, rfl, _, rfl, for_it walk_str (fun i σ H' => ∃ (u : Addr) (y4 : Option V), σ = [some (.int (r : Nat)), some (.int (c : Nat)), some (.ref u), some (.str (wS wd)), y4] ∧ Same H H' ∧ SqT K H' u ((aftR r c (wd.take i) vs).map V.int) ∧ (1 ≤ i → H' u = some (.tup ((aftR r c (wd.take i) vs).map V.int)))) ?_ ?_ ?_ ?_⟩
    · exact ⟨t, none, rfl, Same.refl _, ht, fun h => absurd h (by decide)⟩
    · intros
      trivial
    · rintro i x σ H' H'' hi ⟨u, y4, rfl, sm, hu, _⟩ ⟨rfl, k, hk, rfl⟩
      obtain ⟨b, hb, rfl⟩ := wS_at hk
      rw [ltr_str]
      refine ⟨_, rfl, _, rfl, _, rfl, _, rfl, r, c, u, b, _, rfl, sd, hu, by rw [aftR_len]; exact hv, fun G u' sG hu' => ?_⟩
      have key : G u' = some (.tup ((aftR r c (wd.take (i + 1)) vs).map V.int)) := by
        rw [List.take_add_one, hb]
        show G u' = some (.tup ((aftR r c (wd.take i ++ [b]) vs).map V.int))
        rw [aftR_more]
        exact hu'
      exact ⟨u', _, rfl, sm.trans sG, SqT.of key, fun _ => key⟩
    · rintro σ H' ⟨u, y4, rfl, sm, _, hu⟩
      have e : wd.take (wS wd).cps.size = wd := List.take_of_length_le (by
        have := wS_len wd
        show wd.length ≤ (wS wd).length
        omega)
      have l1 : 1 ≤ (wS wd).cps.size := by
        have := wS_len wd
        have : (wS wd).cps.size = wd.length := by
          show (wS wd).length = wd.length
          omega
        have : 0 < wd.length := List.length_pos_iff.mpr ne
        omega
      have hu := hu l1
      rw [e] at hu
      exact ⟨_, rfl, q H' u sm hu⟩
end
end KS
namespace KS
open PySem PySem.Spec PyProof.Rows L2
theorem many_greater {b : List Int} {v : Int} {k : Nat} (hs : sortI b = b) (hk : k < b.length) (hv : v < b.getD k 0) : b.length - k ≤ (b.filter fun x => decide (v < x)).length := by
  have e : b.filter (fun x => decide (v < x)) = (b.take k).filter (fun x => decide (v < x)) ++ (b.drop k).filter (fun x => decide (v < x)) := by
    rw [← List.filter_append, List.take_append_drop]
  have all : (b.drop k).filter (fun x => decide (v < x)) = b.drop k := by
    refine List.filter_eq_self.mpr fun x hx => ?_
    obtain ⟨i, hi, rfl⟩ := List.getElem_of_mem hx
    rw [List.getElem_drop]
    rw [List.length_drop] at hi
    have h2 : b.getD k 0 ≤ b.getD (k + i) 0 := by
      rcases Nat.eq_zero_or_pos i with z | z
      · rw [z]
        exact Int.le_refl _
      · exact asc_le hs (by omega) (by omega)
    rw [List.getD_eq_getElem?_getD (l := b) (i := k + i), List.getElem?_eq_getElem (by omega)] at h2
    exact decide_eq_true (Int.lt_of_lt_of_le hv h2)
  rw [e, all, List.length_append, List.length_drop]
  omega
theorem pair_nn {a b : List Int} (hl : a.length = b.length) (hs : sortI b = b) (hlt : ∀ k, k < a.length → a.getD k 0 < b.getD k 0) : ∀ i, i ≤ a.length → 0 ≤ pairTo a b i
  | 0, _ => by show (0 : Int) ≤ 1; decide
  | i + 1, hi => by
    have ih := pair_nn hl hs hlt i (by omega)
    show 0 ≤ pairTo a b i * (((b.filter fun x => decide (a.reverse.getD i 0 < x)).length : Int) - i)
    refine Int.mul_nonneg ih ?_
    have er : a.reverse.getD i 0 = a.getD (a.length - 1 - i) 0 := by
      rw [List.getD_eq_getElem?_getD, List.getD_eq_getElem?_getD, List.getElem?_reverse (by omega)]
    rw [er]
    have := many_greater (b := b) (k := a.length - 1 - i) hs (by omega) (hlt _ (by omega))
    omega
theorem shuf_nn {ls : List (List Int)} {m : Nat} (h : ∀ l ∈ ls, l.length = m ∧ sortI l = l) (hlt : ∀ i, i + 1 < ls.length → ∀ k, k < m → (ls.getD i []).getD k 0 < (ls.getD (i + 1) []).getD k 0) : ∀ i, i + 1 ≤ ls.length → 0 ≤ shufTo ls i
  | 0, _ => Int.natCast_nonneg _
  | i + 1, hi => by
    have ih := shuf_nn h hlt i (by omega)
    have gk : ∀ k, k < ls.length → (ls.getD k []) ∈ ls := fun k hk => by
      rw [List.getD_eq_getElem?_getD, List.getElem?_eq_getElem hk]
      exact List.getElem_mem hk
    have ha := h _ (gk i (by omega))
    have hb := h _ (gk (i + 1) (by omega))
    show 0 ≤ shufTo ls i * pairI (ls.getD i []) (ls.getD (i + 1) [])
    refine Int.mul_nonneg ih ?_
    exact pair_nn (by rw [ha.1, hb.1]) hb.2 (fun k hk => hlt i (by omega) k (by rw [← ha.1]; exact hk)) _ (Nat.le_refl _)
theorem from_nn {st : Int} {ls : List (List Int)} (hs : 0 ≤ st) : ∀ i, 0 ≤ fromTo st ls i
  | 0 => hs
  | i + 1 => Int.mul_nonneg (from_nn hs i) (Int.natCast_nonneg _)
end KS
namespace KS
/-! ### how often a number stands in a list: the digits of one large number -/
def digM (M x : Nat) : Nat := M / 1024 ^ x % 1024
def sumM : List Nat → Nat → Nat
  | [], a => a
  | y :: l, a => sumM l (a + 1024 ^ y)
theorem dig_add (M x y : Nat) (h : digM M y < 1023) : digM (M + 1024 ^ y) x = digM M x + if x = y then 1 else 0 := by
  unfold digM at *
  have hp : 0 < 1024 ^ y := Nat.pow_pos (by decide)
  rcases Nat.lt_trichotomy x y with c | c | c
  · rw [if_neg (by omega)]
    obtain ⟨d, rfl⟩ : ∃ d, y = x + 1 + d := ⟨y - x - 1, by omega⟩
    have e : 1024 ^ (x + 1 + d) = 1024 ^ x * (1024 * 1024 ^ d) := by rw [Nat.pow_add, Nat.pow_add, Nat.pow_one, Nat.mul_assoc]
    rw [e, Nat.add_mul_div_left _ _ (Nat.pow_pos (by decide)), Nat.add_mul_mod_self_left]
    rfl
  · subst c
    rw [if_pos rfl, Nat.add_div_right _ hp]
    omega
  · rw [if_neg (by omega)]
    obtain ⟨d, rfl⟩ : ∃ d, x = y + 1 + d := ⟨x - y - 1, by omega⟩
    have e : 1024 ^ (y + 1 + d) = 1024 ^ y * 1024 * 1024 ^ d := by rw [Nat.pow_add, Nat.pow_add, Nat.pow_one]
    rw [e, ← Nat.div_div_eq_div_mul, ← Nat.div_div_eq_div_mul, ← Nat.div_div_eq_div_mul, ← Nat.div_div_eq_div_mul, Nat.add_div_right _ hp]
    have : (M / 1024 ^ y + 1) / 1024 = M / 1024 ^ y / 1024 := by omega
    show ((M / 1024 ^ y + 1) / 1024 / 1024 ^ d) % 1024 = _
    rw [this]
    rfl
theorem sum_dig : ∀ (l : List Nat) (a : Nat), (∀ x, digM a x + l.count x ≤ 1023) → ∀ x, digM (sumM l a) x = digM a x + l.count x
  | [], a, _, x => by rw [List.count_nil]; rfl
  | y :: l, a, h, x => by
    have hy : digM a y < 1023 := by
      have := h y
      rw [List.count_cons_self] at this
      omega
    show digM (sumM l (a + 1024 ^ y)) x = _
    have cc : ∀ z, (y :: l).count z = l.count z + if z = y then 1 else 0 := fun z => by
      rw [List.count_cons]
      by_cases c : z = y
      · subst c
        simp
      · rw [if_neg c, if_neg (by simpa using fun e : y = z => c e.symm)]
    rw [sum_dig l (a + 1024 ^ y) (fun z => by rw [dig_add a z y hy]; have := h z; rw [cc] at this; omega) x, dig_add a x y hy, cc]
    omega
theorem sum_count {l : List Nat} (h : l.length ≤ 1023) (x : Nat) : digM (sumM l 0) x = l.count x := by
  have z : ∀ y, digM 0 y = 0 := fun y => by unfold digM; rw [Nat.zero_div]
  rw [sum_dig l 0 (fun y => by rw [z, Nat.zero_add]; exact Nat.le_trans List.count_le_length h) x, z, Nat.zero_add]
end KS
namespace KS
open PySem PySem.Spec PyProof.Rows L2
end KS
namespace KS
open PySem PySem.Spec PyProof.Rows L2
/-- after the sorts of a word, by rows and columns -/
def rowsS (r c : Nat) (vs : List Int) : List Int := ((List.range r).map fun i => isort ((List.range c).map fun j => vs.getD (j + i * c) 0)).flatten
def colsS (r c : Nat) (vs : List Int) : List Int :=
  let cs := (List.range c).map fun j => isort ((List.range r).map fun i => vs.getD (j + i * c) 0)
  ((List.range r).map fun i => cs.map fun l => l.getD i 0).flatten
def aftS (r c : Nat) (w : List Bool) (vs : List Int) : List Int := w.foldl (fun v b => if b = true then colsS r c v else rowsS r c v) vs
def codeI (l : List Int) : Nat := l.foldl (fun a x => a * 6 + (x.toNat - 1)) 0
def ascK (l : List Int) : Bool := decide (isort l = l)
def origK (r c : Nat) (vs : List Int) (w : List Bool) : Int :=
  if !(fstI r c vs w).all ascK || (decide (w.length = 2) && !(sndI r c vs w).all ascK) then 0
  else fromTo (if w.length = 2 then shufI (sndI r c vs w) else 1) (fstI r c vs w) (fstI r c vs w).length
def chkO (r c : Nat) (w : List Bool) (M : Nat) : List (List Int) → Bool
  | [] => true
  | T :: ts => decide (origK r c T w = ((digM M (codeI T) : Nat) : Int)) && chkO r c w M ts
def imgM (r c : Nat) (w : List Bool) : Nat := sumM ((ordI (r * c)).map fun v => codeI (aftS r c w v)) 0
end KS
namespace KS
open PySem PySem.Spec PyProof.Rows L2
def Sm (n : Nat) (l : List Int) : Prop := l.length = n ∧ ∀ x ∈ l, 1 ≤ x ∧ x ≤ 6
theorem code_inj : ∀ {l m : List Int} {a b : Nat}, l.length = m.length → (∀ x ∈ l, 1 ≤ x ∧ x ≤ 6) → (∀ x ∈ m, 1 ≤ x ∧ x ≤ 6) → l.foldl (fun a x => a * 6 + (x.toNat - 1)) a = m.foldl (fun a x => a * 6 + (x.toNat - 1)) b → a = b ∧ l = m
  | [], [], a, b, _, _, _, h => ⟨h, rfl⟩
  | [], _ :: _, _, _, h, _, _, _ => by cases h
  | _ :: _, [], _, _, h, _, _, _ => by cases h
  | x :: l, y :: m, a, b, hl, h1, h2, h => by
    obtain ⟨e1, e2⟩ := code_inj (Nat.succ.inj hl) (fun z hz => h1 z (List.mem_cons_of_mem _ hz)) (fun z hz => h2 z (List.mem_cons_of_mem _ hz)) h
    have bx := h1 x (List.mem_cons_self ..)
    have by' := h2 y (List.mem_cons_self ..)
    have e3 : a * 6 + (x.toNat - 1) = b * 6 + (y.toNat - 1) := e1
    have : a = b ∧ x = y := by omega
    exact ⟨this.1, by rw [this.2, e2]⟩
theorem code_eq {n : Nat} {l m : List Int} (hl : Sm n l) (hm : Sm n m) : codeI l = codeI m ↔ l = m :=
  ⟨fun h => (code_inj (by rw [hl.1, hm.1]) hl.2 hm.2 h).2, fun h => by rw [h]⟩
theorem count_code {n : Nat} {T : List Int} (hT : Sm n T) : ∀ {ls : List (List Int)}, (∀ l ∈ ls, Sm n l) → (ls.map codeI).count (codeI T) = ls.count T
  | [], _ => rfl
  | l :: ls, h => by
    rw [List.map_cons, List.count_cons, List.count_cons, count_code hT fun m hm => h m (List.mem_cons_of_mem _ hm)]
    congr 1
    have := code_eq (h l (List.mem_cons_self ..)) hT
    by_cases c : l = T
    · rw [if_pos (by simpa using this.mpr c), if_pos (by simpa using c)]
    · rw [if_neg (by simpa using fun z => c (this.mp z)), if_neg (by simpa using c)]
theorem ascK_eq : ascK = ascB := by
  funext l
  unfold ascK ascB
  rw [isort_eq]
theorem origK_eq (r c : Nat) (vs : List Int) (w : List Bool) : origK r c vs w = origI r c vs w := by
  unfold origK origI
  rw [ascK_eq]
theorem chkO_all {r c : Nat} {w : List Bool} {M : Nat} : ∀ {ts : List (List Int)}, chkO r c w M ts = true → ∀ T ∈ ts, origI r c T w = ((digM M (codeI T) : Nat) : Int)
  | [], _, _, h => by cases h
  | t :: ts, h, T, hT => by
    rw [chkO, Bool.and_eq_true, decide_eq_true_eq] at h
    rcases List.mem_cons.mp hT with e | hT
    · rw [e, ← origK_eq]
      exact h.1
    · exact chkO_all h.2 T hT
theorem flatL {α : Type} {m : Nat} : ∀ {ls : List (List α)}, (∀ l ∈ ls, l.length = m) → ls.flatten.length = ls.length * m
  | [], _ => by rw [List.flatten_nil, List.length_nil, List.length_nil, Nat.zero_mul]
  | l :: ls, h => by
    rw [List.flatten_cons, List.length_append, flatL fun x hx => h x (List.mem_cons_of_mem _ hx), h l (List.mem_cons_self ..), List.length_cons, Nat.succ_mul]
    omega
theorem getD_sm {vs : List Int} {k : Nat} (hk : k < vs.length) (h : ∀ x ∈ vs, 1 ≤ x ∧ x ≤ 6) : 1 ≤ vs.getD k 0 ∧ vs.getD k 0 ≤ 6 := by
  rw [List.getD_eq_getElem?_getD, List.getElem?_eq_getElem hk]
  exact h _ (List.getElem_mem hk)
theorem idx_lt {r c i j : Nat} (hi : i < r) (hj : j < c) : j + i * c < r * c := by
  have := Nat.mul_le_mul_right c hi
  rw [Nat.succ_mul] at this
  omega
theorem rowsS_sm {r c : Nat} {vs : List Int} (h : Sm (r * c) vs) : Sm (r * c) (rowsS r c vs) := by
  refine ⟨?_, fun x hx => ?_⟩
  · unfold rowsS
    rw [flatL (m := c), List.length_map, List.length_range]
    intro l hl
    obtain ⟨i, _, rfl⟩ := List.mem_map.mp hl
    rw [isort_eq, sortI_len, List.length_map, List.length_range]
  · unfold rowsS at hx
    obtain ⟨l, hl, hx⟩ := List.mem_flatten.mp hx
    obtain ⟨i, hi, rfl⟩ := List.mem_map.mp hl
    rw [isort_eq, (sortI_perm _).mem_iff] at hx
    obtain ⟨j, hj, rfl⟩ := List.mem_map.mp hx
    exact getD_sm (by rw [h.1]; exact idx_lt (List.mem_range.mp hi) (List.mem_range.mp hj)) h.2
theorem colsS_sm {r c : Nat} {vs : List Int} (h : Sm (r * c) vs) : Sm (r * c) (colsS r c vs) := by
  refine ⟨?_, fun x hx => ?_⟩
  · unfold colsS
    rw [flatL (m := c), List.length_map, List.length_range]
    intro l hl
    obtain ⟨i, _, rfl⟩ := List.mem_map.mp hl
    rw [List.length_map, List.length_map, List.length_range]
  · unfold colsS at hx
    obtain ⟨l, hl, hx⟩ := List.mem_flatten.mp hx
    obtain ⟨i, hi, rfl⟩ := List.mem_map.mp hl
    obtain ⟨m, hm, rfl⟩ := List.mem_map.mp hx
    obtain ⟨j, hj, rfl⟩ := List.mem_map.mp hm
    have hi' := List.mem_range.mp hi
    refine getD_sm (by rw [isort_eq, sortI_len, List.length_map, List.length_range]; exact hi') fun y hy => ?_
    rw [isort_eq, (sortI_perm _).mem_iff] at hy
    obtain ⟨i2, hi2, rfl⟩ := List.mem_map.mp hy
    exact getD_sm (by rw [h.1]; exact idx_lt (List.mem_range.mp hi2) (List.mem_range.mp hj)) h.2
theorem aftS_sm {r c : Nat} : ∀ (w : List Bool) {vs : List Int}, Sm (r * c) vs → Sm (r * c) (aftS r c w vs)
  | [], _, h => h
  | b :: w, vs, h => by
    show Sm (r * c) (aftS r c w (if b = true then colsS r c vs else rowsS r c vs))
    refine aftS_sm w ?_
    cases b
    · exact rowsS_sm h
    · exact colsS_sm h
/-- what count_origins tells for a small table is how many tables lead there -/
theorem orig_count {r c : Nat} {w : List Bool} (h6 : r * c ≤ 6) (hk : chkO r c w (imgM r c w) (ordI (r * c)) = true) (ho : ∀ l ∈ ordI (r * c), Sm (r * c) l) (hf : (ordI (r * c)).length ≤ 1023) :
    ∀ T ∈ ordI (r * c), origI r c T w = (((((ordI (r * c)).map (aftS r c w)).count T) : Nat) : Int) := by
  intro T hT
  rw [chkO_all hk T hT]
  unfold imgM
  rw [sum_count (by rw [List.length_map]; exact hf)]
  have e : (ordI (r * c)).map (fun v => codeI (aftS r c w v)) = ((ordI (r * c)).map (aftS r c w)).map codeI := by
    rw [List.map_map]
    rfl
  rw [e, count_code (ho T hT) fun l hl => by
    obtain ⟨v, hv, rfl⟩ := List.mem_map.mp hl
    exact aftS_sm w (ho v hv)]
end KS
namespace KS
/-! ### at most six places: decided -/
theorem k110 : chkO 1 1 [false] (imgM 1 1 [false]) (ordI (1 * 1)) = true := by decide +kernel
theorem k111 : chkO 1 1 [true] (imgM 1 1 [true]) (ordI (1 * 1)) = true := by decide +kernel
theorem k112 : chkO 1 1 [false, true] (imgM 1 1 [false, true]) (ordI (1 * 1)) = true := by decide +kernel
theorem k113 : chkO 1 1 [true, false] (imgM 1 1 [true, false]) (ordI (1 * 1)) = true := by decide +kernel
theorem k120 : chkO 1 2 [false] (imgM 1 2 [false]) (ordI (1 * 2)) = true := by decide +kernel
theorem k121 : chkO 1 2 [true] (imgM 1 2 [true]) (ordI (1 * 2)) = true := by decide +kernel
theorem k122 : chkO 1 2 [false, true] (imgM 1 2 [false, true]) (ordI (1 * 2)) = true := by decide +kernel
theorem k123 : chkO 1 2 [true, false] (imgM 1 2 [true, false]) (ordI (1 * 2)) = true := by decide +kernel
theorem k130 : chkO 1 3 [false] (imgM 1 3 [false]) (ordI (1 * 3)) = true := by decide +kernel
theorem k131 : chkO 1 3 [true] (imgM 1 3 [true]) (ordI (1 * 3)) = true := by decide +kernel
theorem k132 : chkO 1 3 [false, true] (imgM 1 3 [false, true]) (ordI (1 * 3)) = true := by decide +kernel
theorem k133 : chkO 1 3 [true, false] (imgM 1 3 [true, false]) (ordI (1 * 3)) = true := by decide +kernel
theorem k140 : chkO 1 4 [false] (imgM 1 4 [false]) (ordI (1 * 4)) = true := by decide +kernel
theorem k141 : chkO 1 4 [true] (imgM 1 4 [true]) (ordI (1 * 4)) = true := by decide +kernel
theorem k142 : chkO 1 4 [false, true] (imgM 1 4 [false, true]) (ordI (1 * 4)) = true := by decide +kernel
theorem k143 : chkO 1 4 [true, false] (imgM 1 4 [true, false]) (ordI (1 * 4)) = true := by decide +kernel
theorem k150 : chkO 1 5 [false] (imgM 1 5 [false]) (ordI (1 * 5)) = true := by decide +kernel
theorem k151 : chkO 1 5 [true] (imgM 1 5 [true]) (ordI (1 * 5)) = true := by decide +kernel
theorem k152 : chkO 1 5 [false, true] (imgM 1 5 [false, true]) (ordI (1 * 5)) = true := by decide +kernel
theorem k153 : chkO 1 5 [true, false] (imgM 1 5 [true, false]) (ordI (1 * 5)) = true := by decide +kernel
theorem k160 : chkO 1 6 [false] (imgM 1 6 [false]) (ordI (1 * 6)) = true := by decide +kernel
theorem k161 : chkO 1 6 [true] (imgM 1 6 [true]) (ordI (1 * 6)) = true := by decide +kernel
theorem k162 : chkO 1 6 [false, true] (imgM 1 6 [false, true]) (ordI (1 * 6)) = true := by decide +kernel
theorem k163 : chkO 1 6 [true, false] (imgM 1 6 [true, false]) (ordI (1 * 6)) = true := by decide +kernel
theorem k210 : chkO 2 1 [false] (imgM 2 1 [false]) (ordI (2 * 1)) = true := by decide +kernel
theorem k211 : chkO 2 1 [true] (imgM 2 1 [true]) (ordI (2 * 1)) = true := by decide +kernel
theorem k212 : chkO 2 1 [false, true] (imgM 2 1 [false, true]) (ordI (2 * 1)) = true := by decide +kernel
theorem k213 : chkO 2 1 [true, false] (imgM 2 1 [true, false]) (ordI (2 * 1)) = true := by decide +kernel
theorem k220 : chkO 2 2 [false] (imgM 2 2 [false]) (ordI (2 * 2)) = true := by decide +kernel
theorem k221 : chkO 2 2 [true] (imgM 2 2 [true]) (ordI (2 * 2)) = true := by decide +kernel
theorem k222 : chkO 2 2 [false, true] (imgM 2 2 [false, true]) (ordI (2 * 2)) = true := by decide +kernel
theorem k223 : chkO 2 2 [true, false] (imgM 2 2 [true, false]) (ordI (2 * 2)) = true := by decide +kernel
theorem k230 : chkO 2 3 [false] (imgM 2 3 [false]) (ordI (2 * 3)) = true := by decide +kernel
theorem k231 : chkO 2 3 [true] (imgM 2 3 [true]) (ordI (2 * 3)) = true := by decide +kernel
theorem k232 : chkO 2 3 [false, true] (imgM 2 3 [false, true]) (ordI (2 * 3)) = true := by decide +kernel
theorem k233 : chkO 2 3 [true, false] (imgM 2 3 [true, false]) (ordI (2 * 3)) = true := by decide +kernel
theorem k310 : chkO 3 1 [false] (imgM 3 1 [false]) (ordI (3 * 1)) = true := by decide +kernel
theorem k311 : chkO 3 1 [true] (imgM 3 1 [true]) (ordI (3 * 1)) = true := by decide +kernel
theorem k312 : chkO 3 1 [false, true] (imgM 3 1 [false, true]) (ordI (3 * 1)) = true := by decide +kernel
theorem k313 : chkO 3 1 [true, false] (imgM 3 1 [true, false]) (ordI (3 * 1)) = true := by decide +kernel
theorem k320 : chkO 3 2 [false] (imgM 3 2 [false]) (ordI (3 * 2)) = true := by decide +kernel
theorem k321 : chkO 3 2 [true] (imgM 3 2 [true]) (ordI (3 * 2)) = true := by decide +kernel
theorem k322 : chkO 3 2 [false, true] (imgM 3 2 [false, true]) (ordI (3 * 2)) = true := by decide +kernel
theorem k323 : chkO 3 2 [true, false] (imgM 3 2 [true, false]) (ordI (3 * 2)) = true := by decide +kernel
theorem k410 : chkO 4 1 [false] (imgM 4 1 [false]) (ordI (4 * 1)) = true := by decide +kernel
theorem k411 : chkO 4 1 [true] (imgM 4 1 [true]) (ordI (4 * 1)) = true := by decide +kernel
theorem k412 : chkO 4 1 [false, true] (imgM 4 1 [false, true]) (ordI (4 * 1)) = true := by decide +kernel
theorem k413 : chkO 4 1 [true, false] (imgM 4 1 [true, false]) (ordI (4 * 1)) = true := by decide +kernel
theorem k510 : chkO 5 1 [false] (imgM 5 1 [false]) (ordI (5 * 1)) = true := by decide +kernel
theorem k511 : chkO 5 1 [true] (imgM 5 1 [true]) (ordI (5 * 1)) = true := by decide +kernel
theorem k512 : chkO 5 1 [false, true] (imgM 5 1 [false, true]) (ordI (5 * 1)) = true := by decide +kernel
theorem k513 : chkO 5 1 [true, false] (imgM 5 1 [true, false]) (ordI (5 * 1)) = true := by decide +kernel
theorem k610 : chkO 6 1 [false] (imgM 6 1 [false]) (ordI (6 * 1)) = true := by decide +kernel
theorem k611 : chkO 6 1 [true] (imgM 6 1 [true]) (ordI (6 * 1)) = true := by decide +kernel
theorem k612 : chkO 6 1 [false, true] (imgM 6 1 [false, true]) (ordI (6 * 1)) = true := by decide +kernel
theorem k613 : chkO 6 1 [true, false] (imgM 6 1 [true, false]) (ordI (6 * 1)) = true := by decide +kernel
end KS
namespace KS
def shapes6 : List (Nat × Nat) := [(1, 1), (1, 2), (1, 3), (1, 4), (1, 5), (1, 6), (2, 1), (2, 2), (2, 3), (3, 1), (3, 2), (4, 1), (5, 1), (6, 1)]
theorem mem6B : ((List.range 7).all fun r => (List.range 7).all fun c => decide (r = 0) || decide (c = 0) || decide (6 < r * c) || decide ((r, c) ∈ shapes6)) = true := by decide +kernel
theorem mem6 (r : Nat) (hr : r < 7) (c : Nat) (hc : c < 7) (h1 : 1 ≤ r) (h2 : 1 ≤ c) (h3 : r * c ≤ 6) : (r, c) ∈ shapes6 := by
  have a := List.all_eq_true.mp mem6B r (List.mem_range.mpr hr)
  have b := List.all_eq_true.mp a c (List.mem_range.mpr hc)
  rw [Bool.or_eq_true, Bool.or_eq_true, Bool.or_eq_true, decide_eq_true_eq, decide_eq_true_eq, decide_eq_true_eq, decide_eq_true_eq] at b
  rcases b with ((z | z) | z) | z
  · omega
  · omega
  · omega
  · exact z
theorem chk6 {r c : Nat} {w : List Bool} (h : (r, c) ∈ shapes6) (w4 : Wd4 w) : chkO r c w (imgM r c w) (ordI (r * c)) = true := by
  unfold shapes6 at h
  simp only [List.mem_cons, List.not_mem_nil, or_false, Prod.mk.injEq] at h
  rcases h with ⟨rfl, rfl⟩ | ⟨rfl, rfl⟩ | ⟨rfl, rfl⟩ | ⟨rfl, rfl⟩ | ⟨rfl, rfl⟩ | ⟨rfl, rfl⟩ | ⟨rfl, rfl⟩ | ⟨rfl, rfl⟩ | ⟨rfl, rfl⟩ | ⟨rfl, rfl⟩ | ⟨rfl, rfl⟩ | ⟨rfl, rfl⟩ | ⟨rfl, rfl⟩ | ⟨rfl, rfl⟩
  · rcases w4 with rfl | rfl | rfl | rfl
    · exact k110
    · exact k111
    · exact k112
    · exact k113
  · rcases w4 with rfl | rfl | rfl | rfl
    · exact k120
    · exact k121
    · exact k122
    · exact k123
  · rcases w4 with rfl | rfl | rfl | rfl
    · exact k130
    · exact k131
    · exact k132
    · exact k133
  · rcases w4 with rfl | rfl | rfl | rfl
    · exact k140
    · exact k141
    · exact k142
    · exact k143
  · rcases w4 with rfl | rfl | rfl | rfl
    · exact k150
    · exact k151
    · exact k152
    · exact k153
  · rcases w4 with rfl | rfl | rfl | rfl
    · exact k160
    · exact k161
    · exact k162
    · exact k163
  · rcases w4 with rfl | rfl | rfl | rfl
    · exact k210
    · exact k211
    · exact k212
    · exact k213
  · rcases w4 with rfl | rfl | rfl | rfl
    · exact k220
    · exact k221
    · exact k222
    · exact k223
  · rcases w4 with rfl | rfl | rfl | rfl
    · exact k230
    · exact k231
    · exact k232
    · exact k233
  · rcases w4 with rfl | rfl | rfl | rfl
    · exact k310
    · exact k311
    · exact k312
    · exact k313
  · rcases w4 with rfl | rfl | rfl | rfl
    · exact k320
    · exact k321
    · exact k322
    · exact k323
  · rcases w4 with rfl | rfl | rfl | rfl
    · exact k410
    · exact k411
    · exact k412
    · exact k413
  · rcases w4 with rfl | rfl | rfl | rfl
    · exact k510
    · exact k511
    · exact k512
    · exact k513
  · rcases w4 with rfl | rfl | rfl | rfl
    · exact k610
    · exact k611
    · exact k612
    · exact k613
theorem ord_sm : ((List.range 7).all fun n => (ordI n).all fun l => decide (l.length = n) && l.all fun x => decide (1 ≤ x) && decide (x ≤ 6)) = true := by decide +kernel
theorem ord_small {n : Nat} (h : n ≤ 6) : ∀ l ∈ ordI n, Sm n l := fun l hl => by
  have h1 := List.all_eq_true.mp ord_sm n (List.mem_range.mpr (by omega))
  have h2 := List.all_eq_true.mp h1 l hl
  rw [Bool.and_eq_true, decide_eq_true_eq, List.all_eq_true] at h2
  refine ⟨h2.1, fun x hx => ?_⟩
  have := h2.2 x hx
  rw [Bool.and_eq_true, decide_eq_true_eq, decide_eq_true_eq] at this
  exact this
/-- what count_origins tells for a table of at most six places: how many tables the word turns into it -/
theorem small_count {r c : Nat} {w : List Bool} (hr : 1 ≤ r) (hc : 1 ≤ c) (h6 : r * c ≤ 6) (w4 : Wd4 w) : ∀ T ∈ ordI (r * c), origI r c T w = (((((ordI (r * c)).map (aftS r c w)).count T) : Nat) : Int) := by
  have h1 : r ≤ r * c := Nat.le_mul_of_pos_right r hc
  have h2 : c ≤ r * c := Nat.le_mul_of_pos_left c hr
  refine orig_count h6 (chk6 (mem6 r (by omega) c (by omega) hr hc h6) w4) (ord_small h6) ?_
  rw [len_ord]
  have := fac_le (n := r * c) (by omega)
  omega
end KS
namespace KS
open PySem PySem.Spec PyProof.Rows L2
/-! ### boxes -/
def prN (ls : List Nat) : Nat := ls.foldl (· * ·) 1
structure BoxOk (ls : List Nat) : Prop where
  l1 : 1 ≤ ls.length
  l3 : ls.length ≤ 3
  bd : ∀ n ∈ ls, 1 ≤ n ∧ n ≤ 6
  pr : prN ls ≤ 24
def oneSix : List Nat := [1, 2, 3, 4, 5, 6]
def allBoxes : List (List Nat) := ((oneSix.map fun a => [a]) ++ (oneSix.flatMap fun a => oneSix.map fun b => [a, b]) ++ (oneSix.flatMap fun a => oneSix.flatMap fun b => oneSix.map fun c => [a, b, c])).filter fun l => decide (prN l ≤ 24)
theorem mem_six {n : Nat} (h : 1 ≤ n ∧ n ≤ 6) : n ∈ oneSix := by
  have : n = 1 ∨ n = 2 ∨ n = 3 ∨ n = 4 ∨ n = 5 ∨ n = 6 := by omega
  rcases this with z | z | z | z | z | z <;> subst z <;> decide
theorem boxes_mem {ls : List Nat} (h : BoxOk ls) : ls ∈ allBoxes := by
  obtain ⟨l1, l3, bd, pr⟩ := h
  refine List.mem_filter.mpr ⟨?_, decide_eq_true pr⟩
  match ls, l1, l3, bd with
  | [], l1, _, _ => exact absurd l1 (by decide)
  | [a], _, _, bd =>
    refine List.mem_append_left _ (List.mem_append_left _ (List.mem_map.mpr ⟨a, mem_six (bd a (by simp)), rfl⟩))
  | [a, b], _, _, bd =>
    exact List.mem_append_left _ (List.mem_append_right _ (List.mem_flatMap.mpr ⟨a, mem_six (bd a (by simp)), List.mem_map.mpr ⟨b, mem_six (bd b (by simp)), rfl⟩⟩))
  | [a, b, c], _, _, bd =>
    exact List.mem_append_right _ (List.mem_flatMap.mpr ⟨a, mem_six (bd a (by simp)), List.mem_flatMap.mpr ⟨b, mem_six (bd b (by simp)), List.mem_map.mpr ⟨c, mem_six (bd c (by simp)), rfl⟩⟩⟩)
  | a :: b :: c :: d :: ls, _, l3, _ =>
    simp only [List.length_cons] at l3
    omega
def dimN (ls : List Nat) (i : Nat) : Nat := ls.getD i 1
def stpN (ls : List Nat) (i : Nat) : Nat := prN (ls.drop (i + 1))
def strtN (ls : List Nat) (i : Nat) : List Nat := (List.range (prN ls)).filter fun p => decide (p / stpN ls i % dimN ls i = 0)
def lnN (ls : List Nat) (i s : Nat) : List Nat := (List.range (dimN ls i)).map fun a => s + stpN ls i * a
def lnsX (ls : List Nat) (i : Nat) : List (List Nat) := (strtN ls i).map (lnN ls i)
def chkB (ls : List Nat) (i : Nat) : Bool :=
  decide ((lnsX ls i).flatten.Nodup) && (lnsX ls i).all (fun l => l.all fun k => decide (k < prN ls)) && (List.range (prN ls)).all (fun k => (lnsX ls i).any fun l => l.contains k) && decide (1 ≤ stpN ls i ∧ stpN ls i ≤ 24 ∧ 1 ≤ dimN ls i ∧ dimN ls i ≤ 6) && decide ((strtN ls i).length ≤ 24)
theorem box_chk : ∀ ls ∈ allBoxes, ∀ i, i < ls.length → chkB ls i = true := by decide +kernel
theorem box_take : ∀ ls ∈ allBoxes, ∀ k, k < 4 → prN (ls.take k) ≤ 24 := by decide +kernel
theorem box_pos : ∀ ls ∈ allBoxes, 1 ≤ prN ls := by decide +kernel
structure BoxL (ls : List Nat) (i : Nat) : Prop where
  nd : (lnsX ls i).flatten.Nodup
  bd : ∀ l ∈ lnsX ls i, ∀ k ∈ l, k < prN ls
  all : ∀ k, k < prN ls → ∃ l ∈ lnsX ls i, k ∈ l
  st : 1 ≤ stpN ls i ∧ stpN ls i ≤ 24 ∧ 1 ≤ dimN ls i ∧ dimN ls i ≤ 6
  sn : (strtN ls i).length ≤ 24
theorem boxL {ls : List Nat} {i : Nat} (h : BoxOk ls) (hi : i < ls.length) : BoxL ls i := by
  have c := box_chk ls (boxes_mem h) i hi
  unfold chkB at c
  rw [Bool.and_eq_true, Bool.and_eq_true, Bool.and_eq_true, Bool.and_eq_true, decide_eq_true_iff, decide_eq_true_iff, decide_eq_true_iff, List.all_eq_true, List.all_eq_true] at c
  obtain ⟨⟨⟨⟨c1, c2⟩, c3⟩, c4⟩, c5⟩ := c
  refine ⟨c1, fun l hl k hk => ?_, fun k hk => ?_, c4, c5⟩
  · have := c2 l hl
    rw [List.all_eq_true] at this
    exact of_decide_eq_true (this k hk)
  · have := c3 k (List.mem_range.mpr hk)
    rw [List.any_eq_true] at this
    obtain ⟨l, hl, hc⟩ := this
    exact ⟨l, hl, by simpa using hc⟩
/-! ### lines filled by any values -/
structure PartsN (n : Nat) (ls : List (List Nat)) : Prop where
  nd : ∀ ks ∈ ls, ks.Nodup
  bd : ∀ ks ∈ ls, ∀ k ∈ ks, k < n
  apart : ls.Pairwise fun ks ms => ∀ k ∈ ks, k ∉ ms
def fillN (f : List Nat → List Int) (ls : List (List Nat)) (acc : List Int) : List Int := ls.foldl (fun a ks => putN a ks (f ks)) acc
theorem fillN_len (f : List Nat → List Int) : ∀ (ls : List (List Nat)) (acc : List Int), (fillN f ls acc).length = acc.length
  | [], _ => rfl
  | ks :: ls, acc => by
    show (fillN f ls (putN acc ks (f ks))).length = _
    rw [fillN_len f ls, putN_len]
theorem fillN_off {f : List Nat → List Int} {i : Nat} : ∀ {ls : List (List Nat)} {acc : List Int}, (∀ ks ∈ ls, i ∉ ks) → (fillN f ls acc)[i]? = acc[i]?
  | [], _, _ => rfl
  | ks :: ls, acc, h => by
    show (fillN f ls (putN acc ks (f ks)))[i]? = _
    rw [fillN_off fun ms hm => h ms (List.mem_cons_of_mem _ hm)]
    exact putN_off (h ks List.mem_cons_self)
theorem fillN_get {f : List Nat → List Int} (hf : ∀ ks, (f ks).length = ks.length) : ∀ {ls : List (List Nat)} {acc : List Int}, PartsN acc.length ls → ∀ ks ∈ ls, getN (fillN f ls acc) ks = f ks
  | [], _, _, _, m => by cases m
  | ms :: ls, acc, P, ks, m => by
    have pc := List.pairwise_cons.mp P.apart
    have P' : PartsN (putN acc ms (f ms)).length ls := ⟨fun z hm => P.nd z (List.mem_cons_of_mem _ hm), fun z hm k hk => by rw [putN_len]; exact P.bd z (List.mem_cons_of_mem _ hm) k hk, pc.2⟩
    rcases List.mem_cons.mp m with rfl | m
    · show getN (fillN f ls (putN acc ks (f ks))) ks = _
      rw [getN_congr (b := putN acc ks (f ks)) fun k hk => fillN_off fun z hz => pc.1 z hz k hk]
      exact get_put (P.nd ks List.mem_cons_self) (hf ks).symm (P.bd ks List.mem_cons_self)
    · exact fillN_get hf P' ks m
theorem flat_apart {α : Type} : ∀ {ls : List (List α)}, ls.flatten.Nodup → (∀ l ∈ ls, l.Nodup) ∧ ls.Pairwise fun ks ms => ∀ k ∈ ks, k ∉ ms
  | [], _ => ⟨fun _ h => (by cases h), List.Pairwise.nil⟩
  | l :: ls, h => by
    rw [List.flatten_cons, List.nodup_append] at h
    obtain ⟨h1, h2, h3⟩ := h
    obtain ⟨i1, i2⟩ := flat_apart h2
    refine ⟨fun z hz => ?_, List.pairwise_cons.mpr ⟨fun m hm k hk hk' => h3 k hk k (List.mem_flatten.mpr ⟨m, hm, hk'⟩) rfl, i2⟩⟩
    rcases List.mem_cons.mp hz with rfl | hz
    · exact h1
    · exact i1 z hz
theorem box_parts {ls : List Nat} {i : Nat} (b : BoxL ls i) : PartsN (prN ls) (lnsX ls i) :=
  ⟨(flat_apart b.nd).1, b.bd, (flat_apart b.nd).2⟩
/-! ### a sort along an axis, in one direction or the other -/
def dirL {α : Type} (u : Bool) (l : List α) : List α := if u = true then l else l.reverse
theorem dirL_len {α : Type} (u : Bool) (l : List α) : (dirL u l).length = l.length := by
  unfold dirL
  split
  · rfl
  · rw [List.length_reverse]
theorem dirL_perm {α : Type} (u : Bool) (l : List α) : (dirL u l).Perm l := by
  unfold dirL
  split
  · exact List.Perm.refl _
  · exact List.reverse_perm l
theorem dirL_twice {α : Type} (u : Bool) (l : List α) : dirL u (dirL u l) = l := by
  unfold dirL
  cases u <;> simp
theorem getN_dir (u : Bool) (vs : List Int) (ks : List Nat) : getN vs (dirL u ks) = dirL u (getN vs ks) := by
  unfold dirL getN
  cases u <;> simp
theorem sortI_of_perm {a b : List Int} (p : a.Perm b) : sortI a = sortI b := (sortI_eq ((sortI_perm a).trans p) (sortI_asc a))
def srtF (u : Bool) (vs : List Int) (ks : List Nat) : List Int := dirL u (sortI (getN vs ks))
theorem getN_len (vs : List Int) (ks : List Nat) : (getN vs ks).length = ks.length := List.length_map ..
theorem srtF_len (u : Bool) (vs : List Int) (ks : List Nat) : (srtF u vs ks).length = ks.length := by
  unfold srtF
  rw [dirL_len, sortI_len, getN_len]
/-- the values after the sort -/
def sB (ls : List Nat) (i : Nat) (u : Bool) (vs : List Int) : List Int := fillN (srtF u vs) (lnsX ls i) vs
theorem sB_len (ls : List Nat) (i : Nat) (u : Bool) (vs : List Int) : (sB ls i u vs).length = vs.length := fillN_len _ _ _
theorem sB_get {ls : List Nat} {i : Nat} {u : Bool} {vs : List Int} (b : BoxL ls i) (hv : vs.length = prN ls) : ∀ ks ∈ lnsX ls i, getN (sB ls i u vs) ks = srtF u vs ks :=
  fillN_get (srtF_len u vs) (by rw [hv]; exact box_parts b)
theorem box_ext {ls : List Nat} {i : Nat} (b : BoxL ls i) {x y : List Int} (hx : x.length = prN ls) (hy : y.length = prN ls) (h : ∀ ks ∈ lnsX ls i, getN x ks = getN y ks) : x = y := by
  apply List.ext_getElem
  · omega
  intro k h1 h2
  obtain ⟨ks, hk, hm⟩ := b.all k (by omega)
  have := List.map_inj_left.mp (h ks hk) k hm
  rw [List.getD_eq_getElem?_getD, List.getD_eq_getElem?_getD, List.getElem?_eq_getElem h1, List.getElem?_eq_getElem h2] at this
  exact this
/-- a second sort along the same axis undoes the first -/
theorem sB_sB {ls : List Nat} {i : Nat} {u u' : Bool} {vs : List Int} (b : BoxL ls i) (hv : vs.length = prN ls) : sB ls i u' (sB ls i u vs) = sB ls i u' vs := by
  have hl : (sB ls i u vs).length = prN ls := by rw [sB_len, hv]
  refine box_ext b (by rw [sB_len, hl]) (by rw [sB_len, hv]) fun ks hk => ?_
  rw [sB_get b hl ks hk, sB_get b hv ks hk]
  unfold srtF
  rw [sB_get b hv ks hk]
  unfold srtF
  rw [sortI_of_perm (dirL_perm u _), sortI_fix]
/-- the program's way: ascending into the lines, turned round where the letter is great -/
theorem sB_prog {ls : List Nat} {i : Nat} {u : Bool} {vs : List Int} (b : BoxL ls i) (hv : vs.length = prN ls) : srtTo vs (((lnsX ls i).map (dirL u)).map up) = sB ls i u vs := by
  have e : srtTo vs (((lnsX ls i).map (dirL u)).map up) = fillN (fun ks => sortI (getN vs ks)) ((lnsX ls i).map (dirL u)) vs := by
    unfold srtTo
    rw [srtTo_up]
    rfl
  rw [e]
  have P := box_parts b
  have P2 : PartsN vs.length ((lnsX ls i).map (dirL u)) := by
    rw [hv]
    refine ⟨fun ks hk => ?_, fun ks hk k hm => ?_, ?_⟩
    · obtain ⟨l, hl, rfl⟩ := List.mem_map.mp hk
      exact (dirL_perm u l).nodup_iff.mpr (P.nd l hl)
    · obtain ⟨l, hl, rfl⟩ := List.mem_map.mp hk
      exact P.bd l hl k ((dirL_perm u l).mem_iff.mp hm)
    · rw [List.pairwise_map]
      refine P.apart.imp fun {a c} h k hk hk' => h k ((dirL_perm u a).mem_iff.mp hk) ((dirL_perm u c).mem_iff.mp hk')
  refine box_ext b (by rw [fillN_len, hv]) (by rw [sB_len, hv]) fun ks hk => ?_
  rw [sB_get b hv ks hk]
  have g := fillN_get (f := fun ks => sortI (getN vs ks)) (fun ks => by rw [sortI_len, getN_len]) P2 (dirL u ks) (List.mem_map.mpr ⟨ks, hk, rfl⟩)
  rw [getN_dir] at g
  have g2 := congrArg (dirL u) g
  rw [dirL_twice] at g2
  rw [g2]
  unfold srtF
  rw [getN_dir, sortI_of_perm (dirL_perm u _)]
theorem box_perm {ls : List Nat} {i : Nat} (b : BoxL ls i) : (lnsX ls i).flatten.Perm (List.range (prN ls)) := by
  refine (List.perm_ext_iff_of_nodup b.nd List.nodup_range).mpr fun k => ?_
  rw [List.mem_range, List.mem_flatten]
  constructor
  · rintro ⟨l, hl, hk⟩
    exact b.bd l hl k hk
  · intro hk
    exact b.all k hk
theorem getN_range {vs : List Int} {n : Nat} (h : vs.length = n) : getN vs (List.range n) = vs := by
  apply List.ext_getElem?
  intro k
  unfold getN
  rw [List.getElem?_map]
  by_cases c : k < n
  · rw [List.getElem?_range c]
    show some (vs.getD k 0) = _
    rw [List.getD_eq_getElem?_getD, List.getElem?_eq_getElem (by omega)]
    rfl
  · rw [List.getElem?_eq_none (by rw [List.length_range]; omega), List.getElem?_eq_none (by omega)]
    rfl
theorem getN_flat (vs : List Int) : ∀ ls : List (List Nat), getN vs ls.flatten = (ls.map (getN vs)).flatten
  | [] => rfl
  | l :: ls => by
    rw [List.flatten_cons, List.map_cons, List.flatten_cons, ← getN_flat vs ls]
    unfold getN
    rw [List.map_append]
theorem flat_perm : ∀ {α : Type} {f g : α → List Int} (ls : List α), (∀ l ∈ ls, (f l).Perm (g l)) → ((ls.map f).flatten).Perm ((ls.map g).flatten)
  | _, _, _, [], _ => List.Perm.refl _
  | _, f, g, l :: ls, h => by
    rw [List.map_cons, List.map_cons, List.flatten_cons, List.flatten_cons]
    exact (h l List.mem_cons_self).append (flat_perm ls fun z hz => h z (List.mem_cons_of_mem _ hz))
theorem sB_perm {ls : List Nat} {i : Nat} {u : Bool} {vs : List Int} (b : BoxL ls i) (hv : vs.length = prN ls) : (sB ls i u vs).Perm vs := by
  have key : ∀ x : List Int, x.length = prN ls → x.Perm (((lnsX ls i).map (getN x)).flatten) := fun x hx => by
    rw [← getN_flat]
    have := (box_perm b).map fun k => x.getD k 0
    have e : (List.range (prN ls)).map (fun k => x.getD k 0) = x := getN_range hx
    rw [e] at this
    exact this.symm
  refine (key _ (by rw [sB_len, hv])).trans (List.Perm.trans ?_ (key _ hv).symm)
  refine flat_perm _ fun ks hk => ?_
  rw [sB_get b hv ks hk]
  unfold srtF
  exact (dirL_perm u _).trans (sortI_perm _)
theorem sB9 {ls : List Nat} {i : Nat} {u : Bool} {vs : List Int} (b : BoxL ls i) (h : Vals9 (prN ls) vs) : Vals9 (prN ls) (sB ls i u vs) := h.perm (sB_perm b h.len).symm
/-! ### the law's way: place by place -/
theorem putN_snoc : ∀ {ks : List Nat} {ys acc : List Int} {k : Nat} {y : Int}, ks.length = ys.length → putN acc (ks ++ [k]) (ys ++ [y]) = (putN acc ks ys).set k y
  | [], [], acc, k, y, _ => rfl
  | [], _ :: _, _, _, _, h => by cases h
  | _ :: _, [], _, _, _, h => by cases h
  | k' :: ks, y' :: ys, acc, k, y, h => by
    show putN (acc.set k' y') (ks ++ [k]) (ys ++ [y]) = (putN (acc.set k' y') ks ys).set k y
    exact putN_snoc (Nat.succ.inj h)
theorem fillN_more (f : List Nat → List Int) (ls : List (List Nat)) (ks : List Nat) (acc : List Int) : fillN f (ls ++ [ks]) acc = putN (fillN f ls acc) ks (f ks) := by
  unfold fillN
  rw [List.foldl_append]
  rfl
end KS
namespace KS
open PySem PySem.Spec PyProof.Rows L2
/-! ### the law's own sort, as the kernel decides it -/
def ixM (b : Bool) (r c : Nat) : List (List Nat) :=
  if b = true then (List.range c).map fun j => (List.range r).map fun i => j + i * c
  else (List.range r).map fun i => (List.range c).map fun j => j + i * c
theorem ixL_up (b : Bool) (r c : Nat) : ixL b r c = (ixM b r c).map up := by
  unfold ixL ixM
  cases b with
  | false =>
    rw [if_neg (by decide), if_neg (by decide), List.map_map]
    refine List.map_congr_left fun i _ => ?_
    show _ = up _
    unfold up
    rw [List.map_map]
    rfl
  | true =>
    rw [if_pos rfl, if_pos rfl, List.map_map]
    refine List.map_congr_left fun i _ => ?_
    show _ = up _
    unfold up
    rw [List.map_map]
    rfl
theorem divmod_ix {c i j : Nat} (hj : j < c) : (j + i * c) / c = i ∧ (j + i * c) % c = j := by
  constructor
  · rw [Nat.add_mul_div_right _ _ (by omega), Nat.div_eq_of_lt hj, Nat.zero_add]
  · rw [Nat.add_mul_mod_self_right, Nat.mod_eq_of_lt hj]
theorem ixM_partsA (b : Bool) {r c : Nat} (hr : 1 ≤ r) (hc : 1 ≤ c) : Parts (r * c) (ixM b r c) := by
  unfold ixM
  cases b with
  | false =>
    rw [if_neg (by decide)]
    refine ⟨fun ks hk => ?_, fun ks hk k hm => ?_, ?_⟩
    · obtain ⟨i, hi, rfl⟩ := List.mem_map.mp hk
      rw [List.pairwise_map]
      refine List.pairwise_lt_range.imp fun {a d} h => ?_
      omega
    · obtain ⟨i, hi, rfl⟩ := List.mem_map.mp hk
      obtain ⟨j, hj, rfl⟩ := List.mem_map.mp hm
      exact idx_lt (List.mem_range.mp hi) (List.mem_range.mp hj)
    · rw [List.pairwise_map]
      refine List.pairwise_lt_range.imp fun {a d} h k hk hk' => ?_
      obtain ⟨j, hj, rfl⟩ := List.mem_map.mp hk
      obtain ⟨j', hj', e⟩ := List.mem_map.mp hk'
      have h1 := (divmod_ix (c := c) (i := a) (List.mem_range.mp hj)).1
      have h2 := (divmod_ix (c := c) (i := d) (List.mem_range.mp hj')).1
      rw [← e, h2] at h1
      omega
  | true =>
    rw [if_pos rfl]
    refine ⟨fun ks hk => ?_, fun ks hk k hm => ?_, ?_⟩
    · obtain ⟨j, hj, rfl⟩ := List.mem_map.mp hk
      rw [List.pairwise_map]
      refine List.pairwise_lt_range.imp fun {a d} h => ?_
      have := Nat.mul_lt_mul_of_pos_right h (show 0 < c by omega)
      omega
    · obtain ⟨j, hj, rfl⟩ := List.mem_map.mp hk
      obtain ⟨i, hi, rfl⟩ := List.mem_map.mp hm
      exact idx_lt (List.mem_range.mp hi) (List.mem_range.mp hj)
    · rw [List.pairwise_map]
      refine List.Pairwise.imp_of_mem (fun {a d} ha hd h k hk hk' => ?_) List.pairwise_lt_range
      obtain ⟨i, hi, rfl⟩ := List.mem_map.mp hk
      obtain ⟨i', hi', e⟩ := List.mem_map.mp hk'
      have h1 := (divmod_ix (c := c) (i := i) (List.mem_range.mp ha)).2
      have h2 := (divmod_ix (c := c) (i := i') (List.mem_range.mp hd)).2
      rw [← e, h2] at h1
      omega
theorem ixM_parts (b : Bool) {r c : Nat} (hr : 1 ≤ r) (hc : 1 ≤ c) : PartsN (r * c) (ixM b r c) :=
  have p := ixM_partsA b hr hc
  ⟨fun ks hk => asc_nodup (p.asc ks hk), p.bd, p.apart⟩
theorem srtR_perm {b : Bool} {r c : Nat} {vs : List Int} (hr : 1 ≤ r) (hc : 1 ≤ c) (hl : vs.length = r * c) : (srtR b r c vs).Perm vs := by
  unfold srtR srtTo
  rw [ixL_up, srtTo_up]
  exact fold_perm (by rw [hl]; exact ixM_partsA b hr hc) fun _ _ _ _ => rfl
theorem aftR_tab {r c : Nat} (sd : Sides r c) : ∀ (w : List Bool) {vs : List Int}, Tab (r * c) vs → Tab (r * c) (aftR r c w vs)
  | [], _, h => h
  | b :: w, vs, h => aftR_tab sd w (h.perm (srtR_perm (b := b) sd.r1 sd.c1 h.len).symm)
theorem ord_tab : ∀ {n : Nat} {l : List Int}, l ∈ ordI n → Tab n l
  | 0, l, h => by
    have : l = [] := by simpa [ordI] using h
    subst this
    exact ⟨rfl, List.nodup_nil, fun v hv => by cases hv⟩
  | n + 1, l, h => by
    obtain ⟨m, hm, hl⟩ := List.mem_flatMap.mp h
    obtain ⟨k, _, rfl⟩ := List.mem_map.mp hl
    have t := ord_tab hm
    have p : (insAt m (1 + (n : Int)) k).Perm ((1 + (n : Int)) :: m) := by
      unfold insAt
      rw [List.append_assoc]
      refine List.perm_middle.trans ?_
      show ((1 + (n : Int)) :: (List.take k m ++ List.drop k m)).Perm _
      rw [List.take_append_drop]
    refine Tab.perm (as := (1 + (n : Int)) :: m) ⟨by rw [List.length_cons, t.len], List.nodup_cons.mpr ⟨fun hv => ?_, t.nd⟩, fun v hv => ?_⟩ p.symm
    · have := t.bd _ hv
      omega
    · rcases List.mem_cons.mp hv with z | z
      · omega
      · have := t.bd _ z
        omega
theorem tab_ord {n : Nat} {vs : List Int} (h : Tab n vs) : vs ∈ ordI n := mem_ord h.len h.nd h.bd
theorem srtR_fill (b : Bool) (r c : Nat) (vs : List Int) : srtR b r c vs = fillN (fun ks => sortI (getN vs ks)) (ixM b r c) vs := by
  unfold srtR srtTo
  rw [ixL_up, srtTo_up]
  rfl
theorem srtR_get {b : Bool} {r c : Nat} {vs : List Int} (hr : 1 ≤ r) (hc : 1 ≤ c) (hl : vs.length = r * c) : ∀ ks ∈ ixM b r c, getN (srtR b r c vs) ks = sortI (getN vs ks) := by
  rw [srtR_fill]
  exact fillN_get (fun ks => by rw [sortI_len, getN_len]) (by rw [hl]; exact ixM_parts b hr hc)
theorem flat_get {α : Type} {c : Nat} : ∀ {ls : List (List α)} {i j : Nat}, (∀ l ∈ ls, l.length = c) → j < c → ls.flatten[j + i * c]? = (ls[i]?).bind (·[j]?)
  | [], i, j, _, _ => by simp
  | l :: ls, 0, j, h, hj => by
    have hl := h l (List.mem_cons_self ..)
    rw [List.flatten_cons, Nat.zero_mul, Nat.add_zero, List.getElem?_append_left (by omega)]
    rfl
  | l :: ls, i + 1, j, h, hj => by
    have hl := h l (List.mem_cons_self ..)
    have e : j + (i + 1) * c - l.length = j + i * c := by
      rw [Nat.succ_mul]
      omega
    rw [List.flatten_cons, List.getElem?_append_right (by rw [Nat.succ_mul]; omega), e, flat_get (fun x hx => h x (List.mem_cons_of_mem _ hx)) hj]
    rfl
theorem getN_at' {vs : List Int} {ks : List Nat} {i : Nat} (h : i < ks.length) : vs.getD (ks.getD i 0) 0 = (getN vs ks).getD i 0 := by
  unfold getN
  rw [List.getD_eq_getElem?_getD (l := ks.map _), List.getElem?_map, List.getElem?_eq_getElem h, List.getD_eq_getElem?_getD (l := ks), List.getElem?_eq_getElem h]
  rfl
def sgS (b : Bool) (r c : Nat) (vs : List Int) : List Int := if b = true then colsS r c vs else rowsS r c vs
theorem sgS_len (b : Bool) (r c : Nat) (vs : List Int) : (sgS b r c vs).length = r * c := by
  unfold sgS
  cases b with
  | false =>
    rw [if_neg (by decide)]
    unfold rowsS
    rw [flatL (m := c), List.length_map, List.length_range]
    intro l hl
    obtain ⟨i, _, rfl⟩ := List.mem_map.mp hl
    rw [isort_eq, sortI_len, List.length_map, List.length_range]
  | true =>
    rw [if_pos rfl]
    unfold colsS
    dsimp only
    rw [flatL (m := c), List.length_map, List.length_range]
    intro l hl
    obtain ⟨i, _, rfl⟩ := List.mem_map.mp hl
    rw [List.length_map, List.length_map, List.length_range]
theorem mapR_getD {n i : Nat} (f : Nat → Nat) (h : i < n) : ((List.range n).map f).getD i 0 = f i := by
  rw [List.getD_eq_getElem?_getD, List.getElem?_map, List.getElem?_range h]
  rfl
theorem sgS_at {b : Bool} {r c i j : Nat} {vs : List Int} (hi : i < r) (hj : j < c) : (sgS b r c vs).getD (j + i * c) 0 =
    if b = true then (sortI (getN vs ((List.range r).map fun i => j + i * c))).getD i 0 else (sortI (getN vs ((List.range c).map fun j => j + i * c))).getD j 0 := by
  unfold sgS
  cases b with
  | false =>
    rw [if_neg (by decide), if_neg (by decide)]
    unfold rowsS
    rw [List.getD_eq_getElem?_getD, flat_get (c := c) (fun l hl => by
      obtain ⟨i, _, rfl⟩ := List.mem_map.mp hl
      rw [isort_eq, sortI_len, List.length_map, List.length_range]) hj, List.getElem?_map, List.getElem?_range hi]
    show ((isort _)[j]?).getD 0 = _
    rw [← List.getD_eq_getElem?_getD, isort_eq]
    unfold getN
    rw [List.map_map]
    rfl
  | true =>
    rw [if_pos rfl, if_pos rfl]
    unfold colsS
    dsimp only
    rw [List.getD_eq_getElem?_getD, flat_get (c := c) (fun l hl => by
      obtain ⟨i, _, rfl⟩ := List.mem_map.mp hl
      rw [List.length_map, List.length_map, List.length_range]) hj, List.getElem?_map, List.getElem?_range hi]
    show ((((List.range c).map fun j => isort ((List.range r).map fun i => vs.getD (j + i * c) 0)).map fun l => l.getD i 0)[j]?).getD 0 = _
    rw [List.map_map, List.getElem?_map, List.getElem?_range hj]
    show (isort _).getD i 0 = _
    rw [isort_eq]
    unfold getN
    rw [List.map_map]
    rfl
theorem srtR_at {b : Bool} {r c i j : Nat} {vs : List Int} (hi : i < r) (hj : j < c) (hl : vs.length = r * c) : (srtR b r c vs).getD (j + i * c) 0 =
    if b = true then (sortI (getN vs ((List.range r).map fun i => j + i * c))).getD i 0 else (sortI (getN vs ((List.range c).map fun j => j + i * c))).getD j 0 := by
  have g := srtR_get (b := b) (by omega) (by omega) hl
  cases b with
  | false =>
    rw [if_neg (by decide), ← g ((List.range c).map fun j => j + i * c) (by
      unfold ixM
      rw [if_neg (by decide)]
      exact List.mem_map.mpr ⟨i, List.mem_range.mpr hi, rfl⟩), ← getN_at' (by rw [List.length_map, List.length_range]; exact hj), mapR_getD _ hj]
  | true =>
    rw [if_pos rfl, ← g ((List.range r).map fun i => j + i * c) (by
      unfold ixM
      rw [if_pos rfl]
      exact List.mem_map.mpr ⟨j, List.mem_range.mpr hj, rfl⟩), ← getN_at' (by rw [List.length_map, List.length_range]; exact hi), mapR_getD _ hi]
theorem srtR_eq {b : Bool} {r c : Nat} {vs : List Int} (hr : 1 ≤ r) (hc : 1 ≤ c) (hl : vs.length = r * c) : srtR b r c vs = sgS b r c vs := by
  apply List.ext_getElem
  · rw [srtR_len, hl, sgS_len]
  · intro k h1 h2
    have hk : k < r * c := by rw [sgS_len] at h2; exact h2
    have e : k = k % c + k / c * c := by
      have := Nat.div_add_mod k c
      rw [Nat.mul_comm] at this
      omega
    have hj : k % c < c := Nat.mod_lt _ (by omega)
    have hi : k / c < r := by
      rw [Nat.div_lt_iff_lt_mul (by omega)]
      exact hk
    have a := srtR_at (b := b) hi hj hl
    have z := sgS_at (b := b) (vs := vs) hi hj
    rw [← z, ← e, List.getD_eq_getElem?_getD, List.getD_eq_getElem?_getD, List.getElem?_eq_getElem h1, List.getElem?_eq_getElem h2] at a
    exact a
theorem aftR_eq {r c : Nat} (hr : 1 ≤ r) (hc : 1 ≤ c) : ∀ (w : List Bool) {vs : List Int}, vs.length = r * c → aftR r c w vs = aftS r c w vs
  | [], _, _ => rfl
  | b :: w, vs, hl => by
    show aftR r c w (srtR b r c vs) = aftS r c w (sgS b r c vs)
    rw [srtR_eq hr hc hl]
    exact aftR_eq hr hc w (by rw [sgS_len])
end KS
namespace KS
open PySem PySem.Spec PyProof.Rows L2
theorem nodup_ne {vs : List Int} (nd : vs.Nodup) {p q : Nat} (hpq : p < q) (hq : q < vs.length) : vs.getD p 0 ≠ vs.getD q 0 := by
  rw [List.getD_eq_getElem?_getD, List.getElem?_eq_getElem (show p < vs.length by omega), List.getD_eq_getElem?_getD, List.getElem?_eq_getElem hq]
  exact List.pairwise_iff_getElem.mp nd p q (by omega) hq hpq
theorem map_range_getD {n k : Nat} {f : Nat → Int} (h : k < n) : ((List.range n).map f).getD k 0 = f k := by
  rw [List.getD_eq_getElem?_getD, List.getElem?_map, List.getElem?_range h]
  rfl
theorem rows_get {r c i : Nat} {vs : List Int} (hi : i < r) (hl : vs.length = r * c) : (rowsI r c vs).getD i [] = (List.range c).map fun j => vs.getD (j + i * c) 0 := by
  unfold rowsI
  rw [List.getD_eq_getElem?_getD, List.getElem?_map, List.getElem?_range hi, ← row_eq hi hl]
  rfl
theorem cols_get {r c j : Nat} {vs : List Int} (hj : j < c) (hr : 1 ≤ r) (hl : vs.length = r * c) : (colsI r c vs).getD j [] = (List.range r).map fun i => vs.getD (j + i * c) 0 := by
  unfold colsI
  rw [List.getD_eq_getElem?_getD, List.getElem?_map, List.getElem?_range hj, ← col_eq hj hr hl]
  rfl
theorem all_asc {ls : List (List Int)} (h : ls.all ascB = true) {i : Nat} (hi : i < ls.length) : sortI (ls.getD i []) = ls.getD i [] := by
  have := List.all_eq_true.mp h (ls.getD i []) (by rw [List.getD_eq_getElem?_getD, List.getElem?_eq_getElem hi]; exact List.getElem_mem hi)
  exact of_decide_eq_true this
theorem rows_lt {r c : Nat} {vs : List Int} (sd : Sides r c) (tb : Tab (r * c) vs) (h : (colsI r c vs).all ascB = true) {i k : Nat} (hi : i + 1 < r) (hk : k < c) : ((rowsI r c vs).getD i []).getD k 0 < ((rowsI r c vs).getD (i + 1) []).getD k 0 := by
  have hl := tb.len
  have cl : (colsI r c vs).length = c := by unfold colsI; rw [List.length_map, List.length_range]
  have a := all_asc h (i := k) (by omega)
  rw [cols_get hk sd.r1 hl] at a
  have le := asc_le a (i := i) (j := i + 1) (by omega) (by rw [List.length_map, List.length_range]; exact hi)
  rw [map_range_getD (by omega), map_range_getD hi] at le
  rw [rows_get (by omega) hl, rows_get hi hl, map_range_getD hk, map_range_getD hk]
  have e : k + (i + 1) * c = k + i * c + c := by rw [Nat.add_mul, Nat.one_mul]; omega
  have hc := sd.c1
  have hb : k + (i + 1) * c < vs.length := by
    rw [hl]
    have := Nat.mul_le_mul_right c hi
    rw [Nat.succ_mul] at this
    omega
  have ne := nodup_ne tb.nd (p := k + i * c) (q := k + (i + 1) * c) (by omega) hb
  omega
theorem cols_lt {r c : Nat} {vs : List Int} (sd : Sides r c) (tb : Tab (r * c) vs) (h : (rowsI r c vs).all ascB = true) {i k : Nat} (hi : i + 1 < c) (hk : k < r) : ((colsI r c vs).getD i []).getD k 0 < ((colsI r c vs).getD (i + 1) []).getD k 0 := by
  have hl := tb.len
  have rl : (rowsI r c vs).length = r := by unfold rowsI; rw [List.length_map, List.length_range]
  have a := all_asc h (i := k) (by omega)
  rw [rows_get hk hl] at a
  have le := asc_le a (i := i) (j := i + 1) (by omega) (by rw [List.length_map, List.length_range]; exact hi)
  rw [map_range_getD (by omega), map_range_getD hi] at le
  rw [cols_get (by omega) sd.r1 hl, cols_get hi sd.r1 hl, map_range_getD hk, map_range_getD hk]
  have hb : i + 1 + k * c < vs.length := by
    rw [hl]
    have := Nat.mul_le_mul_right c hk
    rw [Nat.succ_mul] at this
    omega
  have ne := nodup_ne tb.nd (p := i + k * c) (q := i + 1 + k * c) (by omega) hb
  omega
theorem len_of {ls : List (List Int)} {m : Nat} (n : Nat) (hn : ls.length = n) (h : ∀ i, i < n → (ls.getD i []).length = m) : ∀ l ∈ ls, l.length = m := fun l hl => by
  obtain ⟨i, hi, rfl⟩ := List.getElem_of_mem hl
  have := h i (by omega)
  rw [List.getD_eq_getElem?_getD, List.getElem?_eq_getElem hi] at this
  exact this
/-- count_origins tells no negative number -/
theorem orig_nn {r c : Nat} {vs : List Int} {w : List Bool} (sd : Sides r c) (tb : Tab (r * c) vs) : 0 ≤ origI r c vs w := by
  have hl := tb.len
  have rl : (rowsI r c vs).length = r := by unfold rowsI; rw [List.length_map, List.length_range]
  have cl : (colsI r c vs).length = c := by unfold colsI; rw [List.length_map, List.length_range]
  unfold origI
  split
  · exact Int.le_refl _
  · rename_i hc
    have hc2 : (!(fstI r c vs w).all ascB || (decide (w.length = 2) && !(sndI r c vs w).all ascB)) = false := by
      cases e : (!(fstI r c vs w).all ascB || (decide (w.length = 2) && !(sndI r c vs w).all ascB)) with
      | false => rfl
      | true => exact absurd e hc
    rw [Bool.or_eq_false_iff] at hc2
    have h1 : (fstI r c vs w).all ascB = true := by simpa using hc2.1
    refine from_nn ?_ _
    split
    · rename_i h2
      have h3 : (sndI r c vs w).all ascB = true := by
        have := hc2.2
        rw [decide_eq_true h2, Bool.true_and] at this
        simpa using this
      unfold fstI at h1
      unfold sndI at h3 ⊢
      by_cases b : w.getD 0 false = true
      · rw [if_pos b] at h1 h3 ⊢
        refine shuf_nn (m := c) (fun l hm => ⟨?_, of_decide_eq_true (List.all_eq_true.mp h3 l hm)⟩) (fun i hi k hk => rows_lt sd tb h1 (by omega) hk) _ (by have := sd.r1; omega)
        exact len_of r rl (fun i hi => by rw [rows_get hi hl, List.length_map, List.length_range]) l hm
      · rw [if_neg b] at h1 h3 ⊢
        refine shuf_nn (m := r) (fun l hm => ⟨?_, of_decide_eq_true (List.all_eq_true.mp h3 l hm)⟩) (fun i hi k hk => cols_lt sd tb h1 (by omega) hk) _ (by have := sd.c1; omega)
        exact len_of c cl (fun i hi => by rw [cols_get hi sd.r1 hl, List.length_map, List.length_range]) l hm
    · decide
end KS
namespace KS
open PySem PySem.Spec PyProof.Rows L2
/-- l.count(x), l a list of plain data, x plain data -/
def rCntD (K : PySem.W.Frag) : V → List V → Hp → VK → Prop := fun x xs H Q => ∃ (p : Addr) (ys : List V) (ds : List PyData) (y : V) (d : PyData), x = .ref p ∧ xs = [y] ∧ SqL K H p ys ∧ DpAll K H ys ds ∧ Dp K H y d ∧
  PyData.plainAll ds = true ∧ d.plain = true ∧ d.depth ≤ 60 ∧ Q (.int ((ds.countP fun z => PyData.eqv z d : Nat) : Int)) H
theorem mt_lcountD {X : Cx} (hu : X.A.units + 65 < cLine) : MtR X "list.count" (rCntD X.K) := by
  intro pins s σ H x xs v us Q I rx rs h
  obtain ⟨p, ys, ds, y, d, rfl, rfl, hl, hds, hd, p1, p2, dp, q⟩ := h
  cases rx
  obtain ⟨u, rfl, ru⟩ := rs.one
  obtain ⟨its, rv, pl, hlen⟩ := I.list hl
  obtain ⟨as, hr⟩ := Dp.readsAll I ds ys its hds rv
  obtain ⟨bs, r2⟩ := Dp.reads I d y u hd ru
  refine SeqAt.count_list_data pl.isList (by simpa using hr) r2 p1 p2 ?_ ⟨.int _, H, I.tok _, ⟨_, rfl⟩, q⟩
  have h2 : min (PyData.depthAll ds) d.depth ≤ d.depth := Nat.min_le_right _ _
  omega
/-- the tables of a list that are one -/
theorem count_ints (T : List Int) (ls : List (List Int)) : (ls.map lineD).countP (fun z => PyData.eqv z (lineD T)) = ls.count T := by
  rw [List.countP_map, List.count]
  refine List.countP_congr fun l _ => ?_
  show PyData.eqv (lineD l) (lineD T) = true ↔ (l == T) = true
  rw [ints_eqvT]
  simp
theorem plain_ints : ∀ l : List Int, PyData.plainAll (l.map PyData.int) = true
  | [] => rfl
  | x :: l => by
    show (PyData.plain (.int x) && PyData.plainAll (l.map PyData.int)) = true
    rw [plain_ints l]
    rfl
theorem plain_line (l : List Int) : (lineD l).plain = true := by
  show PyData.plainAll (l.map PyData.int) = true
  exact plain_ints l
theorem plain_lines : ∀ ls : List (List Int), PyData.plainAll (ls.map lineD) = true
  | [] => rfl
  | l :: ls => by
    show ((lineD l).plain && PyData.plainAll (ls.map lineD)) = true
    rw [plain_line, plain_lines ls]
    rfl
end KS
namespace KS
open PySem PySem.Spec PyProof.Rows L2
abbrev sSides : Stmt := topS 26
abbrev nSides : List Str := ["_law_pool_here", "_law_most", "_law_short", "_law_long"]
theorem scSides : FnScope nSides ["_law_pool_here", "_law_most"] (defScope sSides) := ⟨rfl, rfl, rfl, by decide +kernel, rfl, by decide +kernel, by decide +kernel⟩
abbrev nMixed : List Str := ["_law_pool_here", "_law_size", "_law_left", "_law_found", "_law_turn"]
abbrev sIs : Stmt := topS 31
theorem scIs : FnScope ["_law_result", "_law_due"] ["_law_result", "_law_due"] (defScope sIs) := ⟨rfl, rfl, rfl, by decide +kernel, rfl, by decide +kernel, by decide +kernel⟩
section
variable {P : Program} {w : World} {K : PySem.W.Frag} {mg : Str → Option Value} {base : Heap}
theorem ok_sides {f fD : Addr} {fd fdD : FuncData} (F : Fun K "_law_sides" "_law_sides" sSides f fd)
    (GD : FnOk P w K mg base CX0 1 fD fdD ["_law_pool_here", "_law_most"] spDraw) (bD : Binds K fdD ["_law_pool_here", "_law_most"] []) (gD : mg "_law_draw" = some (.ref fD)) (kD : PySem.W.keepIn K (.ref fD) = true)
    (mn : mg "min" = none) : FnOk P w K mg base CX0 2 f fd ["_law_pool_here", "_law_most"] spSides := by
  refine F.ok scSides (fun vs H Q E h => ?_) (fun cdv A outer s H vs Q E hr h => ?_)
  · obtain ⟨p, m, rfl, _⟩ := h
    rfl
  · obtain ⟨p, m, rfl, po, m0, m1, q⟩ := h
    have nd := scSides.nd
    refine ⟨_, pss_cons (ps_set (i := 2) nd rfl (.inl rfl) (pe_op op_add pe_int (pe_call GD hr (by rfl) gD kD bD .nil pass0 (pa_cons (pv 0) (pa_cons (pe_callB (call_min2 rfl) (by rfl) mn (by decide +kernel) (pa_cons pe_int (pa_cons (pv 1) pa_nil))) pa_nil)))))
      (pss_cons (ps_set (i := 3) nd rfl (.inl rfl) (pe_op op_add pe_int (pe_call GD hr (by rfl) gD kD bD .nil pass0 (pa_cons (pv 0) (pa_cons (pe_op op_fdiv (pv 1) (pv 2)) pa_nil)))))
      (pss_one (ps_ret (pe_ifExp (pt_cmpR op_eq (pe_call GD hr (by rfl) gD kD bD .nil pass0 (pa_cons (pv 0) (pa_cons pe_int pa_nil))) pe_int (nomark _))
        (pe_tup (pa_cons (pv 2) (pa_cons (pv 3) pa_nil))) (pe_tup (pa_cons (pv 3) (pa_cons (pv 2) pa_nil))))))), ?_⟩
    refine ⟨_, rfl, _, rfl, _, _, rfl, p, _, rfl, po, ?_, ?_, fun H1 r k1 po1 r0 r1 => ?_⟩
    · split <;> omega
    · split <;> omega
    have r2 : r < 5 ∧ r < (m : Int) := by
      revert r1
      split <;> intro r1 <;> omega
    refine ⟨_, _, rfl, rfl, ?_⟩
    obtain ⟨sh, hsh⟩ : ∃ sh : Nat, 1 + r = (sh : Int) := ⟨(1 + r).toNat, by omega⟩
    have hs1 : 1 ≤ sh ∧ sh ≤ m := by omega
    have hs5 : sh ≤ 5 := by omega
    show (tSeq _ _) _ [some (.ref p), some (.int (m : Int)), some (.int (1 + r)), none] H1
    rw [hsh]
    have dq : 1 ≤ m / sh := by
      rw [Nat.le_div_iff_mul_le (by omega)]
      omega
    have dm : m / sh ≤ m := Nat.div_le_self m sh
    have ed : (m : Int) / (sh : Int) = ((m / sh : Nat) : Int) := by rw [Int.natCast_ediv]
    refine ⟨_, rfl, _, rfl, _, rfl, _, _, rfl, rfl, ⟨by omega, by omega⟩, p, (m : Int) / (sh : Int), rfl, po1, by rw [ed]; omega, by rw [ed]; omega, fun H2 r' k2 po2 r0' r1' => ?_⟩
    rw [ed] at r1'
    refine ⟨_, _, rfl, rfl, ?_⟩
    obtain ⟨lo, hlo⟩ : ∃ lo : Nat, 1 + r' = (lo : Int) := ⟨(1 + r').toNat, by omega⟩
    show gName 3 (V.int (1 + r')) _ _ _
    rw [hlo]
    have hl1 : 1 ≤ lo ∧ lo ≤ m / sh := by omega
    have pr : sh * lo ≤ m := by
      have h1 : sh * lo ≤ sh * (m / sh) := Nat.mul_le_mul_left sh hl1.2
      have h2 : sh * (m / sh) ≤ m := Nat.mul_div_le m sh
      omega
    refine ⟨_, rfl, p, 2, rfl, po2, by decide, by decide, fun H3 r3 k3 po3 _ _ => ⟨rfl, _, rfl, ite2 (fun e => ?_) (fun e => ?_)⟩⟩
    · refine ⟨_, rfl, _, rfl, (by show 2 ≤ sizeLine; decide), fun t nt => ?_⟩
      have s1 := same_new (o := .tup [.int ((sh : Nat) : Int), .int ((lo : Nat) : Int)]) nt
      exact q _ t sh lo (((k1.trans k2).trans k3).trans (.of_same s1)) (po3.same s1) upd_same ⟨hs1.1, hl1.1, by omega⟩ pr
    · refine ⟨_, rfl, _, rfl, (by show 2 ≤ sizeLine; decide), fun t nt => ?_⟩
      have s1 := same_new (o := .tup [.int ((lo : Nat) : Int), .int ((sh : Nat) : Int)]) nt
      have pr' : lo * sh ≤ m := by rw [Nat.mul_comm]; exact pr
      exact q _ t lo sh (((k1.trans k2).trans k3).trans (.of_same s1)) (po3.same s1) upd_same ⟨hl1.1, hs1.1, by omega⟩ pr'
theorem ok_is {f : Addr} {fd : FuncData} (F : Fun K "_law_is" "_law_is" sIs f fd) (mi : mg "isinstance" = none) (mI : mg "int" = none) (mB : mg "bool" = none) : FnOk P w K mg base CX0 1 f fd ["_law_result", "_law_due"] spIs := by
  refine F.ok scIs (fun vs H Q E h => ?_) (fun cdv A outer s H vs Q E hr h => ?_)
  · obtain ⟨i, j, rfl, _⟩ := h
    rfl
  · obtain ⟨i, j, rfl, q⟩ := h
    refine ⟨_, pss_one (ps_ret (pe_and (pe_callB call_isi (by rfl) mi (by decide +kernel) (pa_cons (pv 0) (pa_cons (pe_bltn (v := .ty "int") (by rfl) mI (by decide +kernel) rfl) pa_nil)))
      (pe_and (pe_not (pe_callB call_isi (by rfl) mi (by decide +kernel) (pa_cons (pv 0) (pa_cons (pe_bltn (v := .ty "bool") (by rfl) mB (by decide +kernel) rfl) pa_nil))))
      (pe_one (pe_cmpR op_eq (pv 0) (pv 1) (nomark _)))))), ?_⟩
    refine ⟨_, rfl, _, _, _, _, true, rfl, .ty "int", .base (.int i), kit_ty (by decide +kernel), true, rfl, ?_⟩
    refine ⟨_, rfl, _, _, _, _, false, rfl, .ty "bool", .base (.int i), kit_ty (by decide +kernel), false, rfl, true, rfl, ?_⟩
    refine ⟨_, rfl, _, rfl, rfl, ?_⟩
    have e : decide (V.int i = V.int j) = decide (i = j) := by
      by_cases c : i = j
      · rw [c]
        simp
      · rw [decide_eq_false c, decide_eq_false fun z => c (V.int.inj z)]
    rw [e]
    exact q
end
end KS
namespace KS
open PySem PySem.Spec PyProof.Rows L2
/-! ### programs: words, and repeats of steps -/
inductive Stp
  | w (l : List Bool)
  | r (n : Int) (b : List Stp)
mutual
def Stp.steps : Stp → Nat
  | .w _ => 1
  | .r _ b => 1 + stepsL b
def stepsL : List Stp → Nat
  | [] => 0
  | s :: b => s.steps + stepsL b
end
mutual
def Stp.nest : Stp → Nat
  | .w _ => 0
  | .r _ b => 1 + nestL b
def nestL : List Stp → Nat
  | [] => 0
  | s :: b => max s.nest (nestL b)
end
mutual
def Stp.ok : Stp → Prop
  | .w l => l ≠ [] ∧ l.length ≤ 400
  | .r n b => 1 ≤ n ∧ n ≤ 10 ^ 30 ∧ okL b
def okL : List Stp → Prop
  | [] => True
  | s :: b => s.ok ∧ okL b
end
mutual
def Stp.cnt (k : Bool) : Stp → Int
  | .w l => ((l.countP fun b => b == k : Nat) : Int)
  | .r n b => n * cntL k b
def cntL (k : Bool) : List Stp → Int
  | [] => 0
  | s :: b => s.cnt k + cntL k b
end
theorem stepsL_app : ∀ a b : List Stp, stepsL (a ++ b) = stepsL a + stepsL b
  | [], b => by rw [List.nil_append]; simp only [stepsL]; omega
  | s :: a, b => by
    rw [List.cons_append]
    simp only [stepsL]
    rw [stepsL_app a b]
    omega
theorem nestL_app : ∀ a b : List Stp, nestL (a ++ b) = max (nestL a) (nestL b)
  | [], b => by rw [List.nil_append]; simp only [nestL]; omega
  | s :: a, b => by
    rw [List.cons_append]
    simp only [nestL]
    rw [nestL_app a b]
    omega
theorem okL_app : ∀ {a b : List Stp}, okL (a ++ b) ↔ okL a ∧ okL b
  | [], b => by rw [List.nil_append]; simp only [okL]; exact ⟨fun h => ⟨trivial, h⟩, fun h => h.2⟩
  | s :: a, b => by
    rw [List.cons_append]
    simp only [okL]
    rw [okL_app (a := a)]
    exact ⟨fun ⟨x, y, z⟩ => ⟨⟨x, y⟩, z⟩, fun ⟨⟨x, y⟩, z⟩ => ⟨x, y, z⟩⟩
theorem cntL_app (k : Bool) : ∀ a b : List Stp, cntL k (a ++ b) = cntL k a + cntL k b
  | [], b => by rw [List.nil_append]; simp only [cntL]; omega
  | s :: a, b => by
    rw [List.cons_append]
    simp only [cntL]
    rw [cntL_app k a b]
    omega
theorem nest_mem : ∀ {b : List Stp} {s : Stp}, s ∈ b → s.nest ≤ nestL b
  | [], _, h => by cases h
  | x :: b, s, h => by
    simp only [nestL]
    rcases List.mem_cons.mp h with e | h
    · subst e
      omega
    · have := nest_mem h
      omega
theorem ok_mem : ∀ {b : List Stp} {s : Stp}, okL b → s ∈ b → s.ok
  | [], _, _, h => by cases h
  | x :: b, s, o, h => by
    simp only [okL] at o
    rcases List.mem_cons.mp h with e | h
    · subst e
      exact o.1
    · exact ok_mem o.2 h
theorem steps_pos (s : Stp) : 1 ≤ s.steps := by
  cases s with
  | w => simp only [Stp.steps]; omega
  | r => simp only [Stp.steps]; omega
/-! ### the counts are not too large -/
mutual
theorem cnt_bd (k : Bool) : ∀ s : Stp, s.ok → 0 ≤ s.cnt k ∧ s.cnt k ≤ 400 * (s.steps : Nat) * (10 ^ 30) ^ s.nest
  | .w l, h => by
    simp only [Stp.ok] at h
    simp only [Stp.cnt, Stp.steps, Stp.nest]
    have := List.countP_le_length (p := fun b => b == k) (l := l)
    have e : ((10 : Int) ^ 30) ^ 0 = 1 := rfl
    rw [e]
    omega
  | .r n b, h => by
    simp only [Stp.ok] at h
    obtain ⟨h1, h2, h3⟩ := h
    obtain ⟨a1, a2⟩ := cntL_bd k b h3
    simp only [Stp.cnt, Stp.steps, Stp.nest]
    constructor
    · exact Int.mul_nonneg (by omega) a1
    · have e : ((10 : Int) ^ 30) ^ (1 + nestL b) = (10 ^ 30) * (10 ^ 30) ^ nestL b := by rw [Nat.add_comm, Int.pow_succ, Int.mul_comm]
      have m1 : n * cntL k b ≤ (10 ^ 30) * (400 * (stepsL b : Nat) * (10 ^ 30) ^ nestL b) := Int.mul_le_mul h2 a2 a1 (by omega)
      have p0 : (0 : Int) ≤ (10 ^ 30) ^ nestL b := Int.pow_nonneg (by omega)
      have e2 : (10 ^ 30 : Int) * (400 * (stepsL b : Nat) * (10 ^ 30) ^ nestL b) = 400 * (stepsL b : Nat) * ((10 ^ 30) * (10 ^ 30) ^ nestL b) := Int.mul_left_comm _ _ _
      have m2 : (400 : Int) * (stepsL b : Nat) * ((10 ^ 30) * (10 ^ 30) ^ nestL b) ≤ 400 * ((1 + stepsL b : Nat) : Int) * ((10 ^ 30) * (10 ^ 30) ^ nestL b) := Int.mul_le_mul_of_nonneg_right (by omega) (Int.mul_nonneg (by omega) p0)
      rw [e]
      rw [e2] at m1
      exact Int.le_trans m1 m2
theorem cntL_bd (k : Bool) : ∀ b : List Stp, okL b → 0 ≤ cntL k b ∧ cntL k b ≤ 400 * (stepsL b : Nat) * (10 ^ 30) ^ nestL b
  | [], _ => by
    simp only [cntL, stepsL, nestL]
    omega
  | s :: b, h => by
    simp only [okL] at h
    obtain ⟨a1, a2⟩ := cnt_bd k s h.1
    obtain ⟨b1, b2⟩ := cntL_bd k b h.2
    simp only [cntL, stepsL, nestL]
    refine ⟨by omega, ?_⟩
    have ms : ((10 : Int) ^ 30) ^ s.nest ≤ (10 ^ 30) ^ (max s.nest (nestL b)) := by
      have : ((10 ^ 30 : Nat)) ^ s.nest ≤ (10 ^ 30) ^ (max s.nest (nestL b)) := Nat.pow_le_pow_right (by decide) (by omega)
      exact_mod_cast this
    have mb : ((10 : Int) ^ 30) ^ nestL b ≤ (10 ^ 30) ^ (max s.nest (nestL b)) := by
      have : ((10 ^ 30 : Nat)) ^ nestL b ≤ (10 ^ 30) ^ (max s.nest (nestL b)) := Nat.pow_le_pow_right (by decide) (by omega)
      exact_mod_cast this
    have c1 : (400 : Int) * (s.steps : Nat) * (10 ^ 30) ^ s.nest ≤ 400 * (s.steps : Nat) * (10 ^ 30) ^ (max s.nest (nestL b)) := Int.mul_le_mul_of_nonneg_left ms (by omega)
    have c2 : (400 : Int) * (stepsL b : Nat) * (10 ^ 30) ^ nestL b ≤ 400 * (stepsL b : Nat) * (10 ^ 30) ^ (max s.nest (nestL b)) := Int.mul_le_mul_of_nonneg_left mb (by omega)
    have e : (400 : Int) * ((s.steps + stepsL b : Nat) : Int) * (10 ^ 30) ^ (max s.nest (nestL b)) = 400 * (s.steps : Nat) * (10 ^ 30) ^ (max s.nest (nestL b)) + 400 * (stepsL b : Nat) * (10 ^ 30) ^ (max s.nest (nestL b)) := by
      rw [← Int.add_mul]
      congr 1
      omega
    rw [e]
    omega
end
theorem cntL_big {k : Bool} {b : List Stp} (h : okL b) (hs : stepsL b ≤ 200) (hn : nestL b ≤ 5) : 0 ≤ cntL k b ∧ cntL k b < 10 ^ 160 := by
  obtain ⟨a1, a2⟩ := cntL_bd k b h
  refine ⟨a1, ?_⟩
  have p : ((10 : Int) ^ 30) ^ nestL b ≤ (10 ^ 30) ^ 5 := by
    have : ((10 ^ 30 : Nat)) ^ nestL b ≤ (10 ^ 30) ^ 5 := Nat.pow_le_pow_right (by decide) hn
    exact_mod_cast this
  have p0 : (0 : Int) ≤ (10 ^ 30) ^ nestL b := Int.pow_nonneg (by omega)
  have m : (400 : Int) * (stepsL b : Nat) * (10 ^ 30) ^ nestL b ≤ 80000 * (10 ^ 30) ^ 5 := Int.mul_le_mul (by omega) p p0 (by omega)
  have e : (80000 : Int) * (10 ^ 30) ^ 5 < 10 ^ 160 := by decide +kernel
  omega
/-! ### multiplied, however large -/
def CBig (i j : Int) : Prop := 0 ≤ i ∧ i < 10 ^ 170 ∧ 0 ≤ j ∧ j < 10 ^ 170
theorem bits_big {i : Int} (h0 : 0 ≤ i) (h1 : i < 10 ^ 170) : Builtin.Int.intBits i ≤ 2 ^ 20 := by
  refine intBits_le_iff.mpr ?_
  have e : (10 : Nat) ^ 170 < 2 ^ 600 := by decide +kernel
  have e2 : (2 : Nat) ^ 600 ≤ 2 ^ (2 ^ 20) := Nat.pow_le_pow_right (by decide) (by decide)
  have : i.natAbs < 10 ^ 170 := by
    obtain ⟨n, rfl⟩ := Int.eq_ofNat_of_zero_le h0
    rw [Int.natAbs_natCast]
    exact_mod_cast h1
  omega
theorem op_mulB {X : Cx} : OpR X (binaryOp .Mult) (rI CBig fun i j => .int (i * j)) := opI fun _ _ _ _ _ _ _ hc q => mul_int q (IntMulOk.of_bits (bits_big hc.1 hc.2.1) (bits_big hc.2.2.1 hc.2.2.2))
end KS
namespace KS
open PySem PySem.Spec PyProof.Rows L2
/-! ### programs as they lie there -/
mutual
inductive StA (K : PySem.W.Frag) (H : Hp) : V → Stp → Prop
  | w (l : List Bool) : StA K H (.str (wS l)) (.w l)
  | r {t b : Addr} {n : Int} {xs : List V} {ss : List Stp} : SqT K H t [.str "repeat", .int n, .ref b] → SqT K H b xs → StsA K H xs ss → StA K H (.ref t) (.r n ss)
inductive StsA (K : PySem.W.Frag) (H : Hp) : List V → List Stp → Prop
  | nil : StsA K H [] []
  | cons {v : V} {s : Stp} {vs : List V} {ss : List Stp} : StA K H v s → StsA K H vs ss → StsA K H (v :: vs) (s :: ss)
end
mutual
theorem StA.kt {K : PySem.W.Frag} {H H' : Hp} (k : KT K H H') : ∀ {v : V} {s : Stp}, StA K H v s → StA K H' v s
  | _, _, .w l => .w l
  | _, _, .r h1 h2 h3 => .r (k _ _ h1) (k _ _ h2) (StsA.kt k h3)
theorem StsA.kt {K : PySem.W.Frag} {H H' : Hp} (k : KT K H H') : ∀ {vs : List V} {ss : List Stp}, StsA K H vs ss → StsA K H' vs ss
  | _, _, .nil => .nil
  | _, _, .cons h1 h2 => .cons (StA.kt k h1) (StsA.kt k h2)
end
theorem StsA.len {K : PySem.W.Frag} {H : Hp} : ∀ {vs : List V} {ss : List Stp}, StsA K H vs ss → vs.length = ss.length
  | _, _, .nil => rfl
  | _, _, .cons _ h => congrArg (· + 1) (StsA.len h)
theorem StsA.get {K : PySem.W.Frag} {H : Hp} : ∀ {vs : List V} {ss : List Stp}, StsA K H vs ss → ∀ {i : Nat} {v : V}, vs[i]? = some v → ∃ s, ss[i]? = some s ∧ StA K H v s
  | _, _, .nil, i, v, e => by cases e
  | _, _, .cons h1 h2, 0, v, e => by
    cases e
    exact ⟨_, rfl, h1⟩
  | _, _, .cons h1 h2, i + 1, v, e => StsA.get h2 e
theorem StsA.app {K : PySem.W.Frag} {H : Hp} : ∀ {vs ws : List V} {ss ts : List Stp}, StsA K H vs ss → StsA K H ws ts → StsA K H (vs ++ ws) (ss ++ ts)
  | _, _, _, _, .nil, h => h
  | _, _, _, _, .cons h1 h2, h => .cons h1 (StsA.app h2 h)
/-- a program: a tuple of steps -/
def PgA (K : PySem.W.Frag) (H : Hp) (t : Addr) (ss : List Stp) : Prop := ∃ xs, SqT K H t xs ∧ StsA K H xs ss
theorem PgA.kt {K : PySem.W.Frag} {H H' : Hp} (k : KT K H H') {t : Addr} {ss : List Stp} (h : PgA K H t ss) : PgA K H' t ss := by
  obtain ⟨xs, h1, h2⟩ := h
  exact ⟨xs, k _ _ h1, h2.kt k⟩
theorem stepsL_take {ss : List Stp} {i : Nat} {s : Stp} (h : ss[i]? = some s) : stepsL (ss.take (i + 1)) = stepsL (ss.take i) + s.steps ∧ stepsL (ss.take i) + s.steps ≤ stepsL ss := by
  have e : stepsL (ss.take (i + 1)) = stepsL (ss.take i) + s.steps := by
    rw [List.take_add_one, h, stepsL_app]
    show _ + stepsL [s] = _
    simp only [stepsL]
    omega
  refine ⟨e, ?_⟩
  rw [← e]
  have := stepsL_app (ss.take (i + 1)) (ss.drop (i + 1))
  rw [List.take_append_drop] at this
  omega
theorem cntL_take {k : Bool} {ss : List Stp} {i : Nat} {s : Stp} (h : ss[i]? = some s) : cntL k (ss.take (i + 1)) = cntL k (ss.take i) + s.cnt k := by
  rw [List.take_add_one, h, cntL_app]
  show _ + cntL k [s] = _
  simp only [cntL]
  omega
/-! ### letters counted -/
theorem cnt_ltr (k : Bool) : ∀ l : List Bool, PyProof.Rows.cnt (ltr k) (l.map ltr) = ((l.countP fun b => b == k : Nat) : Int)
  | [] => cnt_nil _
  | b :: l => by
    rw [List.map_cons, cnt_cons, cnt_ltr k l, List.countP_cons]
    cases k <;> cases b <;> simp [ltr] <;> omega
theorem count_wS (k : Bool) (l : List Bool) : Txt.count (wS l) ⟨#[ltr k]⟩ = ((l.countP fun b => b == k : Nat) : Int) := by
  rw [count_cnt]
  exact cnt_ltr k l
theorem wS_ne {l : List Bool} (h : l ≠ []) : V.bl (!decide (V.str (wS l) = V.str "")) = V.bl true := by
  have : V.str (wS l) ≠ V.str "" := fun e => by
    have e := V.str.inj e
    have e2 := wS_len l
    rw [e] at e2
    have e0 : ("" : Str).length = 0 := by decide +kernel
    rw [e0] at e2
    exact h (List.length_eq_zero_iff.mp e2.symm)
  rw [decide_eq_false this]
  rfl
/-! ### the promises -/
def spIsWordG : Sp := fun xs H Q _ => ∃ l : List Bool, xs = [.str (wS l)] ∧ l.length ≤ 400 ∧ ∀ H', Same H H' → Q (.bl true) H'
def spIsRep (K : PySem.W.Frag) : Sp := fun xs H Q _ => ∃ (t b : Addr) (n : Int) (ys : List V), xs = [.ref t] ∧ SqT K H t [.str "repeat", .int n, .ref b] ∧ SqT K H b ys ∧ 1 ≤ n ∧ n ≤ 10 ^ 30 ∧ Q (.bl true) H
def spCS (K : PySem.W.Frag) (m : Nat) : Sp := fun xs H Q _ => ∃ (v : V) (s : Stp) (d room : Int), xs = [v, .int d, .int room] ∧ StA K H v s ∧ s.ok ∧ s.nest ≤ m ∧ 1 ≤ d ∧ d + (s.nest : Nat) ≤ 5 ∧ (s.steps : Nat) ≤ room ∧ ∀ H', Same H H' → Q (.int (s.steps : Nat)) H'
def spCP (K : PySem.W.Frag) : Sp := fun xs H Q _ => ∃ (t : Addr) (ss : List Stp), xs = [.ref t] ∧ PgA K H t ss ∧ okL ss ∧ nestL ss ≤ 4 ∧ stepsL ss ≤ 60 ∧ ∀ H', Same H H' → Q .non H'
def spSrt (K : PySem.W.Frag) (m : Nat) : Sp := fun xs H Q _ => ∃ (t : Addr) (ss : List Stp), xs = [.ref t] ∧ PgA K H t ss ∧ okL ss ∧ nestL ss ≤ m ∧ nestL ss ≤ 4 ∧ stepsL ss ≤ 60 ∧ ∀ H' u, Same H H' → H' u = some (.tup [.int (cntL false ss), .int (cntL true ss)]) → Q (.ref u) H'
def spOps (K : PySem.W.Frag) : Sp := fun xs H Q _ => ∃ (t : Addr) (ss : List Stp), xs = [.ref t] ∧ PgA K H t ss ∧ okL ss ∧ nestL ss ≤ 4 ∧ stepsL ss ≤ 60 ∧ ∀ H' u, Same H H' → H' u = some (.tup [.int (cntL false ss), .int (cntL true ss)]) → Q (.ref u) H'
end KS
namespace KS
open PySem PySem.Spec PyProof.Rows L2
theorem pe_never {X : Cx} {e : Expr} : PE X e (fun _ _ _ => False) := ⟨fun _ _ _ _ _ _ h => h.elim⟩
/-! ### small programs, spelt out -/
mutual
def Stp.sm : Stp → Prop
  | .w l => l.length ≤ 6
  | .r n b => n ≤ 3 ∧ smL b
def smL : List Stp → Prop
  | [] => True
  | s :: b => s.sm ∧ smL b
end
theorem smL_app : ∀ {a b : List Stp}, smL (a ++ b) ↔ smL a ∧ smL b
  | [], b => by rw [List.nil_append]; simp only [smL]; exact ⟨fun h => ⟨trivial, h⟩, fun h => h.2⟩
  | s :: a, b => by
    rw [List.cons_append]
    simp only [smL]
    rw [smL_app (a := a)]
    exact ⟨fun ⟨x, y, z⟩ => ⟨⟨x, y⟩, z⟩, fun ⟨⟨x, y⟩, z⟩ => ⟨x, y, z⟩⟩
theorem sm_mem : ∀ {b : List Stp} {s : Stp}, smL b → s ∈ b → s.sm
  | [], _, _, h => by cases h
  | x :: b, s, o, h => by
    simp only [smL] at o
    rcases List.mem_cons.mp h with e | h
    · subst e
      exact o.1
    · exact sm_mem o.2 h
mutual
def Stp.spell : Stp → List Bool
  | .w l => l
  | .r n b => (List.replicate n.toNat (spellL b)).flatten
def spellL : List Stp → List Bool
  | [] => []
  | s :: b => s.spell ++ spellL b
end
theorem spellL_app : ∀ a b : List Stp, spellL (a ++ b) = spellL a ++ spellL b
  | [], b => rfl
  | s :: a, b => by
    rw [List.cons_append]
    simp only [spellL]
    rw [spellL_app a b, List.append_assoc]
theorem spellL_take {ss : List Stp} {i : Nat} {s : Stp} (h : ss[i]? = some s) : spellL (ss.take (i + 1)) = spellL (ss.take i) ++ s.spell := by
  rw [List.take_add_one, h, spellL_app]
  show _ ++ spellL [s] = _
  simp only [spellL, List.append_nil]
theorem countP_rep (k : Bool) (l : List Bool) : ∀ n : Nat, ((List.replicate n l).flatten).countP (fun b => b == k) = n * l.countP fun b => b == k
  | 0 => by rw [Nat.zero_mul]; rfl
  | n + 1 => by
    rw [List.replicate_succ, List.flatten_cons, List.countP_append, countP_rep k l n, Nat.succ_mul, Nat.add_comm]
mutual
theorem spell_cnt (k : Bool) : ∀ s : Stp, s.ok → ((s.spell.countP fun b => b == k : Nat) : Int) = s.cnt k
  | .w l, _ => by simp only [Stp.spell, Stp.cnt]
  | .r n b, h => by
    simp only [Stp.ok] at h
    simp only [Stp.spell, Stp.cnt]
    rw [countP_rep, Int.natCast_mul, spellL_cnt k b h.2.2, Int.toNat_of_nonneg (by omega)]
theorem spellL_cnt (k : Bool) : ∀ b : List Stp, okL b → (((spellL b).countP fun b => b == k : Nat) : Int) = cntL k b
  | [], _ => by simp only [spellL, cntL]; rfl
  | s :: b, h => by
    simp only [okL] at h
    simp only [spellL, cntL]
    rw [List.countP_append, Int.natCast_add, spell_cnt k s h.1, spellL_cnt k b h.2]
end
mutual
theorem spell_len : ∀ s : Stp, s.sm → s.ok → s.spell.length ≤ 6 * s.steps * 3 ^ s.nest
  | .w l, h, _ => by
    simp only [Stp.sm] at h
    simp only [Stp.spell, Stp.steps, Stp.nest]
    omega
  | .r n b, h, o => by
    simp only [Stp.sm] at h
    simp only [Stp.ok] at o
    have ih := spellL_len b h.2 o.2.2
    simp only [Stp.spell, Stp.steps, Stp.nest]
    rw [List.length_flatten, List.map_replicate, List.sum_replicate_nat]
    have e : 3 ^ (1 + nestL b) = 3 * 3 ^ nestL b := by rw [Nat.add_comm, Nat.pow_succ, Nat.mul_comm]
    rw [e]
    have m1 : n.toNat * (spellL b).length ≤ 3 * (6 * stepsL b * 3 ^ nestL b) := Nat.mul_le_mul (by omega) ih
    have e2 : 3 * (6 * stepsL b * 3 ^ nestL b) = 6 * stepsL b * (3 * 3 ^ nestL b) := Nat.mul_left_comm _ _ _
    have m2 : 6 * stepsL b * (3 * 3 ^ nestL b) ≤ 6 * (1 + stepsL b) * (3 * 3 ^ nestL b) := Nat.mul_le_mul_right _ (by omega)
    omega
theorem spellL_len : ∀ b : List Stp, smL b → okL b → (spellL b).length ≤ 6 * stepsL b * 3 ^ nestL b
  | [], _, _ => by simp only [spellL, stepsL, nestL]; decide
  | s :: b, h, o => by
    simp only [smL] at h
    simp only [okL] at o
    have i1 := spell_len s h.1 o.1
    have i2 := spellL_len b h.2 o.2
    simp only [spellL, stepsL, nestL]
    rw [List.length_append]
    have p1 : 3 ^ s.nest ≤ 3 ^ (max s.nest (nestL b)) := Nat.pow_le_pow_right (by decide) (by omega)
    have p2 : 3 ^ nestL b ≤ 3 ^ (max s.nest (nestL b)) := Nat.pow_le_pow_right (by decide) (by omega)
    have m1 : 6 * s.steps * 3 ^ s.nest ≤ 6 * s.steps * 3 ^ (max s.nest (nestL b)) := Nat.mul_le_mul_left _ p1
    have m2 : 6 * stepsL b * 3 ^ nestL b ≤ 6 * stepsL b * 3 ^ (max s.nest (nestL b)) := Nat.mul_le_mul_left _ p2
    have e : 6 * (s.steps + stepsL b) * 3 ^ (max s.nest (nestL b)) = 6 * s.steps * 3 ^ (max s.nest (nestL b)) + 6 * stepsL b * 3 ^ (max s.nest (nestL b)) := by rw [Nat.mul_add, Nat.add_mul]
    omega
end
theorem spellL_small {b : List Stp} (h : smL b) (o : okL b) (hs : stepsL b ≤ 12) (hn : nestL b ≤ 2) : (spellL b).length ≤ 648 := by
  have i := spellL_len b h o
  have p : 3 ^ nestL b ≤ 3 ^ 2 := Nat.pow_le_pow_right (by decide) hn
  have m : 6 * stepsL b * 3 ^ nestL b ≤ 72 * 3 ^ 2 := Nat.mul_le_mul (by omega) p
  omega
/-- a word, however often -/
def rRepG : R2 := fun x y H Q => ∃ (wd : List Bool) (n : Int), x = .str (wS wd) ∧ y = .int n ∧ 1 ≤ n ∧ n ≤ 400 ∧ wd.length ≤ 1000 ∧ Q (.str (wS (List.replicate n.toNat wd).flatten)) H
theorem op_repG {X : Cx} : OpR X (binaryOp .Mult) rRepG := by
  intro pins s σ H x y v u Q I rx ry h
  obtain ⟨wd, n, rfl, rfl, n0, n1, w1, q⟩ := h
  obtain ⟨t, rfl⟩ := rx
  obtain ⟨t', rfl⟩ := ry
  have e1 : ¬ (n < 1) := by omega
  have hl := wS_len wd
  have hm : wd.length * n.toNat ≤ 400000 := Nat.mul_le_mul w1 (show n.toNat ≤ 400 by omega)
  refine P.mul_str ?_ ?_ ?_ ?_
  · have h1 : ¬ n < -(2 ^ 63 : Int) := by omega
    have h2 : ¬ n ≥ 2 ^ 63 := by omega
    rw [decide_eq_false h1, decide_eq_false h2]
    rfl
  · intro _ _
    rw [hl]
    have : (wd.length : Int) ≤ (2 ^ 63 - 1) / n := (Int.le_ediv_iff_mul_le (by omega)).mpr (by
      have : ((wd.length * n.toNat : Nat) : Int) ≤ 400000 := by omega
      rw [Int.natCast_mul, Int.toNat_of_nonneg (by omega)] at this
      omega)
    omega
  · intro _ _
    refine decide_eq_false ?_
    rw [hl, sizeLine_eq]
    omega
  · rw [if_neg e1]
    by_cases z : ((n == 1) || ((wS wd).length == 0)) = true
    · rw [if_pos z]
      have ez : wS wd = wS (List.replicate n.toNat wd).flatten := by
        rw [Bool.or_eq_true] at z
        rcases z with z | z
        · have : n = 1 := by simpa using z
          subst this
          show wS wd = wS (wd ++ [])
          rw [List.append_nil]
        · rw [hl] at z
          have : wd = [] := List.length_eq_zero_iff.mp (by simpa using z)
          subst this
          congr 1
          have : ∀ k : Nat, (List.replicate k ([] : List Bool)).flatten = [] := fun k => by
            induction k with
            | zero => rfl
            | succ k ih => rw [List.replicate_succ, List.flatten_cons, ih]; rfl
          rw [this]
      rw [ez] at *
      first | exact ⟨.str (wS (List.replicate n.toNat wd).flatten), H, I, ⟨_, rfl⟩, q⟩ | exact ⟨.str (wS (List.replicate n.toNat wd).flatten), H, I.tok _, ⟨_, rfl⟩, q⟩
    · rw [if_neg z]
      have ez : (⟨(List.replicate n.toNat (wS wd).cps).foldl (· ++ ·) #[]⟩ : Str) = wS (List.replicate n.toNat wd).flatten := by
        show (⟨(List.replicate n.toNat (wd.map ltr).toArray).foldl (· ++ ·) #[]⟩ : Str) = _
        rw [rep_words]
        unfold wS
        simp
      rw [ez]
      refine ⟨?_, .str (wS (List.replicate n.toNat wd).flatten), H, I.tok _, ⟨_, rfl⟩, q⟩
      rw [wS_len, List.length_flatten, List.map_replicate, List.sum_replicate_nat, sizeLine_eq, Nat.mul_comm]
      omega
/-! ### large numbers can be shown -/
theorem shows_big {a b : Int} (a0 : 0 ≤ a) (a1 : a < 10 ^ 160) (b0 : 0 ≤ b) (b1 : b < 10 ^ 160) : PyData.showable (.list [.tuple [.int a, .int b], .tuple [.int a, .int b]]) = true ∧ PyData.hasDict (.list [.tuple [.int a, .int b], .tuple [.int a, .int b]]) = false ∧
    (PyData.list [.tuple [.int a, .int b], .tuple [.int a, .int b]]).shown.length ≤ sizeLine ∧ PyData.depth (.list [.tuple [.int a, .int b], .tuple [.int a, .int b]]) ≤ 64 := by
  have key : ∀ x : Int, 0 ≤ x → x < 10 ^ 160 → x.natAbs.log2 < 540 ∧ (toString x : Str).length ≤ 160 := by
    intro x x0 x1
    obtain ⟨n, rfl⟩ := Int.eq_ofNat_of_zero_le x0
    have hn : n < 10 ^ 160 := by exact_mod_cast x1
    constructor
    · rw [Int.natAbs_natCast]
      rcases Nat.eq_zero_or_pos n with z | z
      · subst z
        decide
      · refine (Nat.log2_lt (by omega)).mpr ?_
        have : (10 : Nat) ^ 160 < 2 ^ 540 := by decide +kernel
        omega
    · exact toString_length_le (k := 160) (by omega) (by decide) x1
  obtain ⟨k1, k2⟩ := key a a0 a1
  obtain ⟨k3, k4⟩ := key b b0 b1
  refine ⟨?_, ?_, ?_, ?_⟩
  · simp only [PyData.showable, PyData.showableAll, Bool.and_true, Bool.and_eq_true, decide_eq_true_iff]
    omega
  · simp only [PyData.hasDict, PyData.hasDictAll, Bool.or_false]
  · have wa : PyData.weight (.int a) ≤ 540 := by
      simp only [PyData.weight]
      split <;> omega
    have wb : PyData.weight (.int b) ≤ 540 := by
      simp only [PyData.weight]
      split <;> omega
    have ls : PyData.leavesShort 160 (.list [.tuple [.int a, .int b], .tuple [.int a, .int b]]) = true := by
      simp only [PyData.leavesShort, PyData.leavesShortAll, Bool.and_true, Bool.and_eq_true, decide_eq_true_iff, PyData.shown]
      exact ⟨⟨decide_eq_true k2, decide_eq_true k4⟩, ⟨decide_eq_true k2, decide_eq_true k4⟩⟩
    have h := PyData.shown_le 160 (by decide) _ ls
    have w4 : PyData.weight (.list [.tuple [.int a, .int b], .tuple [.int a, .int b]]) ≤ 2200 := by
      have ea : PyData.weight (.list [.tuple [.int a, .int b], .tuple [.int a, .int b]]) = (PyData.weight (.int a) + 1 + (PyData.weight (.int b) + 1 + 0)) + 1 + ((PyData.weight (.int a) + 1 + (PyData.weight (.int b) + 1 + 0)) + 1 + 0) := by
        simp only [PyData.weight, PyData.weightAll]
      omega
    have : (160 + 2) * PyData.weight (.list [.tuple [.int a, .int b], .tuple [.int a, .int b]]) ≤ 162 * 2200 := Nat.mul_le_mul_left _ w4
    rw [sizeLine_eq]
    omega
  · simp only [PyData.depth, PyData.depthAll]
    decide
/-! ### the promises -/
def spTimes : Sp := fun xs H Q _ => ∃ (p : Addr) (b : Bool), xs = [.ref p, .bl b] ∧ PoolO (H p) ∧ ∀ H' n, KeepX p H H' → PoolO (H' p) → 1 ≤ n → n ≤ 10 ^ 30 → (b = true → n ≤ 3) → Q (.int n) H'
def spLSt (K : PySem.W.Frag) (m : Nat) : Sp := fun xs H Q _ => ∃ (v : V) (s : Stp), xs = [v] ∧ StA K H v s ∧ s.nest ≤ m ∧ s.steps ≤ 60 ∧ ∀ H', Same H H' → Q (.int (s.steps : Nat)) H'
def spLPr (K : PySem.W.Frag) (m : Nat) : Sp := fun xs H Q _ => ∃ (p : Addr) (d : Nat) (most : Nat), xs = [.ref p, .int (d : Nat), .int (most : Nat), .bl true] ∧ PoolO (H p) ∧ 1 ≤ d ∧ d ≤ m + 1 ∧ d ≤ 4 ∧ most ≤ 12 ∧
  ∀ H' t ss, KeepX p H H' → PoolO (H' p) → PgA K H' t ss → okL ss → smL ss → nestL ss ≤ d - 1 → stepsL ss ≤ most → Q (.ref t) H'
def spSpl (K : PySem.W.Frag) (m : Nat) : Sp := fun xs H Q _ => ∃ (t : Addr) (ss : List Stp), xs = [.ref t] ∧ PgA K H t ss ∧ okL ss ∧ smL ss ∧ nestL ss ≤ m ∧ nestL ss ≤ 2 ∧ stepsL ss ≤ 12 ∧ ∀ H', Same H H' → Q (.str (wS (spellL ss))) H'
def spNums (K : PySem.W.Frag) : Sp := fun xs H Q _ => ∃ (t : Addr) (ss : List Stp), xs = [.ref t] ∧ PgA K H t ss ∧ okL ss ∧ smL ss ∧ nestL ss ≤ 2 ∧ stepsL ss ≤ 12 ∧ ∀ H' u, Same H H' → H' u = some (.tup [.int (cntL false ss), .int (cntL true ss)]) → Q (.ref u) H'
def spTold (K : PySem.W.Frag) : Sp := fun xs H Q _ => ∃ (t u : Addr) (ss : List Stp), xs = [.ref t, .ref u] ∧ PgA K H t ss ∧ okL ss ∧ nestL ss ≤ 4 ∧ stepsL ss ≤ 60 ∧ SqT K H u [.int (cntL false ss), .int (cntL true ss)] ∧ ∀ H', Same H H' → Q (.bl true) H'
end KS
namespace KS
open PySem PySem.Spec PyProof.Rows L2
/-! ### a plan that is written out -/
def tCells : List Cell → TA
  | [] => tNil
  | c :: cs => tCons (tTup (tCons (tC (.int c.1)) (tCons (tC (.int c.2)) tNil))) (tCells cs)
theorem cells_lit {K : PySem.W.Frag} : ∀ {cs : List Cell} {σ : L2.St} {H : Hp} {Q : List V → Hp → Prop}, (∀ H' xs, Same H H' → CellsAt K H' xs cs → Q xs H') → tCells cs σ H Q
  | [], _, H, _, k => k H [] (Same.refl _) .nil
  | c :: cs, σ, H, Q, k => by
    refine ⟨(by show 2 ≤ sizeLine; decide), fun p np => cells_lit (K := K) (cs := cs) fun H' xs s hx => ?_⟩
    have s0 := same_new (o := .tup [.int c.1, .int c.2]) np
    exact k H' (.ref p :: xs) (s0.trans s) (.cons ⟨p, rfl, same_seqT s (SqT.of upd_same)⟩ hx)
theorem plan_lit {K : PySem.W.Frag} {cs : List Cell} {σ : L2.St} {H : Hp} {Q : VK} (hl : cs.length < 64) (k : ∀ H' p, Same H H' → PlanAt K H' p cs → Q (.ref p) H') : tTup (tCells cs) σ H Q := by
  refine cells_lit (K := K) (cs := cs) fun H' xs s hx => ⟨?_, fun p np => ?_⟩
  · rw [Paired.length hx]
    exact Nat.le_of_lt (small64 (Nat.le_of_lt hl))
  · have s1 := same_new (o := .tup xs) np
    exact k _ p (s.trans s1) ⟨xs, SqT.of upd_same, cells_kt (.of_same s1) hx⟩
theorem cons_plan {K : PySem.W.Frag} {cs : List Cell} {tr : TA} {σ : L2.St} {H : Hp} {Q : List V → Hp → Prop} (hl : cs.length < 64) (k : ∀ H' p, Same H H' → PlanAt K H' p cs → tr σ H' fun xs H2 => Q (.ref p :: xs) H2) : tCons (tTup (tCells cs)) tr σ H Q :=
  plan_lit (K := K) (cs := cs) (σ := σ) (H := H) (Q := fun x H1 => tr σ H1 fun xs H2 => Q (x :: xs) H2) hl k
theorem cons_lst {K : PySem.W.Frag} {cs : List Cell} {tr : TA} {σ : L2.St} {H : Hp} {Q : List V → Hp → Prop} (hl : cs.length < 64) (k : ∀ H' L xs, Same H H' → H' L = some (.lst xs) → CellsAt K H' xs cs → tr σ H' fun zs H2 => Q (.ref L :: zs) H2) : tCons (tLst (tCells cs)) tr σ H Q := by
  refine cells_lit (K := K) (cs := cs) fun H' xs s hx => ⟨?_, fun p np => ?_⟩
  · rw [Paired.length hx]
    exact Nat.le_of_lt (small64 (Nat.le_of_lt hl))
  · have s1 := same_new (o := .lst xs) np
    exact k _ p xs (s.trans s1) upd_same (cells_kt (.of_same s1) hx)
theorem path9_good : Good (pathTo 9) := by
  refine ⟨?_, ?_, by decide⟩
  · unfold pathTo
    refine List.pairwise_map.2 (List.pairwise_lt_range.imp ?_)
    intro x y h
    show ((x : Int) / 2 < (y : Int) / 2) ∨ ((x : Int) / 2 = (y : Int) / 2 ∧ (x : Int) / 2 + (x : Int) % 2 < (y : Int) / 2 + (y : Int) % 2)
    omega
  · intro c hc
    obtain ⟨j, hj, rfl⟩ := List.mem_map.mp hc
    have := List.mem_range.mp hj
    show 0 ≤ (j : Int) / 2 ∧ (j : Int) / 2 ≤ 7 ∧ 0 ≤ (j : Int) / 2 + (j : Int) % 2 ∧ (j : Int) / 2 + (j : Int) % 2 ≤ 7
    omega
end KS
namespace KS
open PySem PySem.Spec PyProof.Rows L2
def kwO {α : Type} : List α → List α
  | [a, b, c, d] => [b, d, c, a]
  | _ => []
theorem kwO_rel {zs : List V} {ws : List Value} (r : Vals zs ws) : Vals (kwO zs) (kwO ws) := by
  cases r with
  | nil => exact .nil
  | cons r1 r =>
    cases r with
    | nil => exact .nil
    | cons r2 r =>
      cases r with
      | nil => exact .nil
      | cons r3 r =>
        cases r with
        | nil => exact .nil
        | cons r4 r =>
          cases r with
          | nil => exact .cons r2 (.cons r4 (.cons r3 (.cons r1 .nil)))
          | cons r5 r => exact .nil
def wd4' : List (List Bool) := [[false], [true], [false, true], [true, false]]
theorem wd4'_ok : ∀ w ∈ wd4', Wd4 w := by
  intro w h
  rcases (by simpa [wd4'] using h : w = [false] ∨ w = [true] ∨ w = [false, true] ∨ w = [true, false]) with z | z | z | z
  · exact .inl z
  · exact .inr (.inl z)
  · exact .inr (.inr (.inl z))
  · exact .inr (.inr (.inr z))
theorem wd4'_str : wd4'.map (fun w => V.str (wS w)) = [V.str "R", V.str "C", V.str "RC", V.str "CR"] := by decide +kernel
theorem wd4_ne {w : List Bool} (h : Wd4 w) : w ≠ [] := by
  rcases h with rfl | rfl | rfl | rfl <;> decide
theorem wd4_at {i : Nat} {x : V} (h : (wd4'.map fun w => V.str (wS w))[i]? = some x) : ∃ wd, Wd4 wd ∧ x = V.str (wS wd) := by
  rw [List.getElem?_map] at h
  cases ev : wd4'[i]? with
  | none =>
    rw [ev] at h
    cases h
  | some z =>
    rw [ev] at h
    cases h
    exact ⟨z, wd4'_ok z (List.mem_of_getElem? ev), rfl⟩
/-- how many tables the word turns into this one -/
def cntR (r c : Nat) (w : List Bool) (T : List Int) : Nat := ((ordI (r * c)).map (aftR r c w)).count T
theorem cntR_orig {r c : Nat} {w : List Bool} (sd : Sides r c) (h6 : r * c ≤ 6) (w4 : Wd4 w) {T : List Int} (hT : T ∈ ordI (r * c)) : origI r c T w = (cntR r c w T : Int) := by
  have cc := small_count sd.r1 sd.c1 h6 w4 T hT
  have ea : (ordI (r * c)).map (aftS r c w) = (ordI (r * c)).map (aftR r c w) := List.map_congr_left fun v hv => (aftR_eq sd.r1 sd.c1 w (ord_len hv)).symm
  rw [ea] at cc
  exact cc
/-- the dict behind the first j tables -/
def dcR (r c : Nat) (w : List Bool) (j : Nat) : PDI := (((ordI (r * c)).take j).map (aftR r c w)).foldl addI []
theorem dcR_len (r c : Nat) (w : List Bool) (j : Nat) : (dcR r c w j).length ≤ j := by
  unfold dcR
  refine Nat.le_trans (addI_len _ []) ?_
  rw [List.length_map, List.length_take]
  show 0 + _ ≤ _
  omega
theorem dcR_more {r c : Nat} {w : List Bool} {j : Nat} {v : List Int} (h : (ordI (r * c))[j]? = some v) : dcR r c w (j + 1) = addI (dcR r c w j) (aftR r c w v) := by
  unfold dcR
  rw [List.take_add_one, h, List.map_append, List.foldl_append]
  rfl
theorem dcR_all {r c : Nat} {w : List Bool} {j : Nat} (h : (ordI (r * c)).length ≤ j) (T : List Int) : getC (dcR r c w j) T = cntR r c w T := by
  unfold dcR
  rw [List.take_of_length_le h, count_addI]
  show 0 + _ = _
  rw [Nat.zero_add]
  rfl
theorem pool_neE {G H : Hp} {p e : Addr} {ys : List V} {ls : List (List Int)} (po : PoolO (H p)) (he : H e = some (.lst ys)) (hy : Paired (TupE G) ys ls) (h1 : 1 ≤ ys.length) : e ≠ p := fun e1 => by
  obtain ⟨a, b, c, z, _⟩ := po
  rw [← e1, he] at z
  have z2 := HO.lst.inj (Option.some.inj z)
  subst z2
  cases hy with
  | cons hh _ =>
    obtain ⟨t, e2, _⟩ := hh
    cases e2
theorem paired_ixE {α β : Type} {F : α → β → Prop} {l₁ : List α} {l₂ : List β} {i : Nat} (h : Paired F l₁ l₂) (hi : i < l₁.length) : ∃ x y, l₁[i]? = some x ∧ l₂[i]? = some y ∧ F x y := by
  have e := List.getElem?_eq_getElem hi
  obtain ⟨y, e2, f⟩ := paired_get h e
  exact ⟨_, y, e, e2, f⟩
abbrev sRight : Stmt := topS 32
abbrev nRight50 : List Str := ["_law_pool_here", "_law_high", "_law_wide", "_law_every", "_law_letters", "_law_counts", "_law_some", "_law_result"]
theorem scRight50 : FnScope nRight50 ["_law_pool_here"] (defScope sRight) := ⟨rfl, rfl, rfl, by decide +kernel, rfl, by decide +kernel, by decide +kernel⟩
section
variable {P : Program} {w : World} {K : PySem.W.Frag} {mg : Str → Option Value} {base : Heap}
theorem ok_right50 {f fD fS fO fA fI fC : Addr} {fd fdD fdS fdO fdA fdI fdC : FuncData} (F : Fun K "_law_right" "_law_right" sRight f fd)
    (GD : FnOk P w K mg base CX0 1 fD fdD ["_law_pool_here", "_law_most"] spDraw) (bD : Binds K fdD ["_law_pool_here", "_law_most"] []) (gD : mg "_law_draw" = some (.ref fD)) (kD : PySem.W.keepIn K (.ref fD) = true)
    (GS : FnOk P w K mg base CX0 2 fS fdS ["_law_pool_here", "_law_most"] spSides) (bS : Binds K fdS ["_law_pool_here", "_law_most"] []) (gS : mg "_law_sides" = some (.ref fS)) (kS : PySem.W.keepIn K (.ref fS) = true)
    (GO : FnOk P w K mg base CX0 1 fO fdO ["_law_size"] spOrdersE) (bO : Binds K fdO ["_law_size"] []) (gO : mg "_law_orders" = some (.ref fO)) (kO : PySem.W.keepIn K (.ref fO) = true)
    (GA : FnOk P w K mg base CX0 3 fA fdA ["_law_high", "_law_wide", "_law_some", "_law_letters"] (spAfterE K)) (bA : Binds K fdA ["_law_high", "_law_wide", "_law_some", "_law_letters"] []) (gA : mg "_law_after" = some (.ref fA)) (kA : PySem.W.keepIn K (.ref fA) = true)
    (GI : FnOk P w K mg base CX0 1 fI fdI ["_law_result", "_law_due"] spIs) (bI : Binds K fdI ["_law_result", "_law_due"] []) (gI : mg "_law_is" = some (.ref fI)) (kI : PySem.W.keepIn K (.ref fI) = true)
    (GC : FnOk P w K mg base CX0 5 fC fdC ["rows", "columns", "table", "word"] (spOrig K)) (bC : Binds K fdC ["rows", "columns", "table", "word"] []) (wC : KwBinds fdC ["rows", "columns", "table", "word"] ["word", "rows", "table", "columns"] kwO kwO) (gC : mg "count_origins" = some (.ref fC)) (kC : PySem.W.keepIn K (.ref fC) = true)
    (ml : mg "len" = none) : FnOk P w K mg base CX0 6 f fd ["_law_pool_here"] spRight := by
  refine F.ok scRight50 (fun vs H Q E h => ?_) (fun cdv A outer s H vs Q E hr h => ?_)
  · obtain ⟨p, rfl, _⟩ := h
    rfl
  · obtain ⟨p, rfl, po, q⟩ := h
    have nd := scRight50.nd
    have hr1 : Room 1 _ := hr.mono (by omega)
    have hr2 : Room 2 _ := hr.mono (by omega)
    have hr3 : Room 3 _ := hr.mono (by omega)
    have hu1 := Nat.lt_of_le_of_lt (Nat.add_le_add_left (by decide : 1 ≤ 64) _) hr.units
    refine ⟨_, pss_cons (ps_asg (pe_call GS hr2 (by rfl) gS kS bS .nil pass0 (pa_cons (pv 0) (pa_cons pe_int pa_nil))) (pg_tup (by rfl) (pgs_cons (pg_name (i := 1) nd rfl (.inl rfl)) (pgs_cons (pg_name (i := 2) nd rfl (.inl rfl)) pgs_nil))))
      (pss_cons (ps_set (i := 3) nd rfl (.inl rfl) (pe_call GO hr1 (by rfl) gO kO bO .nil pass0 (pa_cons (pe_op op_mul (pv 1) (pv 2)) pa_nil)))
      (pss_cons (ps_for PassesOwn.never rfl (pi_list (pe_lst (pa_cons pe_str (pa_cons pe_str (pa_cons pe_str (pa_cons pe_str pa_nil)))))) (pg_name (i := 4) nd rfl (.inl rfl))
        (pss_cons (ps_set (i := 5) nd rfl (.inl rfl) pe_dnewT)
        (pss_cons (ps_for PassesOwn.never rfl (pi_list (pv 3)) (pg_name (i := 6) nd rfl (.inl rfl))
          (pss_cons (ps_set (i := 7) nd rfl (.inl rfl) (pe_call GA hr3 (by rfl) gA kA bA .nil pass0 (pa_cons (pv 1) (pa_cons (pv 2) (pa_cons (pv 6) (pa_cons (pv 4) pa_nil))))))
          (pss_one (ps_dput hu1 (pv 5) (pv 7) (pe_op op_add (pe_dget2 hu1 (pv 5) (pv 7) pe_int ⟨rfl, rfl, rfl, rfl⟩) pe_int) rfl))))
        (pss_cons (ps_for PassesOwn.never rfl (pi_list (pv 3)) (pg_name (i := 6) nd rfl (.inl rfl))
          (pss_one (ps_if (pt_not (pt_val (pe_call GI hr1 (by rfl) gI kI bI .nil pass0 (pa_cons (pe_call GC (hr.mono (by omega)) (by rfl) gC kC bC .nil pass0 (pa_cons (pv 1) (pa_cons (pv 2) (pa_cons (pv 6) (pa_cons (pv 4) pa_nil))))) (pa_cons (pe_dget2 hu1 (pv 5) (pv 6) pe_int ⟨rfl, rfl, rfl, rfl⟩) pa_nil))))) (pss_one (ps_ret pe_bl)) pss_nil)))
        (pss_cons (ps_set (i := 6) nd rfl (.inl rfl) (pe_ix ix_list (pv 3) (pe_call GD hr1 (by rfl) gD kD bD .nil pass0 (pa_cons (pv 0) (pa_cons (pe_callB call_len_seq (by rfl) ml PySem.boot_len (pa_cons (pv 3) pa_nil)) pa_nil))) (fun _ _ => rfl)))
        (pss_one (ps_if (pt_not (pt_val (pe_call GI hr1 (by rfl) gI kI bI .nil pass0 (pa_cons (pe_callKw GC (hr.mono (by omega)) (by rfl) gC kC wC pass0 (pk_cons (pv 4) (pk_cons (pv 1) (pk_cons (pv 6) (pk_cons (pv 2) pk_nil))))) (pa_cons (pe_dget2 hu1 (pv 5) (pv 6) pe_int ⟨rfl, rfl, rfl, rfl⟩) pa_nil))))) (pss_one (ps_ret pe_bl)) pss_nil)))))))
      (pss_one (ps_ret pe_bl)))), ?_⟩
    refine ⟨_, rfl, p, 6, rfl, po, by decide, by decide, fun H1 t1 r c k1 po1 ht1 sd h6 => ?_⟩
    refine ⟨t1, _, rfl, SqT.of ht1, rfl, _, _, rfl, _, _, rfl, rfl, ?_⟩
    have em : ((r : Int) * (c : Int)) = ((r * c : Nat) : Int) := (Int.natCast_mul r c).symm
    have l := sd.le
    have rc := sd.rc
    refine ⟨_, rfl, _, rfl, _, _, rfl, rfl, .inl ⟨by omega, by omega⟩, r * c, congrArg (fun z => [V.int z]) em, h6, fun H2 E ys s2 hE hy => ?_⟩
    have po2 := po1.same s2
    have kx2 := k1.trans (KeepX.of_same (p := p) s2)
    have yl := Paired.length hy
    have ol := yl
    rw [len_ord] at yl
    have f1 := facPos (r * c)
    have f2 := fac_le h6
    have nEp : E ≠ p := pool_neE po2 hE hy (by omega)
    refine ⟨by show 4 ≤ sizeLine; decide, fun L nL => ?_⟩
    have sL := same_new (o := .lst [.str "R", .str "C", .str "RC", .str "CR"]) nL
    have hL : upd H2 L (.lst [.str "R", .str "C", .str "RC", .str "CR"]) L = some (.lst (wd4'.map fun w => V.str (wS w))) := by rw [upd_same, wd4'_str]
    have hE := sL _ _ hE
    have hy := tupE_mono (.of_same sL) hy
    have nLp : L ≠ p := Ne.symm (po2.ne nL)
    have po3 := po2.same sL
    have kx3 := kx2.trans (KeepX.of_same (p := p) sL)
    generalize upd H2 L (.lst [.str "R", .str "C", .str "RC", .str "CR"]) = H3 at hL hE hy po3 kx3
    clear sL po2 kx2 po1 k1
    refine ⟨L, rfl, ⟨_, SqL.of hL⟩, for_list (K := K) (a := L) (xs := wd4'.map fun w => V.str (wS w)) (fun i σ G => ∃ y4 y5 y6 y7 : Option V, σ = [some (.ref p), some (.int (r : Nat)), some (.int (c : Nat)), some (.ref E), y4, y5, y6, y7] ∧ KeepX p H3 G ∧ PoolO (G p)) ?_ ?_ ?_ ?_⟩
    · exact ⟨none, none, none, none, rfl, KeepX.refl _ _, po3⟩
    · rintro i σ G _ ⟨_, _, _, _, _, kx, _⟩
      exact SqL.of (kx _ _ nLp hL)
    · rintro i x σ G hi ⟨y4, y5, y6, y7, rfl, kx, pG⟩
      obtain ⟨wd, w4, rfl⟩ := wd4_at hi
      have hEG := kx _ _ nEp hE
      have hyG := tupE_mono (KTE.keepX po3 kx) hy
      -- the dict
      refine fun C nC => ?_
      have sC := same_new (o := .dT []) nC
      have hC : upd G C (.dT []) C = some (.dT (imgI (dcR r c wd 0))) := upd_same
      have hEG := sC _ _ hEG
      have hyG := tupE_mono (.of_same sC) hyG
      have nCp : C ≠ p := Ne.symm (pG.ne nC)
      have nC3 : H3 C = none := by
        cases e : H3 C with
        | none => rfl
        | some o =>
          have := kx _ _ nCp e
          rw [nC] at this
          cases this
      have nEC : E ≠ C := ne_of hEG hC (fun q => nomatch q)
      have pG := pG.same sC
      have kx := kx.trans (KeepX.of_same (p := p) sC)
      generalize upd G C (.dT []) = G1 at hC hEG hyG pG kx
      clear sC nC
      have ktC : ∀ G', (∀ z o, z ≠ C → G1 z = some o → G' z = some o) → KTE G1 G' := fun G' k z ys e => k z _ (ne_of e hC (fun q => nomatch q)) e
      refine ⟨_, rfl, E, rfl, ⟨_, SqL.of hEG⟩, for_list (K := K) (a := E) (xs := ys) (fun j σ G' => ∃ y6 y7 : Option V, σ = [some (.ref p), some (.int (r : Nat)), some (.int (c : Nat)), some (.ref E), some (.str (wS wd)), some (.ref C), y6, y7] ∧
        G' C = some (.dT (imgI (dcR r c wd j))) ∧ (∀ z o, z ≠ C → G1 z = some o → G' z = some o)) ?_ ?_ ?_ ?_⟩
      · exact ⟨y6, y7, rfl, hC, fun z o _ e => e⟩
      · rintro j σ G' _ ⟨_, _, _, _, k'⟩
        exact SqL.of (k' _ _ nEC hEG)
      · rintro j x σ G' hj ⟨y6, y7, rfl, hC', k'⟩
        have hy' := tupE_mono (ktC _ k') hyG
        obtain ⟨v, hvj, t, rfl, ht⟩ := paired_get hy' hj
        have jl := (List.getElem?_eq_some_iff.mp hj).1
        refine ⟨_, rfl, _, rfl, _, rfl, _, rfl, r, c, t, wd, v, rfl, sd, SqT.of ht, ord_len (List.mem_of_getElem? hvj), wd4_ne w4, fun G3 u s3 hu => ?_⟩
        have hC3 := s3 _ _ hC'
        have hk3 : G3 u = some (.tup ((keyI (aftR r c wd v)).map kV)) := by
          rw [hu, keyI_kV]
        refine ⟨_, rfl, C, rfl, .inr ⟨_, .inl hC3⟩, _, rfl, _, DGet.t hC3 hk3, ?_⟩
        rw [imgI_getD]
        refine ⟨_, _, rfl, rfl, _, rfl, _, rfl, C, _, rfl, DPut.t hC3 hk3 (by rw [imgI_len]; exact Nat.lt_of_le_of_lt (dcR_len r c wd j) (by rw [sizeLine_eq]; omega)), ?_⟩
        refine ⟨_, _, rfl, ?_, fun z o n e => ?_⟩
        · have e : V.int ((getC (dcR r c wd j) (aftR r c wd v) : Int) + 1) = V.int ((getC (dcR r c wd j) (aftR r c wd v) + 1 : Nat) : Int) := by rw [Int.natCast_add]; rfl
          rw [upd_same]
          show some (HO.dT (putK (imgI (dcR r c wd j)) (keyI (aftR r c wd v)) (V.int ((getC (dcR r c wd j) (aftR r c wd v) : Int) + 1)))) = _
          rw [e, imgI_put, dcR_more hvj]
          rfl
        · rw [upd_ne n]
          exact s3 _ _ (k' z o n e)
      rintro σ G2 ⟨y6, y7, rfl, hC2, k2⟩
      have hE2 := k2 _ _ nEC hEG
      have hy2 := tupE_mono (ktC _ k2) hyG
      have get2 : ∀ T, (valV (imgI (dcR r c wd ys.length)) (keyI T)).getD (V.int 0) = V.int (cntR r c wd T : Nat) := fun T => by
        rw [imgI_getD, dcR_all (by rw [ol]; exact Nat.le_refl _)]
      have kx2 : KeepX p H3 G2 := fun b o nb e => k2 b o (ne_of_none e nC3) (kx b o nb e)
      have pG2 : PoolO (G2 p) := by
        obtain ⟨a, b, d, hp, rest⟩ := pG
        exact ⟨a, b, d, k2 _ _ (Ne.symm nCp) hp, rest⟩
      clear ktC k2 kx pG hyG hEG hC
      refine ⟨_, rfl, E, rfl, ⟨_, SqL.of hE2⟩, for_list (K := K) (a := E) (xs := ys) (fun j σ G' => ∃ y6 : Option V, σ = [some (.ref p), some (.int (r : Nat)), some (.int (c : Nat)), some (.ref E), some (.str (wS wd)), some (.ref C), y6, y7] ∧ Same G2 G') ?_ ?_ ?_ ?_⟩
      · exact ⟨y6, rfl, Same.refl _⟩
      · rintro j σ G' _ ⟨_, _, sG⟩
        exact SqL.of (sG _ _ hE2)
      · rintro j x σ G' hj ⟨y6, rfl, sG⟩
        obtain ⟨T, hTj, t, rfl, ht⟩ := paired_get hy2 hj
        have mo := List.mem_of_getElem? hTj
        have ht' := sG _ _ ht
        have co := cntR_orig (w := wd) sd h6 w4 mo
        refine ⟨_, rfl, _, rfl, _, rfl, _, rfl, r, c, t, T, wd, rfl, sd, SqT.of ht', ord_tab mo, w4, fun G4 s4 => ?_⟩
        rw [co]
        have hk : G4 t = some (.tup ((keyI T).map kV)) := by
          rw [keyI_kV]
          exact s4 _ _ ht'
        have hC4 := s4 _ _ (sG _ _ hC2)
        refine ⟨_, rfl, C, rfl, .inr ⟨_, .inl hC4⟩, _, rfl, _, DGet.t hC4 hk, ?_⟩
        rw [get2]
        refine ⟨_, _, rfl, _, rfl, ?_⟩
        rw [decide_eq_true rfl]
        refine iteF ?_
        exact ⟨_, rfl, sG.trans s4⟩
      rintro σ G5 ⟨y6, rfl, sG⟩
      have hE5 := sG _ _ hE2
      have hy5 := tupE_mono (.of_same sG) hy2
      have hC5 := sG _ _ hC2
      have p5 := pG2.same sG
      have kx5 := kx2.trans (KeepX.of_same (p := p) sG)
      clear sG hE2 hy2 hC2 pG2 kx2
      refine ⟨_, rfl, _, rfl, _, rfl, E, _, rfl, .inl (SqL.of hE5), p, _, rfl, p5, by omega, by omega, fun G6 k k6 p6 k0 k1 => ?_⟩
      obtain ⟨k, rfl⟩ := Int.eq_ofNat_of_zero_le k0
      have kt6 := KTE.keepX p5 k6
      have hy6 := tupE_mono kt6 hy5
      have hE6 := k6 _ _ nEp hE5
      have hC6 := k6 _ _ nCp hC5
      obtain ⟨v1, T, e1, m1, t, rfl, ht⟩ := paired_ixE hy6 (show k < ys.length by omega)
      have mo := List.mem_of_getElem? m1
      have co := cntR_orig (w := wd) sd h6 w4 mo
      refine ⟨E, _, _, _, rfl, rfl, SqL.of hE6, atI_nat e1, ?_⟩
      refine ⟨_, rfl, _, rfl, _, rfl, _, rfl, r, c, t, T, wd, rfl, sd, SqT.of ht, ord_tab mo, w4, fun G7 s7 => ?_⟩
      rw [co]
      have hk : G7 t = some (.tup ((keyI T).map kV)) := by
        rw [keyI_kV]
        exact s7 _ _ ht
      have hC7 := s7 _ _ hC6
      refine ⟨_, rfl, C, rfl, .inr ⟨_, .inl hC7⟩, _, rfl, _, DGet.t hC7 hk, ?_⟩
      rw [get2]
      refine ⟨_, _, rfl, _, rfl, ?_⟩
      rw [decide_eq_true rfl]
      refine iteF ?_
      exact ⟨_, _, _, _, rfl, (kx5.trans k6).trans (.of_same s7), p6.same s7⟩
    · rintro σ G ⟨y4, y5, y6, y7, rfl, kx, pG⟩
      exact q G (kx3.trans kx)
end
end KS
namespace KS
open PySem PySem.Spec PyProof.Rows L2
/-! ### plans whose cells are tuples made at run time -/
def CellT (H : Hp) (x : V) (c : Cell) : Prop := ∃ t, x = .ref t ∧ H t = some (.tup [.int c.1, .int c.2])
abbrev CellsT (H : Hp) : List V → List Cell → Prop := Paired (CellT H)
/-- such tuples are kept -/
def KTt (H H' : Hp) : Prop := ∀ a xs, H a = some (.tup xs) → H' a = some (.tup xs)
section
variable {K : PySem.W.Frag} {H H1 H2 H' : Hp}
theorem KTt.trans (a : KTt H H1) (b : KTt H1 H2) : KTt H H2 := fun x xs h => b x xs (a x xs h)
theorem KTt.of_same (a : Same H H1) : KTt H H1 := fun _ _ h => a _ _ h
theorem KTt.of_keepX {p : Addr} (hp : PoolO (H p)) (a : KeepX p H H1) : KTt H H1 := fun x xs h => by
  obtain ⟨_, _, _, ep, _⟩ := hp
  exact a _ _ (fun q => by rw [q, ep] at h; cases h) h
theorem KTt.upd {e : Addr} {ys : List V} {o : HO} (h : H e = some (.lst ys)) : KTt H (upd H e o) := fun a xs q => by
  rw [upd_ne (ne_of q h (by intro z; cases z))]
  exact q
theorem cellsT_kt {xs : List V} {cs : List Cell} (k : KTt H H') (h : CellsT H xs cs) : CellsT H' xs cs := Paired.mono (fun _ _ ⟨t, e, q⟩ => ⟨t, e, k _ _ q⟩) h
theorem cellsT_at {xs : List V} {cs : List Cell} (h : CellsT H xs cs) : CellsAt K H xs cs := Paired.mono (fun _ _ ⟨t, e, q⟩ => ⟨t, e, SqT.of q⟩) h
end
def PlanT (K : PySem.W.Frag) (H : Hp) (a : Addr) (cs : List Cell) : Prop := ∃ xs, SqT K H a xs ∧ CellsT H xs cs
theorem PlanT.at {K : PySem.W.Frag} {H : Hp} {a : Addr} {cs : List Cell} (h : PlanT K H a cs) : PlanAt K H a cs := by
  obtain ⟨xs, h1, h2⟩ := h
  exact ⟨xs, h1, cellsT_at h2⟩
theorem PlanT.same {K : PySem.W.Frag} {H H' : Hp} {a : Addr} {cs : List Cell} (h : PlanT K H a cs) (s : Same H H') : PlanT K H' a cs := by
  obtain ⟨xs, h1, h2⟩ := h
  exact ⟨xs, same_seqT s h1, cellsT_kt (.of_same s) h2⟩
theorem PlanT.keepX {K : PySem.W.Frag} {H H' : Hp} {a p : Addr} {cs : List Cell} (h : PlanT K H a cs) (hp : PoolO (H p)) (s : KeepX p H H') : PlanT K H' a cs := by
  obtain ⟨xs, h1, h2⟩ := h
  exact ⟨xs, keepX_seqT hp s h1, cellsT_kt (.of_keepX hp s) h2⟩
def spPlanT (K : PySem.W.Frag) : Sp := fun vs H Q _ => ∃ (p : Addr) (m : Int), vs = [.ref p, .int m] ∧ PoolO (H p) ∧ 1 ≤ m ∧ m ≤ 24 ∧
  ∀ H' a cs, KeepX p H H' → PoolO (H' p) → PlanT K H' a cs → Good cs → (cs.length : Int) ≤ m → H a = none → Q (.ref a) H'
/-- where _law_plan stands behind its first loop -/
structure PlStT (K : PySem.W.Frag) (p : Addr) (H : Hp) (m mode wide high top left : Int) (σ : L2.St) (H' : Hp) : Prop where
  ex : ∃ (e : Addr) (xs : List V) (cs : List Cell) (y8 y9 y10 : Option V),
    σ = [some (.ref p), some (.int m), some (.int mode), some (.int wide), some (.int high), some (.int top), some (.int left), some (.ref e), y8, y9, y10, none, none] ∧
    H e = none ∧ e ≠ p ∧ H' e = some (.lst xs) ∧ CellsT H' xs cs ∧ Good cs ∧ cs.length ≤ 64
  kx : KeepX p H H'
  po : PoolO (H' p)
theorem filT_ok {K : PySem.W.Frag} {p : Addr} {H : Hp} {m mode wide high top left : Int} {tc : TT} {D : Ends} {σ : L2.St} {H' : Hp} (h : PlStT K p H m mode wide high top left σ H')
    (htc : ∀ (t : Addr) (c : Cell) (H2 : Hp) (R : Bool → Hp → Prop), SqT K H2 t [.int c.1, .int c.2] → PoolO (H2 p) → (∀ b H3, KeepX p H2 H3 → PoolO (H3 p) → R b H3) → tc (σ.set 12 (some (.ref t))) H2 R)
    (k : ∀ σ' H'', PlStT K p H m mode wide high top left σ' H'' → D.nx σ' H'') : tFil K tc D σ H' := by
  obtain ⟨⟨e, xs, cs, y8, y9, y10, rfl, he0, hep, he, hc, gd, hl⟩, kx, po⟩ := h
  have hlen := Paired.length hc
  refine ⟨_, rfl, e, rfl, ⟨_, SqL.of he⟩, fun d nd => ?_⟩
  have ned : e ≠ d := ne_of_none he nd
  have npd : p ≠ d := po.ne nd
  refine lc_list (K := K) (a := e) (xs := xs) (fun i H2 => ∃ (acc : List V) (cs' : List Cell), H2 d = some (.lst acc) ∧ CellsT H2 acc cs' ∧ cs'.Sublist (cs.take i) ∧
    KeepX p H H2 ∧ PoolO (H2 p) ∧ H2 e = some (.lst xs) ∧ CellsT H2 xs cs) ?_ ?_ ?_ ?_
  · have s1 := same_new (o := .lst []) nd
    refine ⟨[], [], upd_same, .nil, List.nil_sublist _, kx.trans (.of_same s1), po.same s1, s1 _ _ he, cellsT_kt (.of_same s1) hc⟩
  · rintro i H2 _ ⟨acc, cs', _, _, _, _, _, h6, _⟩
    exact SqL.of h6
  · rintro i x H2 hi ⟨acc, cs', h1, h2, h3, h4, h5, h6, h7⟩
    obtain ⟨c, hci, t, rfl, ht⟩ := paired_get h7 hi
    have hlt : i < cs.length := (List.getElem?_eq_some_iff.mp hci).1
    have tk : cs.take (i + 1) = cs.take i ++ [c] := by
      rw [List.take_add_one, hci]
      rfl
    refine ⟨rfl, htc t c H2 _ (SqT.of ht) h5 (fun b H3 k3 p3 => ?_)⟩
    have q3 : KTt H2 H3 := KTt.of_keepX h5 k3
    have hd3 : H3 d = some (.lst acc) := k3 _ _ (Ne.symm npd) h1
    have he3 : H3 e = some (.lst xs) := k3 _ _ hep h6
    have hal : acc.length ≤ 64 := by
      rw [Paired.length h2]
      exact Nat.le_trans h3.length_le (by rw [List.length_take]; omega)
    refine ite2 (fun _ => ?_) (fun _ => ?_)
    · refine ⟨_, rfl, acc, hd3, small64 hal, acc ++ [.ref t], cs' ++ [c], upd_same, ?_, ?_, ?_, ?_, ?_, ?_⟩
      · exact cellsT_kt (q3.trans (KTt.upd hd3)) (paired_append h2 (.cons ⟨t, rfl, ht⟩ .nil))
      · rw [tk]
        exact List.Sublist.append h3 (List.Sublist.refl _)
      · intro b o n e2
        rw [upd_ne (fun z => by
          subst z
          have q := kx b o n e2
          rw [nd] at q
          cases q)]
        exact k3 _ _ n (h4 _ _ n e2)
      · rw [upd_ne npd]
        exact p3
      · rw [upd_ne ned]
        exact he3
      · exact cellsT_kt (q3.trans (KTt.upd hd3)) h7
    · refine ⟨acc, cs', hd3, cellsT_kt q3 h2, ?_, h4.trans k3, p3, he3, cellsT_kt q3 h7⟩
      rw [tk]
      exact List.Sublist.trans h3 (List.sublist_append_left _ _)
  · rintro H2 ⟨acc, cs', h1, h2, h3, h4, h5, h6, h7⟩
    have h3' : cs'.Sublist cs := List.Sublist.trans h3 (List.take_sublist _ _)
    refine ⟨!acc.isEmpty, .inl ⟨acc, SqL.of h1, rfl⟩, ite2 (fun e1 => ?_) (fun e1 => ?_)⟩
    · refine k _ _ ⟨⟨d, acc, cs', y8, y9, y10, rfl, ?_, Ne.symm npd, h1, h2, ⟨gd.asc.sublist h3', fun c hc => gd.grid c (h3'.subset hc), ?_⟩, Nat.le_trans h3'.length_le hl⟩, h4, h5⟩
      · cases q : H d with
        | none => rfl
        | some o =>
          have z := kx d o (Ne.symm npd) q
          rw [nd] at z
          cases z
      · intro z
        subst z
        cases h2
        cases e1
    · exact ⟨_, rfl, k _ _ ⟨⟨e, xs, cs, y8, y9, y10, rfl, he0, hep, h6, h7, gd, hl⟩, h4, h5⟩⟩
end KS
namespace KS
open PySem PySem.Spec PyProof.Rows L2
/-- if mode == n: every = [spot for spot in every if ..] or every -/
theorem filT_if {K : PySem.W.Frag} {p : Addr} {H : Hp} {m mode wide high top left n : Int} {tc : TT} {D : Ends} {σ : L2.St} {H' : Hp} (h : PlStT K p H m mode wide high top left σ H')
    (htc : ∀ (t : Addr) (c : Cell) (H2 : Hp) (R : Bool → Hp → Prop), SqT K H2 t [.int c.1, .int c.2] → PoolO (H2 p) → (∀ b H3, KeepX p H2 H3 → PoolO (H3 p) → R b H3) → tc (σ.set 12 (some (.ref t))) H2 R)
    (k : ∀ σ' H'', PlStT K p H m mode wide high top left σ' H'' → D.nx σ' H'') : tIfS (tTest (tOp rEq (tVar 2) (tC (.int n)))) (tFil K tc) tNext D σ H' := by
  obtain ⟨e, xs, cs, y8, y9, y10, es, rest⟩ := h.ex
  refine ⟨.int mode, by rw [es]; rfl, rfl, _, rfl, ite2 (fun e => ?_) (fun e => ?_)⟩
  · exact filT_ok h htc k
  · exact k _ _ h
theorem drawT_test {K : PySem.W.Frag} {p : Addr} {H : Hp} {m mode wide high top left n : Int} {σ : L2.St} {H' : Hp} (h : PlStT K p H m mode wide high top left σ H') (n0 : 0 < n) (n1 : n < 1073741824)
    (t : Addr) (c : Cell) (H2 : Hp) (R : Bool → Hp → Prop) (ht : SqT K H2 t [.int c.1, .int c.2]) (po : PoolO (H2 p)) (k : ∀ b H3, KeepX p H2 H3 → PoolO (H3 p) → R b H3) :
    tTest (tOp (rI0 fun i j => .bl (decide (i > j))) (tDr (tC (.int n))) (tC (.int 0))) (σ.set 12 (some (.ref t))) H2 R := by
  obtain ⟨e, xs, cs, y8, y9, y10, es, rest⟩ := h.ex
  subst es
  exact ⟨_, rfl, p, n, rfl, po, n0, n1, fun H3 r k3 po3 r0 r1 => ⟨_, _, rfl, rfl, _, rfl, k _ _ k3 po3⟩⟩
end KS
namespace KS
open PySem PySem.Spec PyProof.Rows L2
theorem filT3_if {K : PySem.W.Frag} {p : Addr} {H : Hp} {m mode wide high top left : Int} {D : Ends} {σ : L2.St} {H' : Hp} (h : PlStT K p H m mode wide high top left σ H')
    (k : ∀ σ' H'', PlStT K p H m mode wide high top left σ' H'' → D.nx σ' H'') :
    tIfS (tTest (tOp rEq (tVar 2) (tC (.int 3)))) (tSeq (tAsg (tOp rAdd (tOp rAdd (tVar 5) (tVar 6)) (tDr (tC (.int 4)))) (gName 9))
      (tSeq (tAsg (tOp rSub (tOp rSub (tOp rAdd (tOp rAdd (tOp rAdd (tVar 5) (tVar 6)) (tVar 4)) (tVar 3)) (tC (.int 2))) (tDr (tC (.int 4)))) (gName 10))
      (tFil K (tTest (tChain rLe rLe (tVar 9) (tCB (rSumT K) (tCons (tVar 12) tNil)) (tVar 10)))))) tNext D σ H' := by
  obtain ⟨⟨e, xs, cs, y8, y9, y10, rfl, he0, hep, he, hc, gd, hl⟩, kx, po⟩ := id h
  refine ⟨_, rfl, rfl, _, rfl, ite2 (fun e => ?_) (fun e => ?_)⟩
  · refine ⟨_, rfl, _, rfl, _, _, rfl, rfl, _, rfl, p, 4, rfl, po, by decide, by decide, fun H1 a k1 po1 _ _ => ⟨_, _, rfl, rfl, ?_⟩⟩
    refine ⟨_, rfl, _, rfl, _, _, rfl, rfl, _, rfl, _, _, rfl, rfl, _, rfl, _, _, rfl, rfl, _, _, rfl, rfl, _, rfl, p, 4, rfl, po1, by decide, by decide, fun H2 b k2 po2 _ _ => ⟨_, _, rfl, rfl, ?_⟩⟩
    have k12 := k1.trans k2
    refine filT_ok (p := p) (H := H) (m := m) (mode := mode) (wide := wide) (high := high) (top := top) (left := left)
      ⟨⟨_, xs, cs, y8, _, _, rfl, he0, hep, k12 _ _ hep he, cellsT_kt (KTt.of_keepX po k12) hc, gd, hl⟩, kx.trans k12, po2⟩ (fun t c H3 R ht p3 kk => ?_) k
    refine ⟨_, rfl, _, rfl, t, [c.1, c.2], rfl, ht, _, _, rfl, rfl, _, rfl, ite2 (fun e1 => ?_) (fun e1 => ?_)⟩
    · exact ⟨_, rfl, _, _, rfl, rfl, _, rfl, kk _ _ (KeepX.refl _ _) p3⟩
    · exact ⟨_, rfl, kk _ _ (KeepX.refl _ _) p3⟩
  · exact k _ _ h
end KS
namespace KS
open PySem PySem.Spec PyProof.Rows L2
section
variable {X : Cx} {k : Nat} {f : Addr} {fd : FuncData} {ps : List Str} {sp : Sp} {x : Str} {p pos : Pos}
/-- f(), f a def with guards -/
theorem pe_callG0 (F : FnG X.prog X.w X.K X.mg X.base k f fd ps sp) (hr : Room k X.A) (hgd : X.A.guards = some []) (hg : Gl X x) (hm : X.mg x = some (.ref f)) (hk : PySem.W.keepIn X.K (.ref f) = true) (hb : Binds X.K fd ps [])
    (hdb : (x == ("__debug__" : Str)) = false := by decide) : PE X (.Call (.Name x p) [] [] pos) (tCall sp [] E0 tNil) := by
  refine ⟨fun pins s σ H Q I h => wpAny_Call_Name_kw (ld_glob I hg hm (PySem.W.callWith_K0 I.kIn hk ?_) hdb)⟩
  have q1 : sp [] H Q E0 := h
  have hl : ([] ++ [] : List Value).length = ps.length := F.len _ _ _ _ q1
  refine wpAny_call (codeAny_mono (F.run X.A X.stack s H ⟨[], []⟩ [] [] Q E0 hr hgd I.env0 (hb s [] I.kIn hl) .nil q1) fun z s' hq => ?_)
  cases z with
  | error e => cases hq
  | ok fl =>
    cases fl with
    | ret u => exact I.after hq
    | next => cases hq
    | brk => cases hq
    | cont => cases hq
end
/-- the numbers i, i - 1, .., j + 1 -/
def dnI (i j : Int) : List Int := (List.range (i - j).toNat).map fun (k : Nat) => i - (k : Int)
def tTupDn (ta : TA) : TE := fun σ H Q => ta σ H fun vs H1 => ∃ i j : Int, vs = [.int i, .int j, .int (-1)] ∧ 0 ≤ j ∧ j ≤ i ∧ i ≤ 1000 ∧ ∀ q, H1 q = none → Q (.ref q) (upd H1 q (.tup ((dnI i j).map V.int)))
theorem vals_dn {i j : Int} {acc : Array Value} (h : ItemsOf (fun k v => ∃ t, v = .int (i + k * (-1)) t) acc (i - j).toNat) : Vals ((dnI i j).map V.int) acc.toList := by
  have e : acc.toList.length = (i - j).toNat := by
    rw [Array.length_toList]
    exact h.1
  unfold dnI
  rw [List.map_map, ← e]
  refine vals_of_get acc.toList _ fun k u hk => ?_
  obtain ⟨t, rfl⟩ := h.2 k u (by rw [← hk, Array.getElem?_toList])
  refine ⟨t, ?_⟩
  have r : i + (k : Int) * (-1) = i - (k : Int) := by omega
  rw [r]
theorem pe_tupDn {X : Cx} {a b c : Expr} {ta : TA} {p p2 pos pos2 : Pos} (hc : X.calm = true) (hg : Gl X "tuple") (hm : X.mg "tuple" = none) (hg2 : Gl X "range") (hm2 : X.mg "range" = none) (ha : PA X [a, b, c] ta)
    (hs : starEach [a, b, c] X.env = (false, eval a X.env) :: starEach [b, c] X.env := by rfl) (hpl : (backTo pos2 (starEach [b, c] X.env)).any (·.1) = false := by rfl)
    (na : starEach [.Call (.Name "range" p2) [a, b, c] [] pos2] X.env = (false, eval (.Call (.Name "range" p2) [a, b, c] [] pos2) X.env) :: starEach [] X.env := by rfl) :
    PE X (.Call (.Name "tuple" p) [.Call (.Name "range" p2) [a, b, c] [] pos2] [] pos) (tTupDn ta) := by
  refine ⟨fun pins s σ H Q I h => Call_ (ld_blt I hg hm boot_tuple (PyProof.Rows.callWith_type1 (args_cons ?_ na) na))⟩
  refine Call_ (ld_blt I hg2 hm2 boot_range (PyProof.Rows.callWith_type1 (thn (ha.run pos2 pins s σ H _ I h) fun us s1 hh => ?_) hs hpl))
  obtain ⟨vs, H1, I1, r1, i, j, ev, j0, ij, i1, q⟩ := hh
  subst ev
  cases r1 with
  | cons r rr =>
    cases rr with
    | cons r' rr =>
      cases rr with
      | cons r'' rr =>
        cases rr
        obtain ⟨t, rfl⟩ := r
        obtain ⟨t', rfl⟩ := r'
        obtain ⟨t'', rfl⟩ := r''
        obtain ⟨c0, c1, c2, c3⟩ := RgC.neg (i := i) (j := j) (by omega) (by omega) (by omega) (by omega)
        refine call_range_3 c0 ?_ (.inl (PyProof.noPylong_small c1))
        refine args_nil ?_
        have I2 : Inv X pins σ H1 { s1 with heap := s1.heap.push { cls := .type "range", data := .fields #[.int i t, .int j t', .int (-1) t''] }, toks := s1.toks } := I1.kept fun b u e => Heap.get?_push_of_some _ e
        refine call_tuple_range (n := (i - j).toNat) (I2.ok.hd hc) (IsRange.new ..) c2 c3 (by omega) fun h' tk acc hk hi => ?_
        have I3 : Inv X pins σ H1 { s1 with heap := h', toks := tk } := I2.kept hk
        refine ⟨.ref h'.objs.size, upd H1 h'.objs.size (.tup ((dnI i j).map V.int)), I3.laid (t' := tk) (fun c o e => Heap.get?_push_of_some _ e) (Nat.le_refl _) (show ObjOk X.prog X.w _ _ _ (.tup ((dnI i j).map V.int)) from ⟨?_, acc.toList, vals_dn hi, ?_⟩), rfl, q _ (I3.hok.fresh (Nat.le_refl _))⟩
        · rw [List.length_map, sizeLine_eq]
          unfold dnI
          rw [List.length_map, List.length_range]
          omega
        · rw [Array.toArray_toList]
          exact IsTup.new _ _
end KS
namespace KS
open PySem PySem.Spec PyProof.Rows L2
/-! ### a list of pairs written out -/
theorem pe_wk1 {X : Cx} {e : Expr} {t t' : TE} (h : PE X e t) (k : ∀ σ H Q, t' σ H Q → t σ H Q) : PE X e t' := ⟨fun pins s σ H Q I q => h.run pins s σ H Q I (k σ H Q q)⟩
theorem pa_wk1 {X : Cx} {es : List Expr} {t t' : TA} (h : PA X es t) (k : ∀ σ H Q, t' σ H Q → t σ H Q) : PA X es t' := ⟨fun pos pins s σ H Q I q => h.run pos pins s σ H Q I (k σ H Q q)⟩
def tCl1 (cs : List Cell) : TA := fun σ H Q => ∀ H' vs, Same H H' → CellsT H' vs cs → Q vs H'
def tClL (cs : List Cell) : TE := fun σ H Q => ∀ H' L vs, Same H H' → H' L = some (.lst vs) → CellsT H' vs cs → Q (.ref L) H'
section
variable {X : Cx}
theorem cl_nil {X : Cx} : PA X [] (tCl1 []) := pa_wk1 pa_nil fun σ H Q q => q H [] (Same.refl _) .nil
theorem cl_cons {ea eb : Expr} {es : List Expr} {k : Nat} {pos : Pos} {i j : Int} {cs : List Cell} (ha : PE X ea (tC (.int i))) (hb : PE X eb (tC (.int j))) (r : PA X es (tCl1 cs)) (hs : starEach (.Tuple [ea, eb] k pos :: es) X.env = (false, eval (.Tuple [ea, eb] k pos) X.env) :: starEach es X.env := by rfl)
    (h1 : starEach [ea, eb] X.env = (false, eval ea X.env) :: starEach [eb] X.env := by rfl) (h2 : starEach [eb] X.env = (false, eval eb X.env) :: starEach [] X.env := by rfl) : PA X (.Tuple [ea, eb] k pos :: es) (tCl1 ((i, j) :: cs)) :=
  pa_wk1 (pa_cons (pe_tup (pa_cons ha (pa_cons hb pa_nil h2) h1)) r hs) fun σ H Q q => ⟨by show 2 ≤ sizeLine; decide, fun T nT H2 vs s2 c => q H2 _ ((same_new nT).trans s2) (.cons ⟨T, rfl, s2 _ _ upd_same⟩ c)⟩
theorem cl_list {es : List Expr} {pos : Pos} {cs : List Cell} (r : PA X es (tCl1 cs)) (hl : cs.length ≤ 64) : PE X (.List es pos) (tClL cs) :=
  pe_wk1 (pe_lst r) fun σ H Q q H1 vs s1 c => ⟨by rw [Paired.length c]; exact Nat.le_of_lt (small64 hl), fun p np => q _ p vs (s1.trans (same_new np)) upd_same (Paired.mono (fun _ _ ⟨t, e, z⟩ => ⟨t, e, same_new np _ _ z⟩) c)⟩
end
abbrev sTurnsR : Stmt := topS 33
abbrev nTurns50 : List Str := ["_law_every", "_law_sides_here", "_law_letters", "_law_known", "_law_high", "_law_wide", "_law_some", "_law_told", "_law_results"]
theorem scTurns50 : FnScope nTurns50 [] (defScope sTurnsR) := ⟨rfl, rfl, rfl, by decide +kernel, rfl, by decide +kernel, by decide +kernel⟩
def sdN : List (Nat × Nat) := [(1, 4), (4, 1), (2, 2), (1, 4)]
def cellN (p : Nat × Nat) : Cell := ((p.1 : Int), (p.2 : Int))
theorem sdN_ok {p : Nat × Nat} (h : p ∈ sdN) : Sides p.1 p.2 ∧ p.1 * p.2 = 4 := by
  rcases (by simpa [sdN] using h : p = (1, 4) ∨ p = (4, 1) ∨ p = (2, 2) ∨ p = (1, 4)) with rfl | rfl | rfl | rfl <;> exact ⟨⟨by decide, by decide, by decide⟩, rfl⟩
def sds50 : List Cell := [(1, 4), (4, 1), (2, 2), (1, 4)]
theorem sds50_eq : sds50 = sdN.map cellN := rfl
def cntW (w : List Bool) (T : List Int) : List Int := sdN.map fun p => (cntR p.1 p.2 w T : Int)
/-- a list of tables, not this one -/
def LstT (K : PySem.W.Frag) (N : Addr) (H : Hp) (x : V) (ls : List (List Int)) : Prop := ∃ D acc, x = .ref D ∧ D ≠ N ∧ H D = some (.lst acc) ∧ Paired (TupI K H) acc ls
theorem LstT.kt {K : PySem.W.Frag} {N : Addr} {H H' : Hp} (kt : KT K H H') (k : ∀ z o, z ≠ N → H z = some o → H' z = some o) {x : V} {ls : List (List Int)} (h : LstT K N H x ls) : LstT K N H' x ls := by
  obtain ⟨D, acc, e, n, hD, p⟩ := h
  exact ⟨D, acc, e, n, k _ _ n hD, tupI_kt kt p⟩
def spTurns50 : Sp := fun vs H Q _ => vs = [] ∧ ∀ H', Same H H' → Q (.bl true) H'
section
variable {P : Program} {w : World} {K : PySem.W.Frag} {mg : Str → Option Value} {base : Heap}
theorem ok_turns50 {f fO fA fC : Addr} {fd fdO fdA fdC : FuncData} (F : Fun K "_law_turns_right" "_law_turns_right" sTurnsR f fd)
    (GO : FnOk P w K mg base CX0 1 fO fdO ["_law_size"] spOrdersE) (bO : Binds K fdO ["_law_size"] []) (gO : mg "_law_orders" = some (.ref fO)) (kO : PySem.W.keepIn K (.ref fO) = true)
    (GA : FnOk P w K mg base CX0 3 fA fdA ["_law_high", "_law_wide", "_law_some", "_law_letters"] (spAfterE K)) (bA : Binds K fdA ["_law_high", "_law_wide", "_law_some", "_law_letters"] []) (gA : mg "_law_after" = some (.ref fA)) (kA : PySem.W.keepIn K (.ref fA) = true)
    (GC : FnOk P w K mg base CX0 5 fC fdC ["rows", "columns", "table", "word"] (spOrig K)) (bC : Binds K fdC ["rows", "columns", "table", "word"] []) (gC : mg "count_origins" = some (.ref fC)) (kC : PySem.W.keepIn K (.ref fC) = true) : FnG P w K mg base 7 f fd [] spTurns50 := by
  refine okG F scTurns50 (fun vs H Q E h => ?_) (fun cdv A outer s H vs Q E hr hgd h => ?_)
  · obtain ⟨rfl, _⟩ := h
    rfl
  · obtain ⟨rfl, q⟩ := h
    have nd := scTurns50.nd
    have hr1 : Room 1 _ := hr.mono (by omega)
    have hr3 : Room 3 _ := hr.mono (by omega)
    have hr5 : Room 5 _ := hr.mono (by omega)
    have hu65 : (A.deeper (envOfC "_law_turns_right" (defScope sTurnsR) s.heap.objs.size f cdv)).units + 65 < cLine := by
      have := hr.un
      omega
    refine ⟨_, pss_cons (ps_par (i := 0) (j := 1) (by rfl) nd rfl rfl (by decide) rfl rfl (pa_cons (pe_call GO hr1 (by rfl) gO kO bO .nil pass0 (pa_cons pe_int pa_nil)) (pa_cons (cl_list (cs := sds50) (cl_cons pe_int pe_int (cl_cons pe_int pe_int (cl_cons pe_int pe_int (cl_cons pe_int pe_int cl_nil)))) (by decide)) pa_nil)) (by rfl))
      (pss_cons (ps_for PassesOwn.never rfl (pi_list (pe_lst (pa_cons pe_str (pa_cons pe_str (pa_cons pe_str (pa_cons pe_str pa_nil)))))) (pg_name (i := 2) nd rfl (.inr rfl))
        (pss_cons (ps_set (i := 3) nd rfl (.inl rfl) (pe_lst pa_nil))
        (pss_cons (ps_for PassesOwn.never rfl (pi_list (pv 1)) (pg_tup (by rfl) (pgs_cons (pg_name (i := 4) nd rfl (.inr rfl)) (pgs_cons (pg_name (i := 5) nd rfl (.inr rfl)) pgs_nil)))
          (pss_one (ps_expr (pe_bm PySem.F.plainAttrs_list PySem.F.slot_list_append PySem.F.type_list_append mt_append (pv 3) (pa_cons
            (pe_lc (own := [("_law_some", 6)]) (g := gName 6) (tt := tYes) rfl nd (pi_list (pv 0)) (blkOk_by (N := nTurns50) (sc := defScope sTurnsR) (by decide +kernel))
              (fun _ _ _ _ _ => pg_name (i := 6) nd rfl (Or.inl rfl)) (fun _ _ _ _ _ => pts_nil)
              (fun _ _ _ _ _ => pe_call GA hr3 (by rfl) gA kA bA .nil pass0 (pa_cons (pv 4) (pa_cons (pv 5) (pa_cons (pv 6) (pa_cons (pv 2) pa_nil)))))) pa_nil)))))
        (pss_one (ps_for PassesOwn.never rfl (pi_list (pv 0)) (pg_name (i := 6) nd rfl (.inr rfl))
          (pss_cons (ps_setLc (i := 7) (own := [("_law_high", 4), ("_law_wide", 5)]) (tt := tYes) rfl nd rfl rfl (sw_true rfl rfl rfl (by decide +kernel))
              (pi_list (pv 1)) (blkOk_by (N := nTurns50) (sc := defScope sTurnsR) (by decide +kernel))
              (fun _ _ _ _ _ => pg_tupK (K := K) (n := 2) rfl (by rfl) (pgs_cons (pg_name (i := 4) nd rfl (Or.inl rfl)) (pgs_cons (pg_name (i := 5) nd rfl (Or.inl rfl)) pgs_nil))) (fun _ _ _ _ _ => pts_nil)
              (fun _ _ _ _ _ => pe_call GC hr5 (by rfl) gC kC bC .nil pass0 (pa_cons (pv 4) (pa_cons (pv 5) (pa_cons (pv 6) (pa_cons (pv 2) pa_nil))))))
          (pss_one (ps_if (pt_cmpR (op_neD hr.units) (pv 7)
              (pe_lc (own := [("_law_results", 8)]) (g := gName 8) (tt := tYes) rfl nd (pi_list (pv 3)) (blkOk_by (N := nTurns50) (sc := defScope sTurnsR) (by decide +kernel))
                (fun _ _ _ _ _ => pg_name (i := 8) nd rfl (Or.inl rfl)) (fun _ _ _ _ _ => pts_nil)
                (fun _ _ _ _ _ => pe_bmK (K := K) (r := rCntD K) rfl PySem.F.plainAttrs_list PySem.F.slot_list_count PySem.F.type_list_count (mt_lcountD hu65) (pv 8) (pa_cons (pv 6) pa_nil))) (nomark _)) (pss_one (ps_ret pe_bl)) pss_nil))))))))
      (pss_one (ps_ret pe_bl))), ?_⟩
    refine ⟨4, rfl, by decide, fun H1 E ys s1 hE hy => ?_⟩
    intro H2 S xs s2 hS hx
    have hE := s2 _ _ hE
    have hy := tupE_mono (.of_same s2) hy
    refine ⟨_, _, rfl, ?_⟩
    have s03 := s1.trans s2
    clear s1
    have yl := Paired.length hy
    have xl : xs.length = 4 := Paired.length hx
    have o4 : (ordI 4).length = 24 := by rw [len_ord]; rfl
    rw [o4] at yl
    refine ⟨by show 4 ≤ sizeLine; decide, fun L nL => ?_⟩
    have sL := same_new (o := .lst [.str "R", .str "C", .str "RC", .str "CR"]) nL
    have hL : upd H2 L (.lst [.str "R", .str "C", .str "RC", .str "CR"]) L = some (.lst (wd4'.map fun w => V.str (wS w))) := by rw [upd_same, wd4'_str]
    have hE := sL _ _ hE
    have hS := sL _ _ hS
    have hy := tupE_mono (.of_same sL) hy
    have hx : CellsT (upd H2 L (.lst [.str "R", .str "C", .str "RC", .str "CR"])) xs sds50 := Paired.mono (fun _ _ ⟨t, e, z⟩ => ⟨t, e, sL _ _ z⟩) hx
    have s04 := s03.trans sL
    generalize upd H2 L (.lst [.str "R", .str "C", .str "RC", .str "CR"]) = H4 at hL hE hS hy hx s04
    clear sL s03 nL s2
    refine ⟨L, rfl, ⟨_, SqL.of hL⟩, for_list (K := K) (a := L) (xs := wd4'.map fun w => V.str (wS w)) (fun i σ G => ∃ y2 y3 y4 y5 y6 y7 : Option V, σ = [some (.ref E), some (.ref S), y2, y3, y4, y5, y6, y7, none] ∧ Same H4 G) ?_ ?_ ?_ ?_⟩
    · exact ⟨none, none, none, none, none, none, rfl, Same.refl _⟩
    · rintro i σ G _ ⟨_, _, _, _, _, _, _, sG⟩
      exact SqL.of (sG _ _ hL)
    · rintro i x σ G hi ⟨y2, y3, y4, y5, y6, y7, rfl, sG⟩
      obtain ⟨wd, w4, rfl⟩ := wd4_at hi
      have hE := sG _ _ hE
      have hS := sG _ _ hS
      have hy := tupE_mono (.of_same sG) hy
      have hx : CellsT G xs sds50 := Paired.mono (fun _ _ ⟨t, e, z⟩ => ⟨t, e, sG _ _ z⟩) hx
      refine ⟨by show 0 ≤ sizeLine; decide, fun N nN => ?_⟩
      have sN := same_new (o := .lst []) nN
      have nEN : E ≠ N := ne_of_none hE nN
      have nSN : S ≠ N := ne_of_none hS nN
      refine ⟨_, rfl, S, rfl, ⟨_, SqL.of (sN _ _ hS)⟩, for_list (K := K) (a := S) (xs := xs) (fun j σ G' => ∃ (kl : List V) (y4 y5 : Option V), σ = [some (.ref E), some (.ref S), some (.str (wS wd)), some (.ref N), y4, y5, y6, y7, none] ∧ (∀ b o, b ≠ N → G b = some o → G' b = some o) ∧ G' N = some (.lst kl) ∧
        Paired (LstT K N G') kl ((sdN.take j).map fun p => (ordI 4).map (aftR p.1 p.2 wd))) ?_ ?_ ?_ ?_⟩
      · exact ⟨[], y4, y5, rfl, fun b o n e => sN b o e, upd_same, .nil⟩
      · rintro j σ G' _ ⟨_, _, _, _, k', _⟩
        exact SqL.of (k' _ _ nSN hS)
      · rintro j x σ G' hj ⟨kl, y4, y5, rfl, k', hN, hk⟩
        have sm : Same G G' := fun b o e => k' b o (ne_of_none e nN) e
        obtain ⟨cl, hcj, t, rfl, ht⟩ := paired_get hx hj
        obtain ⟨pr, hpj, rfl⟩ : ∃ pr, sdN[j]? = some pr ∧ cl = cellN pr := by
          rw [sds50_eq, List.getElem?_map] at hcj
          cases e : sdN[j]? with
          | none =>
            rw [e] at hcj
            cases hcj
          | some pr =>
            rw [e] at hcj
            cases hcj
            exact ⟨pr, rfl, rfl⟩
        obtain ⟨sd, rc4⟩ := sdN_ok (List.mem_of_getElem? hpj)
        have jl := (List.getElem?_eq_some_iff.mp hj).1
        have hE' := sm _ _ hE
        have hy' := tupE_mono (.of_same sm) hy
        refine ⟨t, _, rfl, SqT.of (sm _ _ ht), rfl, _, _, rfl, _, _, rfl, rfl, ?_⟩
        refine ⟨_, rfl, .inl ⟨rfl, _, SqL.of hN⟩, _, rfl, E, rfl, ⟨_, SqL.of hE'⟩, fun D nD => ?_⟩
        have nED : E ≠ D := ne_of_none hE' nD
        have nND : N ≠ D := ne_of_none hN nD
        refine lc_list (K := K) (a := E) (xs := ys) (fun m G2 => ∃ acc, G2 D = some (.lst acc) ∧ Paired (TupI K G2) acc (((ordI 4).take m).map (aftR pr.1 pr.2 wd)) ∧ (∀ b o, b ≠ D → G' b = some o → G2 b = some o)) ?_ ?_ ?_ ?_
        · exact ⟨[], upd_same, .nil, fun b o n e => by rw [upd_ne n]; exact e⟩
        · rintro m G2 _ ⟨acc, a1, a2, a3⟩
          exact SqL.of (a3 _ _ nED hE')
        · rintro m x G2 hm ⟨acc, a1, a2, a3⟩
          have s2 : Same G' G2 := fun b o e => a3 b o (ne_of_none e nD) e
          obtain ⟨v, hvm, t2, rfl, ht2⟩ := paired_get hy' hm
          have ml := (List.getElem?_eq_some_iff.mp hm).1
          have al : acc.length ≤ 24 := by
            rw [Paired.length a2, List.length_map, List.length_take]
            omega
          refine ⟨rfl, _, rfl, _, rfl, _, rfl, _, rfl, pr.1, pr.2, t2, wd, v, rfl, sd, SqT.of (s2 _ _ ht2), by rw [rc4]; exact ord_len (List.mem_of_getElem? hvm), wd4_ne w4, fun G3 u s3 hu => ?_⟩
          have hD3 := s3 _ _ a1
          refine ⟨acc, hD3, by rw [sizeLine_eq]; omega, acc ++ [.ref u], upd_same, ?_, fun b o n e => by rw [upd_ne n]; exact s3 _ _ (a3 b o n e)⟩
          rw [List.take_add_one, hvm, List.map_append]
          exact paired_append (tupI_kt ((KT.of_same s3).trans (KT.upd hD3)) a2) (.cons ⟨u, rfl, KT.upd hD3 _ _ (SqT.of hu)⟩ .nil)
        rintro G2 ⟨acc, a1, a2, a3⟩
        have s2 : Same G' G2 := fun b o e => a3 b o (ne_of_none e nD) e
        rw [List.take_of_length_le (by omega)] at a2
        have hN2 := a3 _ _ nND hN
        refine ⟨N, kl, .ref D, rfl, rfl, hN2, ?_, ?_⟩
        · rw [Paired.length hk, List.length_map, List.length_take, sizeLine_eq]
          omega
        refine ⟨kl ++ [.ref D], _, _, rfl, fun b o n e => by rw [upd_ne n]; exact s2 _ _ (k' b o n e), upd_same, ?_⟩
        rw [List.take_add_one, hpj, List.map_append]
        have ktN : KT K G2 (upd G2 N (.lst (kl ++ [.ref D]))) := KT.upd hN2
        refine paired_append (Paired.mono (fun _ _ h => LstT.kt ((KT.of_same s2).trans ktN) (fun z o n e => by rw [upd_ne n]; exact s2 _ _ e) h) hk) (.cons ⟨D, acc, rfl, Ne.symm nND, ?_, tupI_kt ktN a2⟩ .nil)
        rw [upd_ne (Ne.symm nND)]
        exact a1
      rintro σ G1 ⟨kl, y4, y5, rfl, k1, hN, hk⟩
      rw [xl, List.take_of_length_le (by decide)] at hk
      have sm : Same G G1 := fun b o e => k1 b o (ne_of_none e nN) e
      have sG := sG.trans sm
      have hE := sm _ _ hE
      have hS := sm _ _ hS
      have hy := tupE_mono (.of_same sm) hy
      have hx : CellsT G1 xs sds50 := Paired.mono (fun _ _ ⟨t, e, z⟩ => ⟨t, e, sm _ _ z⟩) hx
      have kll : kl.length = 4 := Paired.length hk
      clear sm k1 nN sN
      refine ⟨_, rfl, E, rfl, ⟨_, SqL.of hE⟩, for_list (K := K) (a := E) (xs := ys) (fun j σ G' => ∃ (y6 y7 : Option V), σ = [some (.ref E), some (.ref S), some (.str (wS wd)), some (.ref N), y4, y5, y6, y7, none] ∧ Same G1 G') ?_ ?_ ?_ ?_⟩
      · exact ⟨y6, y7, rfl, Same.refl _⟩
      · rintro j σ G' _ ⟨_, _, _, s'⟩
        exact SqL.of (s' _ _ hE)
      · rintro j x σ G' hj ⟨y6, y7, rfl, s'⟩
        obtain ⟨T, hTj, t, rfl, ht0⟩ := paired_get hy hj
        have mo := List.mem_of_getElem? hTj
        have ht := s' _ _ ht0
        have hS' := s' _ _ hS
        refine ⟨_, rfl, S, rfl, ⟨_, SqL.of hS'⟩, fun D nD => ?_⟩
        have nSD : S ≠ D := ne_of_none hS' nD
        refine lc_list (K := K) (a := S) (xs := xs) (fun m G2 => G2 D = some (.lst (((cntW wd T).take m).map V.int)) ∧ (∀ b o, b ≠ D → G' b = some o → G2 b = some o)) ?_ ?_ ?_ ?_
        · exact ⟨upd_same, fun b o n e => by rw [upd_ne n]; exact e⟩
        · rintro m G2 _ ⟨a1, a3⟩
          exact SqL.of (a3 _ _ nSD hS')
        · rintro m x G2 hm ⟨a1, a3⟩
          have s2 : Same G' G2 := fun b o e => a3 b o (ne_of_none e nD) e
          obtain ⟨cl, hcj, t2, rfl, ht2⟩ := paired_get hx hm
          obtain ⟨pr, hpj, rfl⟩ : ∃ pr, sdN[m]? = some pr ∧ cl = cellN pr := by
            rw [sds50_eq, List.getElem?_map] at hcj
            cases e : sdN[m]? with
            | none =>
              rw [e] at hcj
              cases hcj
            | some pr =>
              rw [e] at hcj
              cases hcj
              exact ⟨pr, rfl, rfl⟩
          obtain ⟨sd, rc4⟩ := sdN_ok (List.mem_of_getElem? hpj)
          have ml := (List.getElem?_eq_some_iff.mp hm).1
          refine ⟨t2, _, rfl, SqT.of (s2 _ _ (s' _ _ ht2)), rfl, _, _, rfl, _, _, rfl, rfl, rfl, ?_⟩
          have mo' : T ∈ ordI (pr.1 * pr.2) := by rw [rc4]; exact mo
          refine ⟨_, rfl, _, rfl, _, rfl, _, rfl, pr.1, pr.2, t, T, wd, rfl, sd, SqT.of (s2 _ _ ht), ord_tab mo', w4, fun G3 s3 => ?_⟩
          rw [cntR_orig sd (by omega) w4 mo']
          refine ⟨_, s3 _ _ a1, ?_, ?_, fun b o n e => by rw [upd_ne n]; exact s3 _ _ (a3 b o n e)⟩
          · rw [List.length_map, List.length_take, sizeLine_eq]
            omega
          · have e : (cntW wd T)[m]? = some (cntR pr.1 pr.2 wd T : Int) := by
              unfold cntW
              rw [List.getElem?_map, hpj]
              rfl
            rw [upd_same, List.take_add_one, e, List.map_append]
            rfl
        rintro G2 ⟨a1, a3⟩
        have s2 : Same G' G2 := fun b o e => a3 b o (ne_of_none e nD) e
        rw [xl, show List.take 4 (cntW wd T) = cntW wd T from rfl] at a1
        have s12 := s'.trans s2
        have hk2 : Paired (LstT K N G2) kl (sdN.map fun p => (ordI 4).map (aftR p.1 p.2 wd)) := Paired.mono (fun _ _ h => LstT.kt (.of_same s12) (fun z o n e => s12 _ _ e) h) hk
        have hN2 := s12 _ _ hN
        have ht2 := s2 _ _ ht
        refine ⟨_, rfl, _, rfl, N, rfl, ⟨_, SqL.of hN2⟩, fun M nM => ?_⟩
        have nNM : N ≠ M := ne_of_none hN2 nM
        refine lc_list (K := K) (a := N) (xs := kl) (fun m G3 => G3 M = some (.lst (((cntW wd T).take m).map V.int)) ∧ (∀ b o, b ≠ M → G2 b = some o → G3 b = some o)) ?_ ?_ ?_ ?_
        · exact ⟨upd_same, fun b o n e => by rw [upd_ne n]; exact e⟩
        · rintro m G3 _ ⟨b1, b3⟩
          exact SqL.of (b3 _ _ nNM hN2)
        · rintro m x G3 hm ⟨b1, b3⟩
          have s3 : Same G2 G3 := fun b o e => b3 b o (ne_of_none e nM) e
          obtain ⟨ls, hls, D1, acc, rfl, nD1, hD1, hacc⟩ := paired_get hk2 hm
          rw [List.getElem?_map] at hls
          cases epr : sdN[m]? with
          | none =>
            rw [epr] at hls
            cases hls
          | some pr =>
            rw [epr] at hls
            cases hls
            obtain ⟨sd, rc4⟩ := sdN_ok (List.mem_of_getElem? epr)
            have ml := (List.getElem?_eq_some_iff.mp hm).1
            refine ⟨rfl, _, rfl, .inl ⟨rfl, _, SqL.of (s3 _ _ hD1)⟩, _, rfl, D1, acc, ((ordI 4).map (aftR pr.1 pr.2 wd)).map lineD, .ref t, lineD T, rfl, rfl, SqL.of (s3 _ _ hD1), dp_lines (tupI_kt (.of_same s3) hacc), .tup (SqT.of (s3 _ _ ht2)) (dp_ints _), plain_lines _, plain_line _, by rw [depth_line]; decide, ?_⟩
            rw [count_ints]
            refine ⟨_, b1, ?_, ?_, fun b o n e => by rw [upd_ne n]; exact b3 b o n e⟩
            · rw [List.length_map, List.length_take, sizeLine_eq]
              omega
            · have e : (cntW wd T)[m]? = some (cntR pr.1 pr.2 wd T : Int) := by
                unfold cntW
                rw [List.getElem?_map, epr]
                rfl
              have e2 : cntR pr.1 pr.2 wd T = ((ordI 4).map (aftR pr.1 pr.2 wd)).count T := by
                unfold cntR
                rw [rc4]
              rw [upd_same, List.take_add_one, e, List.map_append, e2]
              rfl
        rintro G3 ⟨b1, b3⟩
        have s3 : Same G2 G3 := fun b o e => b3 b o (ne_of_none e nM) e
        rw [kll, show List.take 4 (cntW wd T) = cntW wd T from rfl] at b1
        refine ⟨.list ((cntW wd T).map PyData.int), .list ((cntW wd T).map PyData.int), .lst (SqL.of (s3 _ _ a1)) (dp_ints _), .lst (SqL.of b1) (dp_ints _), ints_shaped _, ints_shaped _, _, rfl, ?_⟩
        rw [ints_eqvL, decide_eq_true rfl]
        refine iteF ?_
        exact ⟨_, _, rfl, s12.trans s3⟩
      · rintro σ G' ⟨y6, y7, rfl, s'⟩
        exact ⟨_, _, _, _, _, _, rfl, sG.trans s'⟩
    · rintro σ G ⟨y2, y3, y4, y5, y6, y7, rfl, sG⟩
      exact q G (s04.trans sG)
end
end KS
namespace KS
open PySem PySem.Spec PyProof.Rows L2
theorem wsRC' : V.str (wS [false, true]) = V.str "RC" := by decide +kernel
theorem wsCR' : V.str (wS [true, false]) = V.str "CR" := by decide +kernel
abbrev sLaw : Stmt := topS 34
abbrev nLaw : List Str := ["_law_script", "_law_k"]
theorem scLaw : FnScope nLaw ["_law_script"] (defScope sLaw) := ⟨rfl, rfl, rfl, by decide +kernel, rfl, by decide +kernel, by decide +kernel⟩
section
variable {P : Program} {w : World} {K : PySem.W.Frag} {mg : Str → Option Value} {base : Heap}
theorem ok_law50 {f fC fP fR fT fL : Addr} {fd fdC fdP fdR fdT fdL : FuncData} (F : Fun K "law" "law" sLaw f fd)
    (GC : FnOk P w K mg base CX0 1 fC fdC ["_law_script", "_law_k"] (spCell K)) (bC : Binds K fdC ["_law_script", "_law_k"] []) (gC : mg "_law_cell" = some (.ref fC)) (kC : PySem.W.keepIn K (.ref fC) = true)
    (GP : FnOk P w K mg base CX0 1 fP fdP ["_law_item"] spPool) (bP : Binds K fdP ["_law_item"] []) (gP : mg "_law_pool" = some (.ref fP)) (kP : PySem.W.keepIn K (.ref fP) = true)
    (GR : FnOk P w K mg base CX0 6 fR fdR ["_law_pool_here"] spRight) (bR : Binds K fdR ["_law_pool_here"] []) (gR : mg "_law_right" = some (.ref fR)) (kR : PySem.W.keepIn K (.ref fR) = true)
    (GT : FnG P w K mg base 7 fT fdT [] spTurns50) (bT : Binds K fdT [] []) (gT : mg "_law_turns_right" = some (.ref fT)) (kT : PySem.W.keepIn K (.ref fT) = true)
    (GL : FnOk P w K mg base CX0 5 fL fdL ["rows", "columns", "table", "word"] (spOrig K)) (bL : Binds K fdL ["rows", "columns", "table", "word"] []) (gL : mg "count_origins" = some (.ref fL)) (kL : PySem.W.keepIn K (.ref fL) = true)
    (ma : mg "all" = none) (mr : mg "range" = none) (mx : mg "max" = none) (mn : mg "min" = none) (ml : mg "len" = none) : FnG P w K mg base 8 f fd ["_law_script"] (spLaw K) := by
  refine okG F scLaw (fun vs H Q E h => ?_) (fun cdv A outer s H vs Q E hr hgd h => ?_)
  · obtain ⟨a, ns, rfl, _⟩ := h
    rfl
  · obtain ⟨a, ns, rfl, hS, hl, q⟩ := h
    have nd := scLaw.nd
    have hr1 : Room 1 _ := hr.mono (by omega)
    have hr5 : Room 5 _ := hr.mono (by omega)
    have hr6 : Room 6 _ := hr.mono (by omega)
    refine ⟨_, pss_cons (ps_if (pt_not (pt_val (pe_callG0 GT hr hgd (by rfl) gT kT bT))) (pss_one (ps_ret pe_bl)) pss_nil)
      (pss_cons (ps_if (pt_cmpR (op_neD hr.units) (pe_lst (pa_cons (pe_call GL hr5 (by rfl) gL kL bL .nil pass0 (pa_cons pe_int (pa_cons pe_int (pa_cons (pe_tup (pa_cons pe_int (pa_cons pe_int (pa_cons pe_int (pa_cons pe_int pa_nil))))) (pa_cons pe_str pa_nil))))) (pa_cons (pe_call GL hr5 (by rfl) gL kL bL .nil pass0 (pa_cons pe_int (pa_cons pe_int (pa_cons (pe_tup (pa_cons pe_int (pa_cons pe_int (pa_cons pe_int (pa_cons pe_int pa_nil))))) (pa_cons pe_str pa_nil))))) pa_nil)))
          (pe_lst (pa_cons pe_int (pa_cons pe_int pa_nil))) (nomark _)) (pss_one (ps_ret pe_bl)) pss_nil)
      (pss_one (ps_ret (pe_callB (cr_all rfl) (by rfl) ma (by decide +kernel) (pa_cons
      (pe_lc (own := [("_law_k", 1)]) (g := gName 1) (tt := tYes) rfl nd (pi_range1 (by rfl) mr (pa_cons (pe_callB (call_max2 rfl) (by rfl) mx (by decide +kernel) (pa_cons pe_int (pa_cons (pe_callB (call_min2 rfl) (by rfl) mn (by decide +kernel)
          (pa_cons (pe_callB call_len_seq (by rfl) ml PySem.boot_len (pa_cons (pv 0) pa_nil)) (pa_cons pe_int pa_nil))) pa_nil))) pa_nil)) (blkOk_by (N := nLaw) (sc := defScope sLaw) (by decide +kernel))
        (fun _ _ _ _ _ => pg_name (i := 1) nd rfl (Or.inl rfl)) (fun _ _ _ _ _ => pts_nil)
        (fun _ _ _ _ _ => pe_call GR hr6 (by rfl) gR kR bR .nil pass0 (pa_cons (pe_call GP hr1 (by rfl) gP kP bP .nil pass0 (pa_cons (pe_call GC hr1 (by rfl) gC kC bC .nil pass0 (pa_cons (pv 0) (pa_cons (pv 1) pa_nil))) pa_nil)) pa_nil))) pa_nil))))), ?_⟩
    refine ⟨rfl, fun H1 s1 => ⟨_, rfl, iteF ?_⟩⟩
    refine ⟨by show 4 ≤ sizeLine; decide, fun Z nZ => ?_⟩
    have sZ := same_new (o := .tup [.int 1, .int 3, .int 2, .int 4]) nZ
    refine ⟨2, 2, Z, [1, 3, 2, 4], [false, true], by rw [wsRC']; rfl, ⟨by decide, by decide, by decide⟩, SqT.of upd_same, ⟨rfl, by decide, by decide⟩, .inr (.inr (.inl rfl)), fun H2 s2 => ?_⟩
    have e1 : origI 2 2 [1, 3, 2, 4] [false, true] = 16 := by rw [← origK_eq]; decide +kernel
    rw [e1]
    refine ⟨by show 4 ≤ sizeLine; decide, fun Z2 nZ2 => ?_⟩
    have sZ2 := same_new (o := .tup [.int 1, .int 2, .int 3, .int 4]) nZ2
    refine ⟨2, 2, Z2, [1, 2, 3, 4], [true, false], by rw [wsCR']; rfl, ⟨by decide, by decide, by decide⟩, SqT.of upd_same, ⟨rfl, by decide, by decide⟩, .inr (.inr (.inr rfl)), fun H3 s3 => ?_⟩
    have e2 : origI 2 2 [1, 2, 3, 4] [true, false] = 16 := by rw [← origK_eq]; decide +kernel
    rw [e2]
    refine ⟨by show 2 ≤ sizeLine; decide, fun Y nY => ?_⟩
    have sY := same_new (o := .lst [.int 16, .int 16]) nY
    refine ⟨by show 2 ≤ sizeLine; decide, fun Y2 nY2 => ?_⟩
    have sY2 := same_new (o := .lst [.int 16, .int 16]) nY2
    refine ⟨.list (([16, 16] : List Int).map PyData.int), .list (([16, 16] : List Int).map PyData.int), .lst (SqL.of (sY2 _ _ upd_same)) (dp_ints [16, 16]), .lst (SqL.of upd_same) (dp_ints [16, 16]), ints_shaped _, ints_shaped _, _, rfl, ?_⟩
    rw [ints_eqvL, decide_eq_true rfl]
    refine iteF ?_
    have sA := (((((s1.trans sZ).trans s2).trans sZ2).trans s3).trans sY).trans sY2
    have hS := sA.seq hS
    generalize upd (upd H3 Y (.lst [.int 16, .int 16])) Y2 (.lst [.int 16, .int 16]) = G at hS
    clear sA sY2 sY s3 sZ2 s2 sZ s1
    refine ⟨_, rfl, a, _, rfl, .inl hS, _, _, rfl, _, _, rfl, _, rfl, ?_, ?_, fun D nD => ?_⟩
    · split <;> split <;> omega
    · split <;> split <;> omega
    generalize hN : (if (if (5 : Int) < ((ns.map V.int).length : Int) then (5 : Int) else ((ns.map V.int).length : Int)) > 2 then (if (5 : Int) < ((ns.map V.int).length : Int) then (5 : Int) else ((ns.map V.int).length : Int)) else 2) = N
    have hNb : 0 ≤ N ∧ N ≤ 5 := by
      rw [← hN]
      split <;> split <;> omega
    refine lc_range (lo := 0) (n := N.toNat) (fun i H' => H' D = some (.lst ((List.replicate i true).map V.bl)) ∧ (∀ b o, b ≠ D → G b = some o → H' b = some o)) ?_ ?_ ?_
    · exact ⟨upd_same, fun b o n e => by rw [upd_ne n]; exact e⟩
    · rintro i H' hi ⟨a1, a2⟩
      have sD : Same G H' := fun b o e => a2 b o (ne_of_none e nD) e
      refine ⟨rfl, _, rfl, _, rfl, a, ns, i, by
        show [V.ref a, V.int (0 + (i : Int))] = _
        rw [Int.zero_add], sD.seq hS, by omega, fun H1 n s1 => ⟨n, rfl, fun H2 p s2 np po => ⟨p, rfl, po, fun H3 kx => ?_⟩⟩⟩
      have nDp : D ≠ p := ne_of_none (s1 _ _ a1) np
      have s12 := s1.trans s2
      refine ⟨_, kx _ _ nDp (s12 _ _ a1), ?_, ?_, fun b o n e => ?_⟩
      · rw [List.length_map, List.length_replicate]
        exact small64 (by omega)
      · rw [upd_same, List.replicate_succ', List.map_append]
        rfl
      · rw [upd_ne n]
        have e1 := a2 b o n e
        exact kx _ _ (ne_of_none (s1 _ _ e1) np) (s12 _ _ e1)
    · rintro H' ⟨a1, a2⟩
      refine ⟨D, _, rfl, SqL.of a1, ?_⟩
      rw [show (List.replicate N.toNat true).all id = true by simp]
      exact q H'
end
end KS
namespace KS
open PySem PySem.Spec PyProof.Rows L2
-- topS
theorem all_mk {l : PySem.W.OpenLaw} {w : World} {K : PySem.W.Frag} {h : Heap} {mg : Str → Option Value} {fa f0 f1 f2 f3 f4 f5 f6 f7 f8 f9 f10 f11 f12 f13 f14 f15 f16 f17 f18 f19 f20 f21 f22 f23 f24 : Addr} (X : K.In h) (G : h.Ns mainGlobals mg) (hfa : mg "law" = some (.ref fa))
    {od0 an0 od1 an1 od2 an2 od3 an3 od4 an4 od5 an5 od6 an6 od7 an7 od8 an8 od9 an9 od10 an10 od11 an11 od12 an12 od13 an13 od14 an14 od15 an15 od16 an16 od17 an17 od18 an18 od19 an19 od20 an20 od21 an21 od22 an22 od23 an23 od24 an24 : Option Addr} {sl0 sl1 sl2 sl3 sl4 sl5 sl6 sl7 sl8 sl9 sl10 sl11 sl12 sl13 sl14 sl15 sl16 sl17 sl18 sl19 sl20 sl21 sl22 sl23 sl24 : Array (Option Value)}
    {oc0 kV0 dc0 pm0 cd0 ct0 oc1 kV1 dc1 pm1 cd1 ct1 oc2 kV2 dc2 pm2 cd2 ct2 oc3 kV3 dc3 pm3 cd3 ct3 oc4 kV4 dc4 pm4 cd4 ct4 oc5 kV5 dc5 pm5 cd5 ct5 oc6 kV6 dc6 pm6 cd6 ct6 oc7 kV7 dc7 pm7 cd7 ct7 oc8 kV8 dc8 pm8 cd8 ct8 oc9 kV9 dc9 pm9 cd9 ct9 oc10 kV10 dc10 pm10 cd10 ct10 oc11 kV11 dc11 pm11 cd11 ct11 oc12 kV12 dc12 pm12 cd12 ct12 oc13 kV13 dc13 pm13 cd13 ct13 oc14 kV14 dc14 pm14 cd14 ct14 oc15 kV15 dc15 pm15 cd15 ct15 oc16 kV16 dc16 pm16 cd16 ct16 oc17 kV17 dc17 pm17 cd17 ct17 oc18 kV18 dc18 pm18 cd18 ct18 oc19 kV19 dc19 pm19 cd19 ct19 oc20 kV20 dc20 pm20 cd20 ct20 oc21 kV21 dc21 pm21 cd21 ct21 oc22 kV22 dc22 pm22 cd22 ct22 oc23 kV23 dc23 pm23 cd23 ct23 oc24 kV24 dc24 pm24 cd24 ct24 : Value} {tk0 : Tok}
    (a0 : PySem.W.nsIn K mainGlobals "is_whole" = some (some (.ref f0)))
    (l0 : K.lookup f0 = some ⟨oc0, od0, .func (PySem.W.fnOf "is_whole" "is_whole" (defArgs sWhole) (defBody sWhole) (defScope sWhole) .none kV0 dc0 pm0 an0 cd0 ct0), sl0⟩)
    (c0 : PySem.W.codeIn K cd0 "is_whole" = true) (k0 : PySem.W.keepIn K (.ref f0) = true)
    (a1 : PySem.W.nsIn K mainGlobals "is_between" = some (some (.ref f1)))
    (l1 : K.lookup f1 = some ⟨oc1, od1, .func (PySem.W.fnOf "is_between" "is_between" (defArgs sBetween) (defBody sBetween) (defScope sBetween) .none kV1 dc1 pm1 an1 cd1 ct1), sl1⟩)
    (c1 : PySem.W.codeIn K cd1 "is_between" = true) (k1 : PySem.W.keepIn K (.ref f1) = true)
    (a2 : PySem.W.nsIn K mainGlobals "first_fault" = some (some (.ref f2)))
    (l2 : K.lookup f2 = some ⟨oc2, od2, .func (PySem.W.fnOf "first_fault" "first_fault" (defArgs sFF) (defBody sFF) (defScope sFF) .none kV2 dc2 pm2 an2 cd2 ct2), sl2⟩)
    (c2 : PySem.W.codeIn K cd2 "first_fault" = true) (k2 : PySem.W.keepIn K (.ref f2) = true)
    (a3 : PySem.W.nsIn K mainGlobals "check_rectangle" = some (some (.ref f3)))
    (l3 : K.lookup f3 = some ⟨oc3, od3, .func (PySem.W.fnOf "check_rectangle" "check_rectangle" (defArgs sRcOk) (defBody sRcOk) (defScope sRcOk) .none kV3 dc3 pm3 an3 cd3 ct3), sl3⟩)
    (c3 : PySem.W.codeIn K cd3 "check_rectangle" = true) (k3 : PySem.W.keepIn K (.ref f3) = true)
    (a4 : PySem.W.nsIn K mainGlobals "check_table" = some (some (.ref f4)))
    (l4 : K.lookup f4 = some ⟨oc4, od4, .func (PySem.W.fnOf "check_table" "check_table" (defArgs sTabOk) (defBody sTabOk) (defScope sTabOk) .none kV4 dc4 pm4 an4 cd4 ct4), sl4⟩)
    (c4 : PySem.W.codeIn K cd4 "check_table" = true) (k4 : PySem.W.keepIn K (.ref f4) = true)
    (a5 : PySem.W.nsIn K mainGlobals "check_short_word" = some (some (.ref f5)))
    (l5 : K.lookup f5 = some ⟨oc5, od5, .func (PySem.W.fnOf "check_short_word" "check_short_word" (defArgs sShortW) (defBody sShortW) (defScope sShortW) .none kV5 dc5 pm5 an5 cd5 ct5), sl5⟩)
    (c5 : PySem.W.codeIn K cd5 "check_short_word" = true) (k5 : PySem.W.keepIn K (.ref f5) = true)
    (a6 : PySem.W.nsIn K mainGlobals "row_tuples" = some (some (.ref f6)))
    (l6 : K.lookup f6 = some ⟨oc6, od6, .func (PySem.W.fnOf "row_tuples" "row_tuples" (defArgs sRowT) (defBody sRowT) (defScope sRowT) .none kV6 dc6 pm6 an6 cd6 ct6), sl6⟩)
    (c6 : PySem.W.codeIn K cd6 "row_tuples" = true) (k6 : PySem.W.keepIn K (.ref f6) = true)
    (a7 : PySem.W.nsIn K mainGlobals "column_tuples" = some (some (.ref f7)))
    (l7 : K.lookup f7 = some ⟨oc7, od7, .func (PySem.W.fnOf "column_tuples" "column_tuples" (defArgs sColT) (defBody sColT) (defScope sColT) .none kV7 dc7 pm7 an7 cd7 ct7), sl7⟩)
    (c7 : PySem.W.codeIn K cd7 "column_tuples" = true) (k7 : PySem.W.keepIn K (.ref f7) = true)
    (a8 : PySem.W.nsIn K mainGlobals "all_ascend" = some (some (.ref f8)))
    (l8 : K.lookup f8 = some ⟨oc8, od8, .func (PySem.W.fnOf "all_ascend" "all_ascend" (defArgs sAllA) (defBody sAllA) (defScope sAllA) .none kV8 dc8 pm8 an8 cd8 ct8), sl8⟩)
    (c8 : PySem.W.codeIn K cd8 "all_ascend" = true) (k8 : PySem.W.keepIn K (.ref f8) = true)
    (a9 : PySem.W.nsIn K mainGlobals "factorial" = some (some (.ref f9)))
    (l9 : K.lookup f9 = some ⟨oc9, od9, .func (PySem.W.fnOf "factorial" "factorial" (defArgs sFact) (defBody sFact) (defScope sFact) .none kV9 dc9 pm9 an9 cd9 ct9), sl9⟩)
    (c9 : PySem.W.codeIn K cd9 "factorial" = true) (k9 : PySem.W.keepIn K (.ref f9) = true)
    (a10 : PySem.W.nsIn K mainGlobals "count_pairings" = some (some (.ref f10)))
    (l10 : K.lookup f10 = some ⟨oc10, od10, .func (PySem.W.fnOf "count_pairings" "count_pairings" (defArgs sPairg) (defBody sPairg) (defScope sPairg) .none kV10 dc10 pm10 an10 cd10 ct10), sl10⟩)
    (c10 : PySem.W.codeIn K cd10 "count_pairings" = true) (k10 : PySem.W.keepIn K (.ref f10) = true)
    (a11 : PySem.W.nsIn K mainGlobals "count_shuffles" = some (some (.ref f11)))
    (l11 : K.lookup f11 = some ⟨oc11, od11, .func (PySem.W.fnOf "count_shuffles" "count_shuffles" (defArgs sShuf) (defBody sShuf) (defScope sShuf) .none kV11 dc11 pm11 an11 cd11 ct11), sl11⟩)
    (c11 : PySem.W.codeIn K cd11 "count_shuffles" = true) (k11 : PySem.W.keepIn K (.ref f11) = true)
    (a12 : PySem.W.nsIn K mainGlobals "count_origins" = some (some (.ref f12)))
    (l12 : K.lookup f12 = some ⟨oc12, od12, .func (PySem.W.fnOf "count_origins" "count_origins" (defArgs sOrig) (defBody sOrig) (defScope sOrig) .none kV12 dc12 pm12 an12 cd12 ct12), sl12⟩)
    (c12 : PySem.W.codeIn K cd12 "count_origins" = true) (k12 : PySem.W.keepIn K (.ref f12) = true)
    (a13 : PySem.W.nsIn K mainGlobals "_law_cell" = some (some (.ref f13)))
    (l13 : K.lookup f13 = some ⟨oc13, od13, .func (PySem.W.fnOf "_law_cell" "_law_cell" (defArgs sCell) (defBody sCell) (defScope sCell) .none kV13 dc13 pm13 an13 cd13 ct13), sl13⟩)
    (c13 : PySem.W.codeIn K cd13 "_law_cell" = true) (k13 : PySem.W.keepIn K (.ref f13) = true)
    (a14 : PySem.W.nsIn K mainGlobals "_law_pool" = some (some (.ref f14)))
    (l14 : K.lookup f14 = some ⟨oc14, od14, .func (PySem.W.fnOf "_law_pool" "_law_pool" (defArgs sPool) (defBody sPool) (defScope sPool) .none kV14 dc14 pm14 an14 cd14 ct14), sl14⟩)
    (c14 : PySem.W.codeIn K cd14 "_law_pool" = true) (k14 : PySem.W.keepIn K (.ref f14) = true)
    (a15 : PySem.W.nsIn K mainGlobals "_law_draw" = some (some (.ref f15)))
    (l15 : K.lookup f15 = some ⟨oc15, od15, .func (PySem.W.fnOf "_law_draw" "_law_draw" (defArgs sDraw) (defBody sDraw) (defScope sDraw) .none kV15 dc15 pm15 an15 cd15 ct15), sl15⟩)
    (c15 : PySem.W.codeIn K cd15 "_law_draw" = true) (k15 : PySem.W.keepIn K (.ref f15) = true)
    (a16 : PySem.W.nsIn K mainGlobals "_law_sides" = some (some (.ref f16)))
    (l16 : K.lookup f16 = some ⟨oc16, od16, .func (PySem.W.fnOf "_law_sides" "_law_sides" (defArgs sSides) (defBody sSides) (defScope sSides) .none kV16 dc16 pm16 an16 cd16 ct16), sl16⟩)
    (c16 : PySem.W.codeIn K cd16 "_law_sides" = true) (k16 : PySem.W.keepIn K (.ref f16) = true)
    (a17 : PySem.W.nsIn K mainGlobals "_law_orders" = some (some (.ref f17)))
    (l17 : K.lookup f17 = some ⟨oc17, od17, .func (PySem.W.fnOf "_law_orders" "_law_orders" (defArgs sOrders) (defBody sOrders) (defScope sOrders) .none kV17 dc17 pm17 an17 cd17 ct17), sl17⟩)
    (c17 : PySem.W.codeIn K cd17 "_law_orders" = true) (k17 : PySem.W.keepIn K (.ref f17) = true)
    (a18 : PySem.W.nsIn K mainGlobals "_law_strips" = some (some (.ref f18)))
    (l18 : K.lookup f18 = some ⟨oc18, od18, .func (PySem.W.fnOf "_law_strips" "_law_strips" (defArgs sStrips) (defBody sStrips) (defScope sStrips) .none kV18 dc18 pm18 an18 cd18 ct18), sl18⟩)
    (c18 : PySem.W.codeIn K cd18 "_law_strips" = true) (k18 : PySem.W.keepIn K (.ref f18) = true)
    (a19 : PySem.W.nsIn K mainGlobals "_law_sorted" = some (some (.ref f19)))
    (l19 : K.lookup f19 = some ⟨oc19, od19, .func (PySem.W.fnOf "_law_sorted" "_law_sorted" (defArgs sSorted) (defBody sSorted) (defScope sSorted) .none kV19 dc19 pm19 an19 cd19 ct19), sl19⟩)
    (c19 : PySem.W.codeIn K cd19 "_law_sorted" = true) (k19 : PySem.W.keepIn K (.ref f19) = true)
    (a20 : PySem.W.nsIn K mainGlobals "_law_after" = some (some (.ref f20)))
    (l20 : K.lookup f20 = some ⟨oc20, od20, .func (PySem.W.fnOf "_law_after" "_law_after" (defArgs sAfter) (defBody sAfter) (defScope sAfter) .none kV20 dc20 pm20 an20 cd20 ct20), sl20⟩)
    (c20 : PySem.W.codeIn K cd20 "_law_after" = true) (k20 : PySem.W.keepIn K (.ref f20) = true)
    (a21 : PySem.W.nsIn K mainGlobals "_law_is" = some (some (.ref f21)))
    (l21 : K.lookup f21 = some ⟨oc21, od21, .func (PySem.W.fnOf "_law_is" "_law_is" (defArgs sIs) (defBody sIs) (defScope sIs) .none kV21 dc21 pm21 an21 cd21 ct21), sl21⟩)
    (c21 : PySem.W.codeIn K cd21 "_law_is" = true) (k21 : PySem.W.keepIn K (.ref f21) = true)
    (a22 : PySem.W.nsIn K mainGlobals "_law_right" = some (some (.ref f22)))
    (l22 : K.lookup f22 = some ⟨oc22, od22, .func (PySem.W.fnOf "_law_right" "_law_right" (defArgs sRight) (defBody sRight) (defScope sRight) .none kV22 dc22 pm22 an22 cd22 ct22), sl22⟩)
    (c22 : PySem.W.codeIn K cd22 "_law_right" = true) (k22 : PySem.W.keepIn K (.ref f22) = true)
    (a23 : PySem.W.nsIn K mainGlobals "_law_turns_right" = some (some (.ref f23)))
    (l23 : K.lookup f23 = some ⟨oc23, od23, .func (PySem.W.fnOf "_law_turns_right" "_law_turns_right" (defArgs sTurnsR) (defBody sTurnsR) (defScope sTurnsR) .none kV23 dc23 pm23 an23 cd23 ct23), sl23⟩)
    (c23 : PySem.W.codeIn K cd23 "_law_turns_right" = true) (k23 : PySem.W.keepIn K (.ref f23) = true)
    (a24 : PySem.W.nsIn K mainGlobals "law" = some (some (.ref f24)))
    (l24 : K.lookup f24 = some ⟨oc24, od24, .func (PySem.W.fnOf "law" "law" (defArgs sLaw) (defBody sLaw) (defScope sLaw) .none kV24 dc24 pm24 an24 cd24 ct24), sl24⟩)
    (c24 : PySem.W.codeIn K cd24 "law" = true) (k24 : PySem.W.keepIn K (.ref f24) = true)
    (z0 : PySem.W.nsIn K mainGlobals "isinstance" = some none)
    (z1 : PySem.W.nsIn K mainGlobals "int" = some none)
    (z2 : PySem.W.nsIn K mainGlobals "bool" = some none)
    (z3 : PySem.W.nsIn K mainGlobals "enumerate" = some none)
    (z4 : PySem.W.nsIn K mainGlobals "tuple" = some none)
    (z5 : PySem.W.nsIn K mainGlobals "len" = some none)
    (z6 : PySem.W.nsIn K mainGlobals "str" = some none)
    (z7 : PySem.W.nsIn K mainGlobals "range" = some none)
    (z8 : PySem.W.nsIn K mainGlobals "all" = some none)
    (z9 : PySem.W.nsIn K mainGlobals "sorted" = some none)
    (z10 : PySem.W.nsIn K mainGlobals "zip" = some none)
    (z11 : PySem.W.nsIn K mainGlobals "abs" = some none)
    (z12 : PySem.W.nsIn K mainGlobals "divmod" = some none)
    (z13 : PySem.W.nsIn K mainGlobals "min" = some none)
    (z14 : PySem.W.nsIn K mainGlobals "list" = some none)
    (z15 : PySem.W.nsIn K mainGlobals "max" = some none)
    (w0 : PySem.W.nsIn K mainGlobals "MOST_CELLS" = some (some (.int 24 tk0)))
    : ∃ fd : FuncData, (∀ (s : Shared) (v : Value), BindsTo s fd ⟨[v], []⟩ [("_law_script", v)]) ∧ ∀ base : Heap, K.In base → base.Ns mainGlobals mg → FnG l.prog w K mg base 8 fa fd ["_law_script"] (spLaw K) := by
  have e := hfa.symm.trans (PySem.W.mg_of X G a24)
  cases e
  have F0 := fun_mk (st := sWhole) l0 c0 k0
  have m0 := PySem.W.mg_of X G a0
  have F1 := fun_mk (st := sBetween) l1 c1 k1
  have m1 := PySem.W.mg_of X G a1
  have F2 := fun_mk (st := sFF) l2 c2 k2
  have m2 := PySem.W.mg_of X G a2
  have F3 := fun_mk (st := sRcOk) l3 c3 k3
  have m3 := PySem.W.mg_of X G a3
  have F4 := fun_mk (st := sTabOk) l4 c4 k4
  have m4 := PySem.W.mg_of X G a4
  have F5 := fun_mk (st := sShortW) l5 c5 k5
  have m5 := PySem.W.mg_of X G a5
  have F6 := fun_mk (st := sRowT) l6 c6 k6
  have m6 := PySem.W.mg_of X G a6
  have F7 := fun_mk (st := sColT) l7 c7 k7
  have m7 := PySem.W.mg_of X G a7
  have F8 := fun_mk (st := sAllA) l8 c8 k8
  have m8 := PySem.W.mg_of X G a8
  have F9 := fun_mk (st := sFact) l9 c9 k9
  have m9 := PySem.W.mg_of X G a9
  have F10 := fun_mk (st := sPairg) l10 c10 k10
  have m10 := PySem.W.mg_of X G a10
  have F11 := fun_mk (st := sShuf) l11 c11 k11
  have m11 := PySem.W.mg_of X G a11
  have F12 := fun_mk (st := sOrig) l12 c12 k12
  have m12 := PySem.W.mg_of X G a12
  have F13 := fun_mk (st := sCell) l13 c13 k13
  have m13 := PySem.W.mg_of X G a13
  have F14 := fun_mk (st := sPool) l14 c14 k14
  have m14 := PySem.W.mg_of X G a14
  have F15 := fun_mk (st := sDraw) l15 c15 k15
  have m15 := PySem.W.mg_of X G a15
  have F16 := fun_mk (st := sSides) l16 c16 k16
  have m16 := PySem.W.mg_of X G a16
  have F17 := fun_mk (st := sOrders) l17 c17 k17
  have m17 := PySem.W.mg_of X G a17
  have F18 := fun_mk (st := sStrips) l18 c18 k18
  have m18 := PySem.W.mg_of X G a18
  have F19 := fun_mk (st := sSorted) l19 c19 k19
  have m19 := PySem.W.mg_of X G a19
  have F20 := fun_mk (st := sAfter) l20 c20 k20
  have m20 := PySem.W.mg_of X G a20
  have F21 := fun_mk (st := sIs) l21 c21 k21
  have m21 := PySem.W.mg_of X G a21
  have F22 := fun_mk (st := sRight) l22 c22 k22
  have m22 := PySem.W.mg_of X G a22
  have F23 := fun_mk (st := sTurnsR) l23 c23 k23
  have m23 := PySem.W.mg_of X G a23
  have F24 := fun_mk (st := sLaw) l24 c24 k24
  have m24 := PySem.W.mg_of X G a24
  have n_isinstance := PySem.W.mg_none_of X G z0
  have n_int := PySem.W.mg_none_of X G z1
  have n_bool := PySem.W.mg_none_of X G z2
  have n_enumerate := PySem.W.mg_none_of X G z3
  have n_tuple := PySem.W.mg_none_of X G z4
  have n_len := PySem.W.mg_none_of X G z5
  have n_str := PySem.W.mg_none_of X G z6
  have n_range := PySem.W.mg_none_of X G z7
  have n_all := PySem.W.mg_none_of X G z8
  have n_sorted := PySem.W.mg_none_of X G z9
  have n_zip := PySem.W.mg_none_of X G z10
  have n_abs := PySem.W.mg_none_of X G z11
  have n_divmod := PySem.W.mg_none_of X G z12
  have n_min := PySem.W.mg_none_of X G z13
  have n_list := PySem.W.mg_none_of X G z14
  have n_max := PySem.W.mg_none_of X G z15
  have c_MOST_CELLS := PySem.W.mg_of X G w0
  have b0 := F0.binds (ps := ["value"]) fun _ _ _ _ _ _ us hl => match us, hl with | [_], _ => rfl
  have b1 := F1.binds (ps := ["value", "least", "most"]) fun _ _ _ _ _ _ us hl => match us, hl with | [_, _, _], _ => rfl
  have b2 := F2.binds (ps := ["values", "most"]) fun _ _ _ _ _ _ us hl => match us, hl with | [_, _], _ => rfl
  have b3 := F3.binds (ps := ["rows", "columns"]) fun _ _ _ _ _ _ us hl => match us, hl with | [_, _], _ => rfl
  have b4 := F4.binds (ps := ["size", "table"]) fun _ _ _ _ _ _ us hl => match us, hl with | [_, _], _ => rfl
  have b5 := F5.binds (ps := ["word"]) fun _ _ _ _ _ _ us hl => match us, hl with | [_], _ => rfl
  have b6 := F6.binds (ps := ["columns", "table"]) fun _ _ _ _ _ _ us hl => match us, hl with | [_, _], _ => rfl
  have b7 := F7.binds (ps := ["columns", "table"]) fun _ _ _ _ _ _ us hl => match us, hl with | [_, _], _ => rfl
  have b8 := F8.binds (ps := ["groups"]) fun _ _ _ _ _ _ us hl => match us, hl with | [_], _ => rfl
  have b9 := F9.binds (ps := ["number"]) fun _ _ _ _ _ _ us hl => match us, hl with | [_], _ => rfl
  have b10 := F10.binds (ps := ["line", "following"]) fun _ _ _ _ _ _ us hl => match us, hl with | [_, _], _ => rfl
  have b11 := F11.binds (ps := ["groups"]) fun _ _ _ _ _ _ us hl => match us, hl with | [_], _ => rfl
  have b12 := F12.binds (ps := ["rows", "columns", "table", "word"]) fun _ _ _ _ _ _ us hl => match us, hl with | [_, _, _, _], _ => rfl
  have w12 : KwBinds _ ["rows", "columns", "table", "word"] ["word", "rows", "table", "columns"] kwO kwO := kw_binds F12 (fun _ _ _ _ _ _ ws hl => match ws, hl with | [_, _, _, _], _ => rfl) (fun r => kwO_rel r)
  have b13 := F13.binds (ps := ["_law_script", "_law_k"]) fun _ _ _ _ _ _ us hl => match us, hl with | [_, _], _ => rfl
  have b14 := F14.binds (ps := ["_law_item"]) fun _ _ _ _ _ _ us hl => match us, hl with | [_], _ => rfl
  have b15 := F15.binds (ps := ["_law_pool_here", "_law_most"]) fun _ _ _ _ _ _ us hl => match us, hl with | [_, _], _ => rfl
  have b16 := F16.binds (ps := ["_law_pool_here", "_law_most"]) fun _ _ _ _ _ _ us hl => match us, hl with | [_, _], _ => rfl
  have b17 := F17.binds (ps := ["_law_size"]) fun _ _ _ _ _ _ us hl => match us, hl with | [_], _ => rfl
  have b18 := F18.binds (ps := ["_law_high", "_law_wide", "_law_sort"]) fun _ _ _ _ _ _ us hl => match us, hl with | [_, _, _], _ => rfl
  have b19 := F19.binds (ps := ["_law_high", "_law_wide", "_law_some", "_law_sort"]) fun _ _ _ _ _ _ us hl => match us, hl with | [_, _, _, _], _ => rfl
  have b20 := F20.binds (ps := ["_law_high", "_law_wide", "_law_some", "_law_letters"]) fun _ _ _ _ _ _ us hl => match us, hl with | [_, _, _, _], _ => rfl
  have b21 := F21.binds (ps := ["_law_result", "_law_due"]) fun _ _ _ _ _ _ us hl => match us, hl with | [_, _], _ => rfl
  have b22 := F22.binds (ps := ["_law_pool_here"]) fun _ _ _ _ _ _ us hl => match us, hl with | [_], _ => rfl
  have b23 := F23.binds (ps := []) fun _ _ _ _ _ _ us hl => match us, hl with | [], _ => rfl
  refine ⟨PySem.W.fnOf "law" "law" (defArgs sLaw) (defBody sLaw) (defScope sLaw) .none kV24 dc24 pm24 an24 cd24 ct24, fun s v => .of_eq rfl, fun base _ _ => ?_⟩
  have G0 := ok_whole (P := l.prog) (w := w) (mg := mg) (base := base) F0 n_isinstance n_int n_bool
  have G1 := ok_between (P := l.prog) (w := w) (mg := mg) (base := base) F1 G0 b0 m0 k0
  have G2 := ok_ff (P := l.prog) (w := w) (mg := mg) (base := base) F2 G1 b1 m1 k1 n_enumerate
  have G3 := ok_rcOk (P := l.prog) (w := w) (mg := mg) (base := base) F3 G1 b1 m1 k1 c_MOST_CELLS
  have G4 := ok_tabOk (P := l.prog) (w := w) (mg := mg) (base := base) F4 G2 b2 m2 k2 n_isinstance n_tuple n_len
  have G5 := ok_shortW (P := l.prog) (w := w) (mg := mg) (base := base) F5 n_isinstance n_str
  have G6 := ok_rowT (P := l.prog) (w := w) (mg := mg) (base := base) F6 n_range n_len
  have G7 := ok_colT (P := l.prog) (w := w) (mg := mg) (base := base) F7 n_range
  have G8 := ok_allA (P := l.prog) (w := w) (mg := mg) (base := base) F8 n_all n_tuple n_sorted
  have G9 := ok_fact (P := l.prog) (w := w) (mg := mg) (base := base) F9 n_range
  have G10 := ok_pairg (P := l.prog) (w := w) (mg := mg) (base := base) F10 n_enumerate n_len
  have G11 := ok_shuf (P := l.prog) (w := w) (mg := mg) (base := base) F11 G9 b9 m9 k9 G10 b10 m10 k10 n_len n_zip
  have G12 := ok_orig (P := l.prog) (w := w) (mg := mg) (base := base) F12 G3 b3 m3 k3 G4 b4 m4 k4 G5 b5 m5 k5 G6 b6 m6 k6 G7 b7 m7 k7 G11 b11 m11 k11 G9 b9 m9 k9 G8 b8 m8 k8 n_len
  have G13 := ok_cell (P := l.prog) (w := w) (mg := mg) (base := base) F13 n_len
  have G14 := ok_pool (P := l.prog) (w := w) (mg := mg) (base := base) F14 n_abs
  have G15 := ok_draw (P := l.prog) (w := w) (mg := mg) (base := base) F15 n_divmod
  have G16 := ok_sides (P := l.prog) (w := w) (mg := mg) (base := base) F16 G15 b15 m15 k15 n_min
  have G17 := ok_ordersE (P := l.prog) (w := w) (mg := mg) (base := base) F17 n_range n_len
  have G18 := ok_strips51 (P := l.prog) (w := w) (mg := mg) (base := base) F18 n_range n_list
  have G19 := ok_sorted51 (P := l.prog) (w := w) (mg := mg) (base := base) F19 G18 b18 m18 k18 n_list n_zip n_sorted n_tuple
  have G20 := ok_afterE (P := l.prog) (w := w) (mg := mg) (base := base) F20 G19 b19 m19 k19
  have G21 := ok_is (P := l.prog) (w := w) (mg := mg) (base := base) F21 n_isinstance n_int n_bool
  have G22 := ok_right50 (P := l.prog) (w := w) (mg := mg) (base := base) F22 G15 b15 m15 k15 G16 b16 m16 k16 G17 b17 m17 k17 G20 b20 m20 k20 G21 b21 m21 k21 G12 b12 w12 m12 k12 n_len
  have G23 := ok_turns50 (P := l.prog) (w := w) (mg := mg) (base := base) F23 G17 b17 m17 k17 G20 b20 m20 k20 G12 b12 m12 k12
  exact ok_law50 F24 G13 b13 m13 k13 G14 b14 m14 k14 G22 b22 m22 k22 G23 b23 m23 k23 G12 b12 m12 k12 n_all n_range n_max n_min n_len
end KS
open PySem PySem.W PyProof.Rows
set_option maxHeartbeats 0 in
theorem PySem.Challenge.cw_keepsort_k50_origins_by_all_tables_holds : PySem.Challenge.rw_keepsort_k50_origins_by_all_tables.Holds := by
  w_on; o_law; k_head; (case hw => w_witness2)
  k_fill
  refine KS.walk_ofG (l := PySem.Challenge.rw_keepsort_k50_origins_by_all_tables) (n := 63) (k := 8) (x := "_law_script") (sp := fun w => KS.spLaw _) rfl (by decide) rfl ⟨rfl, by decide, by decide⟩ (fun w h Y => PySem.W.kIn_of Y) ?F (fun _ _ a ns hl _ hS => ⟨a, ns, rfl, hS, hl, fun _ => rfl⟩)
  case F =>
    intro w mg fa h KX G hmg
    refine' KS.all_mk KX G hmg ?a0 ?l0 ?c0 ?k0 ?a1 ?l1 ?c1 ?k1 ?a2 ?l2 ?c2 ?k2 ?a3 ?l3 ?c3 ?k3 ?a4 ?l4 ?c4 ?k4 ?a5 ?l5 ?c5 ?k5 ?a6 ?l6 ?c6 ?k6 ?a7 ?l7 ?c7 ?k7 ?a8 ?l8 ?c8 ?k8 ?a9 ?l9 ?c9 ?k9 ?a10 ?l10 ?c10 ?k10 ?a11 ?l11 ?c11 ?k11 ?a12 ?l12 ?c12 ?k12 ?a13 ?l13 ?c13 ?k13 ?a14 ?l14 ?c14 ?k14 ?a15 ?l15 ?c15 ?k15 ?a16 ?l16 ?c16 ?k16 ?a17 ?l17 ?c17 ?k17 ?a18 ?l18 ?c18 ?k18 ?a19 ?l19 ?c19 ?k19 ?a20 ?l20 ?c20 ?k20 ?a21 ?l21 ?c21 ?k21 ?a22 ?l22 ?c22 ?k22 ?a23 ?l23 ?c23 ?k23 ?a24 ?l24 ?c24 ?k24 ?z0 ?z1 ?z2 ?z3 ?z4 ?z5 ?z6 ?z7 ?z8 ?z9 ?z10 ?z11 ?z12 ?z13 ?z14 ?z15 ?w0
    (case a0 => k_is)
    (case l0 => k_is)
    (case c0 => k_is)
    (case k0 => k_is)
    (case a1 => k_is)
    (case l1 => k_is)
    (case c1 => k_is)
    (case k1 => k_is)
    (case a2 => k_is)
    (case l2 => k_is)
    (case c2 => k_is)
    (case k2 => k_is)
    (case a3 => k_is)
    (case l3 => k_is)
    (case c3 => k_is)
    (case k3 => k_is)
    (case a4 => k_is)
    (case l4 => k_is)
    (case c4 => k_is)
    (case k4 => k_is)
    (case a5 => k_is)
    (case l5 => k_is)
    (case c5 => k_is)
    (case k5 => k_is)
    (case a6 => k_is)
    (case l6 => k_is)
    (case c6 => k_is)
    (case k6 => k_is)
    (case a7 => k_is)
    (case l7 => k_is)
    (case c7 => k_is)
    (case k7 => k_is)
    (case a8 => k_is)
    (case l8 => k_is)
    (case c8 => k_is)
    (case k8 => k_is)
    (case a9 => k_is)
    (case l9 => k_is)
    (case c9 => k_is)
    (case k9 => k_is)
    (case a10 => k_is)
    (case l10 => k_is)
    (case c10 => k_is)
    (case k10 => k_is)
    (case a11 => k_is)
    (case l11 => k_is)
    (case c11 => k_is)
    (case k11 => k_is)
    (case a12 => k_is)
    (case l12 => k_is)
    (case c12 => k_is)
    (case k12 => k_is)
    (case a13 => k_is)
    (case l13 => k_is)
    (case c13 => k_is)
    (case k13 => k_is)
    (case a14 => k_is)
    (case l14 => k_is)
    (case c14 => k_is)
    (case k14 => k_is)
    (case a15 => k_is)
    (case l15 => k_is)
    (case c15 => k_is)
    (case k15 => k_is)
    (case a16 => k_is)
    (case l16 => k_is)
    (case c16 => k_is)
    (case k16 => k_is)
    (case a17 => k_is)
    (case l17 => k_is)
    (case c17 => k_is)
    (case k17 => k_is)
    (case a18 => k_is)
    (case l18 => k_is)
    (case c18 => k_is)
    (case k18 => k_is)
    (case a19 => k_is)
    (case l19 => k_is)
    (case c19 => k_is)
    (case k19 => k_is)
    (case a20 => k_is)
    (case l20 => k_is)
    (case c20 => k_is)
    (case k20 => k_is)
    (case a21 => k_is)
    (case l21 => k_is)
    (case c21 => k_is)
    (case k21 => k_is)
    (case a22 => k_is)
    (case l22 => k_is)
    (case c22 => k_is)
    (case k22 => k_is)
    (case a23 => k_is)
    (case l23 => k_is)
    (case c23 => k_is)
    (case k23 => k_is)
    (case a24 => k_is)
    (case l24 => k_is)
    (case c24 => k_is)
    (case k24 => k_is)
    (case z0 => k_is)
    (case z1 => k_is)
    (case z2 => k_is)
    (case z3 => k_is)
    (case z4 => k_is)
    (case z5 => k_is)
    (case z6 => k_is)
    (case z7 => k_is)
    (case z8 => k_is)
    (case z9 => k_is)
    (case z10 => k_is)
    (case z11 => k_is)
    (case z12 => k_is)
    (case z13 => k_is)
    (case z14 => k_is)
    (case z15 => k_is)
    (case w0 => k_is)
