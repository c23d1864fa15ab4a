import PyProof.Rows.All
import Wide.All
import OpenK.AllK
import Wide.FinOn
import HandS.ForMost
import HandS.Style
import HandS.Flow
import KE.GoesMore
import KE.GoesEnum
import KE.KTupSum
import PyProof.ReprRoads
import PyProof.ReprLen
import HandS.IsInst
import HandS.TupLe
import HandS.SetKeys
import HandS.SortRule
import HandS.More
import HandS.SortInts
import HandS.Zip
import HandS.Iter
import HandS.Text
import HandS.Walk
import KE.IntBitsLaws
import PyProof.Rows.StrCountLaw
import PyProof.Rows.RegReprOcc
import HandS.Conv
import HandS.TupAny
import PyProof.P3In
import HandS.Deep
import PyProof.StrOps2
import PyProof.Rows.ReprOcc
import HandS.StrMore
import KE.GoesZip
import HandS.DictComp
import KE.KDictZip
import PyProof.TupleOfSeq
import HandS.SortKw
import KE.DataMinMax
import KE.SortData
import PyProof.CallFns
import HandS.ForExc
import HandS.FStr
import HandS.RaiseMore
import HandS.TupMul
import PySem.Challenge.RW_keepsort_k25_table_texts
set_option Elab.async false
set_option linter.all false
set_option maxRecDepth 100000
set_option maxHeartbeats 4000000
namespace KS
open PySem PySem.Spec PyProof.Rows L2
/-- three whole numbers: the state, the digits left, how many draws -/
def PoolO (o : Option HO) : Prop := ∃ a b c : Int, o = some (.lst [.int a, .int b, .int c]) ∧ 0 ≤ a ∧ a < 2147483249 ∧ 0 ≤ b
/-- what stood, but at p, stands -/
def KeepX (p : Addr) (H H' : Hp) : Prop := ∀ b o, b ≠ p → H b = some o → H' b = some o
theorem KeepX.refl (p : Addr) (H : Hp) : KeepX p H H := fun _ _ _ e => e
theorem KeepX.trans {p : Addr} {H H1 H2 : Hp} (a : KeepX p H H1) (b : KeepX p H1 H2) : KeepX p H H2 := fun c o n e => b c o n (a c o n e)
theorem KeepX.of_same {p : Addr} {H H1 : Hp} (a : Same H H1) : KeepX p H H1 := fun c o _ e => a c o e
theorem same_new {H : Hp} {p : Addr} {o : HO} (h : H p = none) : Same H (upd H p o) := fun b x e => by
  rw [upd_ne (ne_of_none e h)]
  exact e
theorem keepX_upd {H : Hp} {p : Addr} {o : HO} : KeepX p H (upd H p o) := fun b x n e => by
  rw [upd_ne n]
  exact e
theorem PoolO.same {H H' : Hp} {p : Addr} (s : Same H H') (h : PoolO (H p)) : PoolO (H' p) := by
  obtain ⟨a, b, c, e, r⟩ := h
  exact ⟨a, b, c, s _ _ e, r⟩
theorem PoolO.ne {H : Hp} {p q : Addr} (h : PoolO (H p)) (n : H q = none) : p ≠ q := by
  obtain ⟨a, b, c, e, r⟩ := h
  exact ne_of_none e n
theorem same_seqT {K : PySem.W.Frag} {H H' : Hp} {a : Addr} {xs : List V} (e : Same H H') (h : SqT K H a xs) : SqT K H' a xs := by
  rcases h with (h | ⟨o, h⟩) | h
  · exact .inl (.inl (e _ _ h))
  · exact .inl (.inr ⟨o, e _ _ h⟩)
  · exact .inr h
theorem keepX_seqT {K : PySem.W.Frag} {H H' : Hp} {a p : Addr} {xs : List V} (hp : PoolO (H p)) (e : KeepX p H H') (h : SqT K H a xs) : SqT K H' a xs := by
  obtain ⟨x, y, z, ep, _⟩ := hp
  rcases h with (h | ⟨o, h⟩) | h
  · exact .inl (.inl (e _ _ (fun q => by rw [q, ep] at h; cases h) h))
  · exact .inl (.inr ⟨o, e _ _ (fun q => by rw [q, ep] at h; cases h) h⟩)
  · exact .inr h
theorem int_mod_bd (x : Int) {m : Int} (h : 0 < m) : 0 ≤ x % m ∧ x % m < m := ⟨Int.emod_nonneg x (by omega), Int.emod_lt_of_pos x h⟩
def spCell (K : PySem.W.Frag) : Sp := fun vs H Q _ => ∃ (a : Addr) (ns : List Int) (k : Nat), vs = [.ref a, .int k] ∧ SqL K H a (ns.map V.int) ∧ k ≤ 63 ∧ ∀ H' n, Same H H' → Q (.int n) H'
def spPool : Sp := fun vs H Q _ => ∃ (n : Int), vs = [.int n] ∧ ∀ H' p, Same H H' → H p = none → PoolO (H' p) → Q (.ref p) H'
def spDraw : Sp := fun vs H Q _ => ∃ (p : Addr) (m : Int), vs = [.ref p, .int m] ∧ PoolO (H p) ∧ 0 < m ∧ m < 1073741824 ∧ ∀ H' r, KeepX p H H' → PoolO (H' p) → 0 ≤ r → r < m → Q (.int r) H'
end KS
namespace KS
open PySem PySem.Spec PyProof.Rows L2
open Sem (wp)
open AutoSeq1 (wpAny_loadPart')
/-! ### sum(t), t a tuple of whole numbers -/
def rSumT (K : PySem.W.Frag) : List V → Hp → VK → Prop := fun vs H Q => ∃ (a : Addr) (ns : List Int), vs = [V.ref a] ∧ SqT K H a (ns.map V.int) ∧ Q (.int ns.sum) H
theorem cr_sumT {X : Cx} (hc : X.calm = true) : CallR X (.builtin "sum") (rSumT X.K) := by
  intro pins s σ H vs us Q I r h
  obtain ⟨a, ns, rfl, hs, q⟩ := h
  obtain ⟨its, rv, hl, _⟩ := I.tuple hs
  rw [Vals.ref1 r]
  have hi := rv.ints
  obtain ⟨xs, e⟩ := hi.allInts.items
  have hn : numsOf (intItems xs).toList = ns := by
    rw [← e]
    exact hi.numsOf
  rw [nums_intItems] at hn
  have hl2 : s.heap.IsTuple a (intItems xs) := by
    rw [← e]
    exact hl
  refine PySem.W.ktm_sumG (I.ok.hd hc) hl2 fun h' tk t' hk => ⟨.int ns.sum, H, I.kept hk, ⟨t', ?_⟩, q⟩
  rw [preSum_eq, List.take_of_length_le (by simp), hn]
/-- tuple(x), x a list or a tuple -/
def rTupOf (K : PySem.W.Frag) : List V → Hp → VK → Prop := fun xs H Q => ∃ p ys, xs = [.ref p] ∧ ((SqL K H p ys ∧ ∀ l, H l = none → Q (.ref l) (upd H l (.tup ys))) ∨ (SqT K H p ys ∧ Q (.ref p) H))
theorem cr_tupOf {X : Cx} : CallR X (.type "tuple") (rTupOf X.K) := call_tuple_of
/-! ### enumerate(t), t a tuple -/
abbrev tupItO (l : Addr) : Obj := { cls := .type "tuple_iterator", data := .fields #[.ref l, .int 0 0] }
abbrev enumO (it : Addr) : Obj := { cls := .type "enumerate", data := .fields #[.none, .bool false, .ref it, rawInt 0, .none, .none] }
theorem meets_enumT (l : Addr) (items : Array Value) (n : Nat) (dct : Option Addr) (sl : Array (Option Value)) :
    Meets (Builtin.«enumerate.__new__» ⟨[.type "enumerate", .ref l], []⟩) (fun _ R s =>
      s.heap.get? l = some { cls := .type "tuple", dict := dct, data := .seq items n, slots := sl } ∧
      R (.ok (.ret (.ref (s.heap.push (tupItO l)).objs.size))) { s with heap := (s.heap.push (tupItO l)).push (enumO s.heap.objs.size) }) :=
  .of_wp fun prog w A R s h => by
    obtain ⟨hp, g, d, tk, os⟩ := s
    obtain ⟨hl, h⟩ := h
    have hsub := sub_enumerate
    have hT : Heap.IsTuple (Shared.heap ⟨hp, g, d, tk, os⟩) l items := ⟨_, hl, rfl, n, rfl⟩
    wp_walk using wpAny_loadPart' hl
    refine wpAny_stack_any fun st => wpAny_pure ?_
    split
    · rename_i c _ _ _ _ _
      cases (c == Value.type "enumerate")
      · wp_walk using wpAny_loadPart' hl, wpAny_pyIter_tuple hT
        exact ⟨_, rfl, h⟩
      · wp_walk using wpAny_loadPart' hl, wpAny_pyIter_tuple hT
        exact ⟨_, rfl, h⟩
    · wp_walk using wpAny_loadPart' hl, wpAny_pyIter_tuple hT
      exact ⟨_, rfl, h⟩
theorem call_enumT {prog : Program} {w : World} {A : Around} {E : Value → Shared → Prop} {s : Shared} {l : Addr} {items : Array Value} {Q : Value → Shared → Prop} (hL : s.heap.IsTuple l items)
    (h : ∀ h', IsEnum h' (s.heap.objs.size + 1) s.heap.objs.size 0 .none → h'.IsTupleIter s.heap.objs.size l 0 →
      (∀ b o, s.heap.get? b = some o → h'.get? b = some o) → Q (.ref (s.heap.objs.size + 1)) { s with heap := h' }) :
    wpAny (model prog w) A (call (.type "enumerate") [.ref l]) Q E s := by
  obtain ⟨⟨c, dct, dt, sl⟩, hl, hc, n, hd⟩ := hL
  replace hc : c = .type "tuple" := hc
  replace hd : dt = .seq items n := hd
  subst hc
  subst hd
  refine callType_new F.called_enumerate (by decide) (F.typeCall_enumerate_1 _) (F.newCall_enumerate_1 _)
    (fun obj => F.args_object_init_2 obj _) F.entry_enumerate_new (meets_enumT l items n dct sl) ⟨hl, ?_⟩
  generalize hg1 : s.heap.push (tupItO l) = g1
  have hz : g1.objs.size = s.heap.objs.size + 1 := by
    rw [← hg1]
    exact Heap.size_push ..
  have hit : g1.get? s.heap.objs.size = some (tupItO l) := by
    rw [← hg1]
    exact Heap.get?_push_size _ rfl
  have hold : ∀ b o, s.heap.get? b = some o → g1.get? b = some o := fun b o e => by
    rw [← hg1]
    exact Heap.get?_push_of_some _ e
  show _ ∧ _
  rw [hz]
  have he : IsEnum (g1.push (enumO s.heap.objs.size))
      (s.heap.objs.size + 1) s.heap.objs.size 0 .none := by
    have z := Heap.get?_push_size g1 (o := enumO s.heap.objs.size) rfl
    rw [hz] at z
    exact z
  exact ⟨⟨_, he, rfl⟩, h _ he ⟨tupItO l, Heap.get?_push_of_some _ hit, rfl, rfl⟩ fun b o x => Heap.get?_push_of_some _ (hold b o x)⟩
/-- the pairs (i, item i) of the tuple at a, each a new tuple -/
def IteT (K : PySem.W.Frag) (a : Addr) : It :=
  ⟨fun i H => ∃ (xs : List V) (x : V), SqT K H a xs ∧ xs[i]? = some x,
   fun i H v H' => ∃ T x, v = .ref T ∧ H T = none ∧ H' = upd H T (.tup [.int (i : Nat), x]) ∧ ∀ xs, SqT K H a xs → xs[i]? = some x,
   fun i H => ∃ xs : List V, SqT K H a xs ∧ xs.length ≤ i⟩
theorem turn_enumT {P : Program} {w : World} {K : PySem.W.Frag} {elts : List Expr} {kk : Nat} {tpos : Pos} (a e it : Addr) :
    Turn P w K (.Tuple elts kk tpos) (IteT K a) [e, it] e
      (fun i h => (∃ old, IsEnum h e it ((i : Nat) : Int) old) ∧ h.IsTupleIter it a i ∧ e ≠ it) where
  mem := by simp
  obj := fun i h st b hb => by
    obtain ⟨⟨old, he⟩, ⟨o, ho, hc, hd⟩, _⟩ := st
    rcases (by simpa using hb : b = e ∨ b = it) with z | z
    · subst z
      exact ⟨_, he, fun v q => nomatch q⟩
    · subst z
      exact ⟨o, ho, fun v q => by rw [hd] at q; cases q⟩
  keep := fun i h h' st k => by
    obtain ⟨⟨old, he⟩, hi, hne⟩ := st
    exact ⟨⟨old, k e (by simp) _ he⟩, hi.at fun o q => k it (by simp) o q, hne⟩
  item := by
    intro X hP hw hK hc i pins s σ H E I hf st hg
    subst hP hw hK
    obtain ⟨⟨old, he⟩, hit, hne⟩ := st
    obtain ⟨xs, x, hq, hx⟩ := hg
    obtain ⟨its, rv, p, hz⟩ := I.tuple hq
    have p1 : s.heap.IsTuple a its.toArray := p
    obtain ⟨u0, hu0, ru0⟩ := rv.get hx
    have hel : e < s.heap.objs.size := Heap.lt_size he
    have hil : it < s.heap.objs.size := by
      obtain ⟨_, q, _⟩ := hit
      exact Heap.lt_size q
    have hai : a ≠ it := fun z => by
      obtain ⟨o1, g1, c1, _⟩ := p1
      obtain ⟨o2, g2, c2, _⟩ := hit
      rw [z, g2] at g1
      cases g1
      rw [c1] at c2
      injection c2 with c3
      exact absurd c3 (by decide)
    have hea : e ≠ a := fun z => by
      obtain ⟨o1, g1, c1, _⟩ := p1
      have g2 : s.heap.get? e = some _ := he
      rw [z, g1] at g2
      cases g2
      have c2 : Value.type "enumerate" = Value.type "tuple" := c1
      injection c2 with c3
      exact absurd c3 (by decide)
    have hlt : i < its.toArray.size := by
      have z : i < its.length := (List.getElem?_eq_some_iff.mp hu0).1
      simpa using z
    have DD : Draws X.prog X.w X.A.in1 it [it, a] its.toArray.size (fun i v => its.toArray[i]? = some v) (fun i h => h.IsTupleIter it a i ∧ h.IsTuple a its.toArray) :=
      Draws.tuple (show X.A.in1.handled = none from I.ok.hd hc) it a hai its.toArray
    refine wpAny_pyNext_enum_itemD DD he ⟨hit, p1⟩ hlt hne (by simp [hne, hea]) fun u h' tk hu ho hst hT hsz hk => ?_
    have eu : u = u0 := by
      have z : its[i]? = some u := by simpa using hu
      rw [hu0] at z
      exact (Option.some.inj z).symm
    subst eu
    refine ⟨_, rfl, wpAny_letOwnedTupleGo_enum (s := { s with heap := h', toks := tk + 1 }) ho fun h'' he' sb => ?_⟩
    have hT2 : h''.get? s.heap.objs.size = some { cls := .type "tuple", data := .seq #[.int i tk, u] } := (sb.2 _ (Nat.ne_of_gt hel)).trans hT
    have new : ObjOk X.prog X.w (upd H s.heap.objs.size (.tup [.int (i : Nat), x])) h'' s.heap.objs.size (.tup [.int (i : Nat), x]) :=
      ⟨by show 2 ≤ sizeLine; decide, [.int i tk, u], .cons ⟨_, rfl⟩ (.cons ru0 .nil), ⟨_, hT2, rfl, _, rfl⟩⟩
    have I1 : Inv X pins σ (upd H s.heap.objs.size (.tup [.int (i : Nat), x])) { s with heap := h'', toks := tk + 1 } :=
      I.turnedNew (ch := [e, it]) (fun b ob hb q => (sb.2 b (fun z => hb (by simp [z]))).trans
        (hk b ob (fun z => hb (by simp [z])) (fun z => hb (by simp [z])) q)) hf (Nat.le_refl _) new
    refine ⟨.ref s.heap.objs.size, _, I1, rfl, ⟨_, x, rfl, I.hok.fresh (Nat.le_refl _), rfl, fun ys hy => ?_⟩,
      ⟨⟨u, ?_⟩, hst.1.at fun o q => (sb.2 it (Ne.symm hne)).trans q, hne⟩, fun b hb => ?_⟩
    · rw [I.tuple_inj hy hq]
      exact hx
    · have e1 : ((i + 1 : Nat) : Int) = (i : Int) + 1 := by omega
      rw [e1]
      exact he'
    · have hb' : b < s.heap.objs.size := by
        rcases (by simpa using hb : b = e ∨ b = it) with z | z
        · rw [z]
          exact hel
        · rw [z]
          exact hil
      rw [upd_ne (Nat.ne_of_lt hb')]
      exact (hf b hb).1
  done := by
    intro X hP hw hK hc i pins s σ H E I hf st hg
    subst hP hw hK
    obtain ⟨⟨old, he⟩, hit, hne⟩ := st
    obtain ⟨xs, hq, hx⟩ := hg
    obtain ⟨its, rv, p, hz⟩ := I.tuple hq
    have p1 : s.heap.IsTuple a its.toArray := p
    obtain ⟨f0, f1, f2, f3, f4, f5⟩ := hf it (by simp)
    have hl := rv.length
    have DD : Draws X.prog X.w X.A.in1 it [it, a] i (fun _ _ => True) (fun j h => j = i ∧ h.IsTupleIter it a i ∧ h.IsTuple a its.toArray) :=
      { live := fun _ _ st => let ⟨o, ho, _⟩ := st.2.1; ⟨o, ho⟩
        frame := fun _ _ _ st hk => ⟨st.1, st.2.1.at fun o e => hk it (by simp) o e, st.2.2.at fun o e => hk a (by simp) o e⟩
        item := fun j s Q E hj st hQ => absurd st.1 (by omega)
        done := fun s Q E st hE => wpAny_nextOf_tuple_end (show X.A.in1.handled = none from I.ok.hd hc) st.2.1 st.2.2 (by simp; omega) hE }
    exact wpAny_pyNext_enum_endD DD he ⟨rfl, hit, p1⟩ fun h' eb => ⟨rfl, I.turned (t' := s.toks) (fun b o hb q => eb b o hb q) f0 f1 f3 f4 f5⟩
  self := fun A i s Q E st h => by
    obtain ⟨⟨_, he⟩, _⟩ := st
    exact wpAny_pyIter_enum he h
def iEnumT (K : PySem.W.Frag) (ta : TA) : TI := fun σ H R => ta σ H fun vs H1 => ∃ a xs, vs = [.ref a] ∧ SqT K H1 a xs ∧ R (IteT K a) H1
theorem pi_enumT {X : Cx} {e : Expr} {ta : TA} {p pos tpos : Pos} {elts : List Expr} {kk : Nat} (hg : Gl X "enumerate") (hm : X.mg "enumerate" = none) (ha : PA X [e] ta)
    (hs : starEach [e] X.env = [(false, eval e X.env)] := by rfl) : PI X (.Tuple elts kk tpos) (.Call (.Name "enumerate" p) [e] [] pos) (iEnumT X.K ta) := by
  refine ⟨fun pins s σ H R I h => ?_⟩
  refine Call_ (ld_blt I hg hm boot_enumerate (PyProof.Rows.callWith_type1 (thn (ha.run pos pins s σ H _ I h) fun us s1 hh => ?_) hs rfl))
  obtain ⟨vs, H1, I1, r1, a, xs, ex, hq, q⟩ := hh
  subst ex
  cases r1 with
  | cons r rr =>
    cases rr
    cases r
    obtain ⟨its, rv, p1, hz⟩ := I1.tuple hq
    refine call_enumT (items := its.toArray) p1 fun h' he hit hk => wpAny_pyIter_enum he ?_
    have I2 : Inv X pins σ H1 { s1 with heap := h' } := I1.kept (t' := s1.toks) hk
    refine ⟨s1.heap.objs.size + 1, [s1.heap.objs.size + 1, s1.heap.objs.size], _, _, H1, rfl, I2, turn_enumT a (s1.heap.objs.size + 1) s1.heap.objs.size,
      ⟨⟨.none, he⟩, hit, Nat.succ_ne_self _⟩, fun b hb => ?_, q⟩
    have hle : s1.heap.objs.size ≤ b := by
      rcases (by simpa using hb : b = s1.heap.objs.size + 1 ∨ b = s1.heap.objs.size) with z | z
      · rw [z]
        exact Nat.le_succ _
      · rw [z]
        exact Nat.le_refl _
    exact I1.fpOk hle (I1.hok.fresh hle)
/-- a for over enumerate(t): Pv at each turn; the pair stands in a new tuple at T -/
theorem for_enumT {K : PySem.W.Frag} {a : Addr} {xs : List V} {g : TG} {tb : TS} {D : Ends} {σ : L2.St} {H : Hp} (Pv : Nat → L2.St → Hp → Prop) (h0 : Pv 0 σ H)
    (hl : ∀ i σ H, i ≤ xs.length → Pv i σ H → SqT K H a xs)
    (hs : ∀ i x σ H T, xs[i]? = some x → Pv i σ H → H T = none → g (.ref T) σ (upd H T (.tup [.int (i : Nat), x])) fun σ2 H2 => tb { D with nx := Pv (i + 1), ct := Pv (i + 1), bk := D.nx } σ2 H2)
    (hd : ∀ σ H, Pv xs.length σ H → D.nx σ H) :
    ∃ W : Nat → Nat → L2.St → Hp → Prop, (∃ m, W 0 m σ H) ∧ ∀ i m σ H, W i m σ H →
      ((IteT K a).stop i H ∧ D.nx σ H) ∨ ((IteT K a).go i H ∧ ∃ N : L2.St → Hp → Prop, (∀ σ' H', N σ' H' → ∃ m', m' < m ∧ W (i + 1) m' σ' H') ∧
        ∀ x H', (IteT K a).yld i H x H' → g x σ H' fun σ2 H2 => tb { D with nx := N, ct := N, bk := D.nx } σ2 H2) := by
  refine ⟨fun i m σ H => m = xs.length - i ∧ i ≤ xs.length ∧ Pv i σ H, ⟨xs.length, by simp, Nat.zero_le _, h0⟩, ?_⟩
  rintro i m σ H ⟨rfl, hi, p⟩
  have q := hl i σ H hi p
  by_cases hlt : i < xs.length
  · refine .inr ⟨⟨xs, xs[i], q, by simp [hlt]⟩, Pv (i + 1), fun σ' H' p' => ⟨xs.length - (i + 1), by omega, rfl, hlt, p'⟩, fun x H' y => ?_⟩
    obtain ⟨T, x1, rfl, nT, rfl, hx⟩ := y
    exact hs i x1 σ H T (hx _ q) p nT
  · have e : i = xs.length := by omega
    subst e
    exact .inl ⟨⟨xs, q, Nat.le_refl _⟩, hd σ H p⟩
end KS
namespace KS
open PySem PySem.Spec PyProof.Rows L2
/-! ### promises of defs that are only called where no repr is under way -/
structure FnG (P : Program) (w : World) (K : PySem.W.Frag) (mg : Str → Option Value) (base : Heap) (k : Nat) (f : Addr) (fd : FuncData) (ps : List Str) (sp : Sp) : Prop where
  len : ∀ vs H Q E, sp vs H Q E → vs.length = ps.length
  run : ∀ (A : Around) (outer : List Env) (s : Shared) (H : Hp) (args : Args) (us : List Value) (vs : List V) (Q : VK) (E : XK),
    Room k A → A.guards = some [] → Env0 P w K mg base A outer s H → BindsTo s fd args (ps.zip us) → Vals vs us → sp vs H Q E →
    codeAny (model P w) A (.call (.ref f) args) (CR CX0 outer P w H s Q E) s
section
variable {P : Program} {w : World} {K : PySem.W.Frag} {mg : Str → Option Value} {base : Heap}
theorem okG {x qual : Str} {st : Stmt} {f : Addr} {fd : FuncData} {N ps : List Str} {k : Nat} {sp : Sp} (F : Fun K x qual st f fd) (S : FnScope N ps (defScope st))
    (len : ∀ vs H Q E, sp vs H Q E → vs.length = ps.length)
    (hbody : ∀ (cdv : Value) (A : Around) (outer : List Env) (s : Shared) (H : Hp) (vs : List V) (Q : VK) (E : XK),
      Room k (A.deeper (envOfC qual (defScope st) s.heap.objs.size f cdv)) → A.guards = some [] → sp vs H Q E →
      ∃ t, PSs (cxOf CX0 P w K mg base N qual (defScope st) f cdv A outer s H E).nox (defBody st) t ∧ t { nx := fun _ H' => Q .non H', rt := Q } (start N vs) H) :
    FnG P w K mg base (k + 1) f fd ps sp := by
  obtain ⟨oc, od, kV, doc, pm, an, cdv, ct, osl, rfl, lk, hcd⟩ := F.ex
  refine ⟨len, fun A outer s H args us vs Q E hr hgd e0 hb r hsp => ?_⟩
  have hl := len _ _ _ _ hsp
  have kept : ∀ b o, base.get? b = some o → s.heap.get? b = some o := fun b o e => (e0.bs b o e).1
  have KX : K.In s.heap := e0.mod.kin.keeps kept
  have lim : s.heap.NoLimit := e0.mod.nolimit.keeps kept
  have hkind : ∀ y ∈ ps.zip us, (defScope st).names.lookup y.1 = some .local ∨
      ((defScope st).names.lookup y.1 = some .cell ∧ ((cellsFrom (s.heap.objs.size + 1) (defScope st).names []).lookup y.1).isSome = true) := by
    rintro ⟨n, v⟩ hy
    rcases S.par n (List.of_mem_zip hy).1 with q | q
    · left
      exact q
    · right
      exact ⟨q, PySem.W.cellsFrom_some _ _ _ (.inl q)⟩
  refine codeAny_call_function hr.depth (KX _ _ lk) rfl S.co S.gen rfl
    (PySem.W.codeRec_of KX hcd) (hb _ _ _ _ ?_)
  refine wpAny_newFunctionEnv_cells S.kind hkind fun env he s1 x => ?_
  subst he
  refine ⟨lim.keeps x.toInCall.keep, codeAny_func ?_⟩
  obtain ⟨t, ht0, hq⟩ := hbody cdv A outer s H vs Q E (hr.deeper _) hgd hsp
  have ht := ht0.nox
  have I := inv_start (CX := CX0) (E := E) (cd := cdv) (qual := qual) (f := f) S hr.hd e0 hl r x
  refine wpAny_mono (ht.run [] s1 (start N vs) H _ I hq) (fun fl s' hs => ?_)
    fun e s' hs => hs
  cases fl with
  | ret u =>
    obtain ⟨v, σ', H', J, rv, q⟩ := hs
    exact ⟨v, H', J.os, J.bare, J.base, J.hok, rv, q⟩
  | next =>
    obtain ⟨σ', H', J, q⟩ := hs
    exact ⟨V.non, H', J.os, J.bare, J.base, J.hok, rfl, q⟩
  | brk =>
    obtain ⟨_, _, _, q⟩ := hs
    cases q
  | cont =>
    obtain ⟨_, _, _, q⟩ := hs
    cases q
end
section
variable {X : Cx} {k : Nat} {f : Addr} {fd : FuncData} {ps : List Str} {sp : Sp} {x : Str} {p pos : Pos} {e : Expr} {es : List Expr} {t : TA}
theorem pe_callG (F : FnG X.prog X.w X.K X.mg X.base k f fd ps sp) (hr : Room k X.A) (hgd : X.A.guards = some []) (hg : Gl X x) (hm : X.mg x = some (.ref f))
    (hk : PySem.W.keepIn X.K (.ref f) = true) (hb : Binds X.K fd ps []) (ha : PA X (e :: es) t) (hdb : (x == ("__debug__" : Str)) = false := by decide)
    (he : starEach (e :: es) X.env = (false, eval e X.env) :: starEach es X.env := by rfl)
    (hpl : (backTo pos (starEach es X.env)).any (·.1) = false := by rfl) :
    PE X (.Call (.Name x p) (e :: es) [] pos) (tCall sp [] E0 t) := by
  refine ⟨fun pins s σ H Q I h => wpAny_Call_Name_kw (ld_glob I hg hm ?_ hdb)⟩
  refine PySem.W.callWith_K (h₀ := X.base) I.ok.mod.kin hk (thn (ha.run pos pins s σ H _ I h) fun us s1 hh => ?_) he hpl
  obtain ⟨vs, H1, I1, r, q⟩ := hh
  refine ⟨I1.kIn, ?_⟩
  have q1 : sp (vs ++ []) H1 Q E0 := q
  rw [List.append_nil] at q1
  have hl : (us ++ []).length = ps.length := by
    rw [List.append_nil, ← r.length]
    exact F.len _ _ _ _ q1
  have bb := hb s1 us I1.kIn hl
  rw [List.append_nil] at bb
  refine wpAny_call (codeAny_mono (F.run X.A X.stack s1 H1 ⟨us, []⟩ us vs Q E0 hr hgd I1.env0 bb r q1) fun z s' hq => ?_)
  cases z with
  | error e => cases hq
  | ok fl =>
    cases fl with
    | ret u => exact I1.after hq
    | next => cases hq
    | brk => cases hq
    | cont => cases hq
/-- repr(x), x a list or tuple of plain data, where no repr is under way -/
theorem call_reprD (hgd : X.A.guards = some []) (hu : X.A.units + 100 < cLine) : CallR X (.builtin "repr") (fun xs H Q => ∃ (a : Addr) (d : PyData), xs = [.ref a] ∧ Dp X.K H (.ref a) d ∧
    d.showable = true ∧ d.hasDict = false ∧ d.shown.length ≤ sizeLine ∧ d.depth ≤ 64 ∧ Q (.str d.shown) H) := by
  intro pins s σ H xs us Q I r h
  obtain ⟨a, d, rfl, hd, h1, h2, h3, h4, q⟩ := h
  rw [Vals.ref1 r]
  obtain ⟨as, R⟩ := Dp.reads I d (.ref a) (.ref a) hd rfl
  exact repr_of_reads' R h1 (PyData.noDict_hsm h2) hgd (by omega) (fun _ _ e => e) (fun h' u tk hk => ⟨.str d.shown, H, I.kept hk, ⟨u, rfl⟩, q⟩) h3
end
/-! ### the end of a row whose law has such a promise -/
theorem law_callG {P : Program} {w : World} {K : PySem.W.Frag} {mg mb : Str → Option Value} {k : Nat} {fa a : Addr} {fd : FuncData} {x : Str} {sp : Sp} {s₁ : Shared} {vs : List Value} {ns : List Int}
    (KX : K.In s₁.heap) (hns : s₁.heap.Ns mainGlobals mg) (hb : s₁.heap.Ns builtinsNs mb) (hbb : ∀ x : Str, x ≠ "__name__" → mb x = bootBuiltins x) (hlim : s₁.heap.NoLimit) (hg : s₁.gens = #[])
    (ha : s₁.heap.get? a = some { cls := .type "list", data := .seq vs.toArray }) (hi : IntsAre vs ns) (hl : ns.length ≤ sizeLine) (hr : Room k callerA)
    (F : ∀ base : Heap, K.In base → base.Ns mainGlobals mg → FnG P w K mg base k fa fd [x] sp)
    (hbind : ∀ (s : Shared) (u : Value), BindsTo s fd ⟨[u], []⟩ [(x, u)])
    (hsp : ∀ H : Hp, Only H → SqL K H a (ns.map V.int) → sp [.ref a] H (fun v _ => v = .bl true) fun _ _ _ => False) :
    codeAny (model P w) callerA (.call (.ref fa) ⟨[.ref a], []⟩)
      (fun r s' => r = .ok (.ret (.bool true)) ∧ OldK s₁.heap s'.heap ∧ s'.os = s₁.os ∧ AllBare s'.gens) s₁ := by
  have rv := vals_ints hi
  have lenV := hi.length
  have core : ∀ H : Hp, Only H → SqL K H a (ns.map V.int) → HOk P w H s₁.heap → (∀ b, H b ≠ none → b = a) → (H a ≠ none → K.lookup a = none) →
      codeAny (model P w) callerA (.call (.ref fa) ⟨[.ref a], []⟩)
        (fun r s' => r = .ok (.ret (.bool true)) ∧ OldK s₁.heap s'.heap ∧ s'.os = s₁.os ∧ AllBare s'.gens) s₁ := by
    intro H hO hS hok hA hK
    have only_a : ∀ {b : Addr} {u : HO}, H b = some u → b = a := fun {b u} q => hA b (by
      rw [q]
      simp)
    have noA : ∀ {b : Addr} {o : Obj} {es : Array DictEntry} {ep : Nat}, s₁.heap.get? b = some o → o.data = .dict es ep → H b = none := by
      intro b o es ep e d
      cases q : H b with
      | none => rfl
      | some u =>
        have e' := only_a q
        subst e'
        rw [ha] at e
        cases e
        have d' : Data.seq vs.toArray _ = Data.dict es ep := d
        cases d'
    have nsK : ∀ {b : Addr} {m : Str → Option Value}, s₁.heap.Ns b m → (hidT s₁.heap H).Ns b m := by
      rintro b m ⟨o, es, ep, e, d, r⟩
      exact ⟨o, es, ep, hidT_get e (noA e d), d, r⟩
    have hKb : K.In (hidT s₁.heap H) := by
      intro b o e
      refine hidT_get (KX b o e) ?_
      cases q : H b with
      | none => rfl
      | some u =>
        have e' := only_a q
        subst e'
        rw [hK (by rw [q]; simp)] at e
        cases e
    have hM : Mod K mg (hidT s₁.heap H) := by
      obtain ⟨mc, h1, h2⟩ := hlim
      exact ⟨hKb, nsK hns, ⟨mb, nsK hb, hbb⟩, ⟨mc, nsK h1, h2⟩⟩
    have e0 : Env0 P w K mg (hidT s₁.heap H) callerA [] s₁ H :=
      ⟨rfl, hM, fun b o e => of_hidT e, Nat.le_of_eq (hidT_size _ _), trivial,
        fun b hb => absurd (show b ∈ ([] : List Addr) from hb) (by simp), hok, .of_eq hg⟩
    have go := (F _ hKb (nsK hns)).run callerA [] s₁ H ⟨[.ref a], []⟩ [.ref a] [.ref a] _ _ hr rfl e0 (hbind s₁ (.ref a)) (.cons rfl .nil) (hsp H hO hS)
    refine codeAny_mono go fun r s' h => ?_
    cases r with
    | error e => cases h
    | ok fl =>
      cases fl with
      | next => cases h
      | brk => cases h
      | cont => cases h
      | ret u =>
        obtain ⟨v, H', os, bare, un, hok', r', q⟩ := h
        have q' : v = .bl true := q
        subst q'
        obtain rfl : u = Value.bool true := r'
        refine ⟨rfl, OldK.of_keep fun b o e => ?_, os, bare⟩
        cases q : H b with
        | none =>
          exact un.keep b o e q (fun z => absurd (show b ∈ ([] : List Addr) from z) (by simp)) (by simp)
        | some u =>
          rcases hO b with z | ⟨ob, xs, z⟩
          · rw [q] at z
            cases z
          · obtain ⟨e1, _⟩ := hok b _ z
            obtain ⟨e2, _⟩ := hok' b _ (un.frzs b ob _ z)
            rw [e] at e1
            cases e1
            exact e2
  cases hk : K.lookup a with
  | some o =>
    have e := KX a o hk
    rw [ha] at e
    cases e
    have sq : SqL K (fun _ => none) a (ns.map V.int) :=
      .inr ⟨_, vs.toArray, _, hk, rfl, rfl, rfl, by rw [List.size_toArray, lenV]; exact hl, by simpa using rv⟩
    exact core (fun _ => none) (fun _ => .inl rfl) sq (fun b u z => by cases z) (fun b z => absurd rfl z) fun z => absurd rfl z
  | none =>
    refine core (fun b => if b = a then some (.frz { cls := .type "list", data := .seq vs.toArray } (.lst (ns.map V.int))) else none)
      (fun b => ?_) (.inl (.inr ⟨{ cls := .type "list", data := .seq vs.toArray }, if_pos rfl⟩)) (fun b u z => ?_) (fun b z => ?_) fun _ => hk
    · by_cases hb : b = a
      · exact .inr ⟨_, _, if_pos hb⟩
      · exact .inl (if_neg hb)
    · by_cases hb : b = a
      · have z' := (if_pos hb).symm.trans z
        cases z'
        subst hb
        exact ⟨ha, by rw [List.length_map]; exact hl, vs, _, rv, ha⟩
      · have z' := (if_neg hb).symm.trans z
        cases z'
    · by_cases hb : b = a
      · exact hb
      · exact absurd (if_neg hb) z
theorem walk_ofG {l : PySem.W.OpenLaw} {n k : Nat} {q : Program} {loose : List Str} {XP : (Str → Option Value) → Heap → Prop} {YP : World → Heap → Prop} {d : DefRec} {K : Params → PySem.W.Frag} {sp : World → Sp} {x : Str}
    (hn : l.most = some n) (hn2 : n ≤ sizeLine) (hdf : d.params.defaults = []) (hr : Room k callerA) (hY : ∀ (w : World) (h : Heap), YP w h → (K w.params).In h)
    (F : ∀ (w : World) (mg : Str → Option Value) (fa : Addr) (h : Heap), (K w.params).In h → h.Ns mainGlobals mg → mg d.name = some (.ref fa) →
      ∃ fd : FuncData, (∀ (s : Shared) (u : Value), BindsTo s fd ⟨[u], []⟩ [(x, u)]) ∧
        ∀ base : Heap, (K w.params).In base → base.Ns mainGlobals mg → FnG l.prog w (K w.params) mg base k fa fd [x] (sp w))
    (hsp : ∀ (w : World) (H : Hp) (a : Addr) (ns : List Int), ns.length ≤ n → Only H → SqL (K w.params) H a (ns.map V.int) →
      sp w [.ref a] H (fun v _ => v = .bl true) fun _ _ _ => False) :
    PySem.W.WalkO q loose XP YP l.row.toRowW d [] (fun f vs => PySem.call f vs) := by
  refine Att.attach_call hn hdf fun w s₀ s₁ mg mb fa o pm cd doc a vs ns G Y ho hd hcd hmg hobj hints hlen hg => ?_
  obtain ⟨fd, hb, hF⟩ := F w mg fa _ (hY w _ Y) G.T.g hmg
  exact law_callG (hY w _ Y) G.T.g G.T.b G.T.builtins G.T.nolimit hg hobj hints (Nat.le_trans hlen hn2) hr hF hb
    (fun H hO hS => hsp w H a ns hlen hO hS)
end KS
namespace KS
open PySem PySem.Spec PyProof.Rows L2
/-! ### cells and plans -/
abbrev Cell := Int × Int
def CellAt (K : PySem.W.Frag) (H : Hp) (x : V) (c : Cell) : Prop := ∃ t, x = .ref t ∧ SqT K H t [.int c.1, .int c.2]
abbrev CellsAt (K : PySem.W.Frag) (H : Hp) : List V → List Cell → Prop := Paired (CellAt K H)
def lt2 (a b : Cell) : Prop := a.1 < b.1 ∨ (a.1 = b.1 ∧ a.2 < b.2)
def InGrid (c : Cell) : Prop := 0 ≤ c.1 ∧ c.1 ≤ 7 ∧ 0 ≤ c.2 ∧ c.2 ≤ 7
structure Good (cs : List Cell) : Prop where
  asc : cs.Pairwise lt2
  grid : ∀ c ∈ cs, InGrid c
  ne : cs ≠ []
/-- tuples are kept -/
def KT (K : PySem.W.Frag) (H H' : Hp) : Prop := ∀ a xs, SqT K H a xs → SqT K H' a xs
section
variable {K : PySem.W.Frag} {H H1 H2 H' : Hp}
theorem KT.trans (a : KT K H H1) (b : KT K H1 H2) : KT K H H2 := fun x xs h => b x xs (a x xs h)
theorem KT.of_same (a : Same H H1) : KT K H H1 := fun _ _ h => same_seqT a h
theorem KT.of_keepX {p : Addr} (hp : PoolO (H p)) (a : KeepX p H H1) : KT K H H1 := fun _ _ h => keepX_seqT hp a h
theorem KT.upd {e : Addr} {ys : List V} {o : HO} (h : H e = some (.lst ys)) : KT K H (upd H e o) := fun a xs q => by
  rcases q with (q | ⟨ob, q⟩) | q
  · exact .inl (.inl (by rw [upd_ne (ne_of q h (by intro z; cases z))]; exact q))
  · exact .inl (.inr ⟨ob, by rw [upd_ne (ne_of q h (by intro z; cases z))]; exact q⟩)
  · exact .inr q
theorem CellAt.kt {x : V} {c : Cell} (k : KT K H H') (h : CellAt K H x c) : CellAt K H' x c := by
  obtain ⟨t, e, q⟩ := h
  exact ⟨t, e, k _ _ q⟩
theorem cells_kt {xs : List V} {cs : List Cell} (k : KT K H H') (h : CellsAt K H xs cs) : CellsAt K H' xs cs := Paired.mono (fun _ _ q => q.kt k) h
end
theorem paired_append {α β : Type} {F : α → β → Prop} : ∀ {l₁ l₁' : List α} {l₂ l₂' : List β}, Paired F l₁ l₂ → Paired F l₁' l₂' → Paired F (l₁ ++ l₁') (l₂ ++ l₂')
  | _, _, _, _, .nil, h => h
  | _, _, _, _, .cons r t, h => .cons r (paired_append t h)
theorem paired_get {α β : Type} {F : α → β → Prop} : ∀ {l₁ : List α} {l₂ : List β} {i : Nat} {x : α}, Paired F l₁ l₂ → l₁[i]? = some x → ∃ y, l₂[i]? = some y ∧ F x y
  | _, _, _, _, .nil, h => by simp at h
  | _, _, 0, _, .cons r t, h => by
    simp at h
    subst h
    exact ⟨_, rfl, r⟩
  | _, _, i + 1, _, .cons r t, h => by
    simp at h
    obtain ⟨y, e, f⟩ := paired_get t h
    exact ⟨y, by simpa using e, f⟩
theorem paired_erase {α β : Type} {F : α → β → Prop} : ∀ {l₁ : List α} {l₂ : List β} (i : Nat), Paired F l₁ l₂ → Paired F (l₁.eraseIdx i) (l₂.eraseIdx i)
  | _, _, _, .nil => .nil
  | _, _, 0, .cons r t => t
  | _, _, i + 1, .cons r t => .cons r (paired_erase i t)
/-- the cells of one row -/
def rowCells (r c : Int) (n : Nat) : List Cell := (List.range n).map fun (s : Nat) => (r, c + (s : Int))
theorem rowCells_succ (r c : Int) (n : Nat) : rowCells r c (n + 1) = rowCells r c n ++ [(r, c + (n : Int))] := by
  unfold rowCells
  rw [List.range_succ, List.map_append]
  rfl
theorem rowCells_mem {r c : Int} {n : Nat} {x : Cell} (h : x ∈ rowCells r c n) : x.1 = r ∧ c ≤ x.2 ∧ x.2 < c + n := by
  unfold rowCells at h
  obtain ⟨s, hs, rfl⟩ := List.mem_map.mp h
  have := List.mem_range.mp hs
  refine ⟨rfl, ?_, ?_⟩ <;> show _ <;> simp <;> omega
theorem rowCells_asc (r c : Int) : ∀ n : Nat, (rowCells r c n).Pairwise lt2
  | 0 => List.Pairwise.nil
  | n + 1 => by
    rw [rowCells_succ, List.pairwise_append]
    refine ⟨rowCells_asc r c n, List.pairwise_singleton _ _, fun a ha b hb => ?_⟩
    obtain ⟨e1, e2, e3⟩ := rowCells_mem ha
    rw [List.mem_singleton] at hb
    subst hb
    exact .inr ⟨e1, e3⟩
theorem rowCells_len (r c : Int) (n : Nat) : (rowCells r c n).length = n := by
  unfold rowCells
  rw [List.length_map, List.length_range]
def PlanAt (K : PySem.W.Frag) (H : Hp) (a : Addr) (cs : List Cell) : Prop := ∃ xs, SqT K H a xs ∧ CellsAt K H xs cs
theorem PlanAt.kt {K : PySem.W.Frag} {H H' : Hp} {a : Addr} {cs : List Cell} (k : KT K H H') (h : PlanAt K H a cs) : PlanAt K H' a cs := by
  obtain ⟨xs, h1, h2⟩ := h
  exact ⟨xs, k _ _ h1, cells_kt k h2⟩
def spPlan (K : PySem.W.Frag) : Sp := fun vs H Q _ => ∃ (p : Addr) (m : Int), vs = [.ref p, .int m] ∧ PoolO (H p) ∧ 1 ≤ m ∧ m ≤ 24 ∧
  ∀ H' a cs, KeepX p H H' → PoolO (H' p) → PlanAt K H' a cs → Good cs → (cs.length : Int) ≤ m → H a = none → Q (.ref a) H'
/-- where _law_plan stands behind its first loop -/
structure PlSt (K : PySem.W.Frag) (p : Addr) (H : Hp) (m mode wide high top left : Int) (σ : L2.St) (H' : Hp) : Prop where
  ex : ∃ (e : Addr) (xs : List V) (cs : List Cell) (y8 y9 y10 : Option V),
    σ = [some (.ref p), some (.int m), some (.int mode), some (.int wide), some (.int high), some (.int top), some (.int left), some (.ref e), y8, y9, y10, none, none] ∧
    H e = none ∧ e ≠ p ∧ H' e = some (.lst xs) ∧ CellsAt K H' xs cs ∧ Good cs ∧ cs.length ≤ 64
  kx : KeepX p H H'
  po : PoolO (H' p)
/-- every = [spot for spot in every if ..] or every -/
def tFil (K : PySem.W.Frag) (tc : TT) : TS := tAsg (tOrT K (tLc (iList K (tVar 7)) (gName 12) tc (tVar 12) [12]) (tVar 7)) (gName 7)
theorem small64 {n : Nat} (h : n ≤ 64) : n < sizeLine := by
  rw [sizeLine_eq]
  omega
theorem fil_ok {K : PySem.W.Frag} {p : Addr} {H : Hp} {m mode wide high top left : Int} {tc : TT} {D : Ends} {σ : L2.St} {H' : Hp} (h : PlSt K p H m mode wide high top left σ H')
    (htc : ∀ (t : Addr) (c : Cell) (H2 : Hp) (R : Bool → Hp → Prop), SqT K H2 t [.int c.1, .int c.2] → PoolO (H2 p) → (∀ b H3, KeepX p H2 H3 → PoolO (H3 p) → R b H3) → tc (σ.set 12 (some (.ref t))) H2 R)
    (k : ∀ σ' H'', PlSt K p H m mode wide high top left σ' H'' → D.nx σ' H'') : tFil K tc D σ H' := by
  obtain ⟨⟨e, xs, cs, y8, y9, y10, rfl, he0, hep, he, hc, gd, hl⟩, kx, po⟩ := h
  have hlen := Paired.length hc
  refine ⟨_, rfl, e, rfl, ⟨_, SqL.of he⟩, fun d nd => ?_⟩
  have ned : e ≠ d := ne_of_none he nd
  have npd : p ≠ d := po.ne nd
  refine lc_list (K := K) (a := e) (xs := xs) (fun i H2 => ∃ (acc : List V) (cs' : List Cell), H2 d = some (.lst acc) ∧ CellsAt K H2 acc cs' ∧ cs'.Sublist (cs.take i) ∧
    KeepX p H H2 ∧ PoolO (H2 p) ∧ H2 e = some (.lst xs) ∧ CellsAt K H2 xs cs) ?_ ?_ ?_ ?_
  · have s1 := same_new (o := .lst []) nd
    refine ⟨[], [], upd_same, .nil, List.nil_sublist _, kx.trans (.of_same s1), po.same s1, s1 _ _ he, cells_kt (.of_same s1) hc⟩
  · rintro i H2 _ ⟨acc, cs', _, _, _, _, _, h6, _⟩
    exact SqL.of h6
  · rintro i x H2 hi ⟨acc, cs', h1, h2, h3, h4, h5, h6, h7⟩
    obtain ⟨c, hci, t, rfl, ht⟩ := paired_get h7 hi
    have hlt : i < cs.length := (List.getElem?_eq_some_iff.mp hci).1
    have tk : cs.take (i + 1) = cs.take i ++ [c] := by
      rw [List.take_add_one, hci]
      rfl
    refine ⟨rfl, htc t c H2 _ ht h5 (fun b H3 k3 p3 => ?_)⟩
    have q3 : KT K H2 H3 := KT.of_keepX h5 k3
    have hd3 : H3 d = some (.lst acc) := k3 _ _ (Ne.symm npd) h1
    have he3 : H3 e = some (.lst xs) := k3 _ _ hep h6
    have hal : acc.length ≤ 64 := by
      rw [Paired.length h2]
      exact Nat.le_trans h3.length_le (by rw [List.length_take]; omega)
    refine ite2 (fun _ => ?_) (fun _ => ?_)
    · refine ⟨_, rfl, acc, hd3, small64 hal, acc ++ [.ref t], cs' ++ [c], upd_same, ?_, ?_, ?_, ?_, ?_, ?_⟩
      · exact cells_kt (q3.trans (KT.upd hd3)) (paired_append h2 (.cons ⟨t, rfl, ht⟩ .nil))
      · rw [tk]
        exact List.Sublist.append h3 (List.Sublist.refl _)
      · intro b o n e2
        rw [upd_ne (fun z => by
          subst z
          have q := kx b o n e2
          rw [nd] at q
          cases q)]
        exact k3 _ _ n (h4 _ _ n e2)
      · rw [upd_ne npd]
        exact p3
      · rw [upd_ne ned]
        exact he3
      · exact cells_kt (q3.trans (KT.upd hd3)) h7
    · refine ⟨acc, cs', hd3, cells_kt q3 h2, ?_, h4.trans k3, p3, he3, cells_kt q3 h7⟩
      rw [tk]
      exact List.Sublist.trans h3 (List.sublist_append_left _ _)
  · rintro H2 ⟨acc, cs', h1, h2, h3, h4, h5, h6, h7⟩
    have h3' : cs'.Sublist cs := List.Sublist.trans h3 (List.take_sublist _ _)
    refine ⟨!acc.isEmpty, .inl ⟨acc, SqL.of h1, rfl⟩, ite2 (fun e1 => ?_) (fun e1 => ?_)⟩
    · refine k _ _ ⟨⟨d, acc, cs', y8, y9, y10, rfl, ?_, Ne.symm npd, h1, h2, ⟨gd.asc.sublist h3', fun c hc => gd.grid c (h3'.subset hc), ?_⟩, Nat.le_trans h3'.length_le hl⟩, h4, h5⟩
      · cases q : H d with
        | none => rfl
        | some o =>
          have z := kx d o (Ne.symm npd) q
          rw [nd] at z
          cases z
      · intro z
        subst z
        cases h2
        cases e1
    · exact ⟨_, rfl, k _ _ ⟨⟨e, xs, cs, y8, y9, y10, rfl, he0, hep, h6, h7, gd, hl⟩, h4, h5⟩⟩
end KS
namespace KS
open PySem PySem.Spec PyProof.Rows L2
abbrev tDr (tm : TE) : TE := tCall spDraw [] E0 (tCons (tVar 0) (tCons tm tNil))
abbrev rAdd : V → V → Hp → VK → Prop := rI0 fun i j => .int (i + j)
/-- if mode == 2: high, wide = 1 + draw(pool, 8), 1 + draw(pool, 8) -/
theorem par_if {p : Addr} {m mode wide high : Int} {σr : L2.St} {H2 : Hp} {D : Ends} (po : PoolO (H2 p)) (hw : 1 ≤ wide ∧ wide ≤ 8) (hh : 1 ≤ high ∧ high ≤ 8)
    (k : ∀ (wide' high' : Int) (H3 : Hp), KeepX p H2 H3 → PoolO (H3 p) → 1 ≤ wide' ∧ wide' ≤ 8 → 1 ≤ high' ∧ high' ≤ 8 → D.nx (some (.ref p) :: some (.int m) :: some (.int mode) :: some (.int wide') :: some (.int high') :: σr) H3) :
    tIfS (tTest (tOp rEq (tVar 2) (tC (.int 2)))) (tPar 4 3 (tCons (tOp rAdd (tC (.int 1)) (tDr (tC (.int 8)))) (tCons (tOp rAdd (tC (.int 1)) (tDr (tC (.int 8)))) tNil))) tNext D
      (some (.ref p) :: some (.int m) :: some (.int mode) :: some (.int wide) :: some (.int high) :: σr) H2 := by
  refine ⟨_, rfl, rfl, _, rfl, ite2 (fun e => ?_) (fun e => ?_)⟩
  · refine ⟨_, rfl, p, 8, rfl, po, by decide, by decide, fun H3 a k3 po3 a0 a1 => ?_⟩
    refine ⟨_, _, rfl, rfl, _, rfl, p, 8, rfl, po3, by decide, by decide, fun H4 b k4 po4 b0 b1 => ?_⟩
    exact ⟨_, _, rfl, rfl, _, _, rfl, k (1 + b) (1 + a) H4 (k3.trans k4) po4 ⟨by omega, by omega⟩ ⟨by omega, by omega⟩⟩
  · exact k wide high H2 (KeepX.refl _ _) po hw hh
/-- if mode == n: every = [spot for spot in every if ..] or every -/
theorem fil_if {K : PySem.W.Frag} {p : Addr} {H : Hp} {m mode wide high top left n : Int} {tc : TT} {D : Ends} {σ : L2.St} {H' : Hp} (h : PlSt K p H m mode wide high top left σ H')
    (htc : ∀ (t : Addr) (c : Cell) (H2 : Hp) (R : Bool → Hp → Prop), SqT K H2 t [.int c.1, .int c.2] → PoolO (H2 p) → (∀ b H3, KeepX p H2 H3 → PoolO (H3 p) → R b H3) → tc (σ.set 12 (some (.ref t))) H2 R)
    (k : ∀ σ' H'', PlSt K p H m mode wide high top left σ' H'' → D.nx σ' H'') : tIfS (tTest (tOp rEq (tVar 2) (tC (.int n)))) (tFil K tc) tNext D σ H' := by
  obtain ⟨e, xs, cs, y8, y9, y10, es, rest⟩ := h.ex
  refine ⟨.int mode, by rw [es]; rfl, rfl, _, rfl, ite2 (fun e => ?_) (fun e => ?_)⟩
  · exact fil_ok h htc k
  · exact k _ _ h
theorem draw_test {K : PySem.W.Frag} {p : Addr} {H : Hp} {m mode wide high top left n : Int} {σ : L2.St} {H' : Hp} (h : PlSt K p H m mode wide high top left σ H') (n0 : 0 < n) (n1 : n < 1073741824)
    (t : Addr) (c : Cell) (H2 : Hp) (R : Bool → Hp → Prop) (ht : SqT K H2 t [.int c.1, .int c.2]) (po : PoolO (H2 p)) (k : ∀ b H3, KeepX p H2 H3 → PoolO (H3 p) → R b H3) :
    tTest (tOp (rI0 fun i j => .bl (decide (i > j))) (tDr (tC (.int n))) (tC (.int 0))) (σ.set 12 (some (.ref t))) H2 R := by
  obtain ⟨e, xs, cs, y8, y9, y10, es, rest⟩ := h.ex
  subst es
  exact ⟨_, rfl, p, n, rfl, po, n0, n1, fun H3 r k3 po3 r0 r1 => ⟨_, _, rfl, rfl, _, rfl, k _ _ k3 po3⟩⟩
end KS
namespace KS
open PySem PySem.Spec PyProof.Rows L2
abbrev rSub : V → V → Hp → VK → Prop := rI0 fun i j => .int (i - j)
abbrev rLe : V → V → Hp → VK → Prop := rI0 fun i j => .bl (decide (i ≤ j))
theorem fil3_if {K : PySem.W.Frag} {p : Addr} {H : Hp} {m mode wide high top left : Int} {D : Ends} {σ : L2.St} {H' : Hp} (h : PlSt K p H m mode wide high top left σ H')
    (k : ∀ σ' H'', PlSt K p H m mode wide high top left σ' H'' → D.nx σ' H'') :
    tIfS (tTest (tOp rEq (tVar 2) (tC (.int 3)))) (tSeq (tAsg (tOp rAdd (tOp rAdd (tVar 5) (tVar 6)) (tDr (tC (.int 4)))) (gName 9))
      (tSeq (tAsg (tOp rSub (tOp rSub (tOp rAdd (tOp rAdd (tOp rAdd (tVar 5) (tVar 6)) (tVar 4)) (tVar 3)) (tC (.int 2))) (tDr (tC (.int 4)))) (gName 10))
      (tFil K (tTest (tChain rLe rLe (tVar 9) (tCB (rSumT K) (tCons (tVar 12) tNil)) (tVar 10)))))) tNext D σ H' := by
  obtain ⟨⟨e, xs, cs, y8, y9, y10, rfl, he0, hep, he, hc, gd, hl⟩, kx, po⟩ := id h
  refine ⟨_, rfl, rfl, _, rfl, ite2 (fun e => ?_) (fun e => ?_)⟩
  · refine ⟨_, rfl, _, rfl, _, _, rfl, rfl, _, rfl, p, 4, rfl, po, by decide, by decide, fun H1 a k1 po1 _ _ => ⟨_, _, rfl, rfl, ?_⟩⟩
    refine ⟨_, rfl, _, rfl, _, _, rfl, rfl, _, rfl, _, _, rfl, rfl, _, rfl, _, _, rfl, rfl, _, _, rfl, rfl, _, rfl, p, 4, rfl, po1, by decide, by decide, fun H2 b k2 po2 _ _ => ⟨_, _, rfl, rfl, ?_⟩⟩
    have k12 := k1.trans k2
    refine fil_ok (p := p) (H := H) (m := m) (mode := mode) (wide := wide) (high := high) (top := top) (left := left)
      ⟨⟨_, xs, cs, y8, _, _, rfl, he0, hep, k12 _ _ hep he, cells_kt (KT.of_keepX po k12) hc, gd, hl⟩, kx.trans k12, po2⟩ (fun t c H3 R ht p3 kk => ?_) k
    refine ⟨_, rfl, _, rfl, t, [c.1, c.2], rfl, ht, _, _, rfl, rfl, _, rfl, ite2 (fun e1 => ?_) (fun e1 => ?_)⟩
    · exact ⟨_, rfl, _, _, rfl, rfl, _, rfl, kk _ _ (KeepX.refl _ _) p3⟩
    · exact ⟨_, rfl, kk _ _ (KeepX.refl _ _) p3⟩
  · exact k _ _ h
end KS
namespace KS
open PySem PySem.Spec PyProof.Rows L2
/-! ### plans whose cells are tuples made at run time -/
def CellT (H : Hp) (x : V) (c : Cell) : Prop := ∃ t, x = .ref t ∧ H t = some (.tup [.int c.1, .int c.2])
abbrev CellsT (H : Hp) : List V → List Cell → Prop := Paired (CellT H)
/-- such tuples are kept -/
def KTt (H H' : Hp) : Prop := ∀ a xs, H a = some (.tup xs) → H' a = some (.tup xs)
section
variable {K : PySem.W.Frag} {H H1 H2 H' : Hp}
theorem KTt.trans (a : KTt H H1) (b : KTt H1 H2) : KTt H H2 := fun x xs h => b x xs (a x xs h)
theorem KTt.of_same (a : Same H H1) : KTt H H1 := fun _ _ h => a _ _ h
theorem KTt.of_keepX {p : Addr} (hp : PoolO (H p)) (a : KeepX p H H1) : KTt H H1 := fun x xs h => by
  obtain ⟨_, _, _, ep, _⟩ := hp
  exact a _ _ (fun q => by rw [q, ep] at h; cases h) h
theorem KTt.upd {e : Addr} {ys : List V} {o : HO} (h : H e = some (.lst ys)) : KTt H (upd H e o) := fun a xs q => by
  rw [upd_ne (ne_of q h (by intro z; cases z))]
  exact q
theorem cellsT_kt {xs : List V} {cs : List Cell} (k : KTt H H') (h : CellsT H xs cs) : CellsT H' xs cs := Paired.mono (fun _ _ ⟨t, e, q⟩ => ⟨t, e, k _ _ q⟩) h
theorem cellsT_at {xs : List V} {cs : List Cell} (h : CellsT H xs cs) : CellsAt K H xs cs := Paired.mono (fun _ _ ⟨t, e, q⟩ => ⟨t, e, SqT.of q⟩) h
end
def PlanT (K : PySem.W.Frag) (H : Hp) (a : Addr) (cs : List Cell) : Prop := ∃ xs, SqT K H a xs ∧ CellsT H xs cs
theorem PlanT.at {K : PySem.W.Frag} {H : Hp} {a : Addr} {cs : List Cell} (h : PlanT K H a cs) : PlanAt K H a cs := by
  obtain ⟨xs, h1, h2⟩ := h
  exact ⟨xs, h1, cellsT_at h2⟩
theorem PlanT.same {K : PySem.W.Frag} {H H' : Hp} {a : Addr} {cs : List Cell} (h : PlanT K H a cs) (s : Same H H') : PlanT K H' a cs := by
  obtain ⟨xs, h1, h2⟩ := h
  exact ⟨xs, same_seqT s h1, cellsT_kt (.of_same s) h2⟩
theorem PlanT.keepX {K : PySem.W.Frag} {H H' : Hp} {a p : Addr} {cs : List Cell} (h : PlanT K H a cs) (hp : PoolO (H p)) (s : KeepX p H H') : PlanT K H' a cs := by
  obtain ⟨xs, h1, h2⟩ := h
  exact ⟨xs, keepX_seqT hp s h1, cellsT_kt (.of_keepX hp s) h2⟩
def spPlanT (K : PySem.W.Frag) : Sp := fun vs H Q _ => ∃ (p : Addr) (m : Int), vs = [.ref p, .int m] ∧ PoolO (H p) ∧ 1 ≤ m ∧ m ≤ 24 ∧
  ∀ H' a cs, KeepX p H H' → PoolO (H' p) → PlanT K H' a cs → Good cs → (cs.length : Int) ≤ m → H a = none → Q (.ref a) H'
/-- where _law_plan stands behind its first loop -/
structure PlStT (K : PySem.W.Frag) (p : Addr) (H : Hp) (m mode wide high top left : Int) (σ : L2.St) (H' : Hp) : Prop where
  ex : ∃ (e : Addr) (xs : List V) (cs : List Cell) (y8 y9 y10 : Option V),
    σ = [some (.ref p), some (.int m), some (.int mode), some (.int wide), some (.int high), some (.int top), some (.int left), some (.ref e), y8, y9, y10, none, none] ∧
    H e = none ∧ e ≠ p ∧ H' e = some (.lst xs) ∧ CellsT H' xs cs ∧ Good cs ∧ cs.length ≤ 64
  kx : KeepX p H H'
  po : PoolO (H' p)
theorem filT_ok {K : PySem.W.Frag} {p : Addr} {H : Hp} {m mode wide high top left : Int} {tc : TT} {D : Ends} {σ : L2.St} {H' : Hp} (h : PlStT K p H m mode wide high top left σ H')
    (htc : ∀ (t : Addr) (c : Cell) (H2 : Hp) (R : Bool → Hp → Prop), SqT K H2 t [.int c.1, .int c.2] → PoolO (H2 p) → (∀ b H3, KeepX p H2 H3 → PoolO (H3 p) → R b H3) → tc (σ.set 12 (some (.ref t))) H2 R)
    (k : ∀ σ' H'', PlStT K p H m mode wide high top left σ' H'' → D.nx σ' H'') : tFil K tc D σ H' := by
  obtain ⟨⟨e, xs, cs, y8, y9, y10, rfl, he0, hep, he, hc, gd, hl⟩, kx, po⟩ := h
  have hlen := Paired.length hc
  refine ⟨_, rfl, e, rfl, ⟨_, SqL.of he⟩, fun d nd => ?_⟩
  have ned : e ≠ d := ne_of_none he nd
  have npd : p ≠ d := po.ne nd
  refine lc_list (K := K) (a := e) (xs := xs) (fun i H2 => ∃ (acc : List V) (cs' : List Cell), H2 d = some (.lst acc) ∧ CellsT H2 acc cs' ∧ cs'.Sublist (cs.take i) ∧
    KeepX p H H2 ∧ PoolO (H2 p) ∧ H2 e = some (.lst xs) ∧ CellsT H2 xs cs) ?_ ?_ ?_ ?_
  · have s1 := same_new (o := .lst []) nd
    refine ⟨[], [], upd_same, .nil, List.nil_sublist _, kx.trans (.of_same s1), po.same s1, s1 _ _ he, cellsT_kt (.of_same s1) hc⟩
  · rintro i H2 _ ⟨acc, cs', _, _, _, _, _, h6, _⟩
    exact SqL.of h6
  · rintro i x H2 hi ⟨acc, cs', h1, h2, h3, h4, h5, h6, h7⟩
    obtain ⟨c, hci, t, rfl, ht⟩ := paired_get h7 hi
    have hlt : i < cs.length := (List.getElem?_eq_some_iff.mp hci).1
    have tk : cs.take (i + 1) = cs.take i ++ [c] := by
      rw [List.take_add_one, hci]
      rfl
    refine ⟨rfl, htc t c H2 _ (SqT.of ht) h5 (fun b H3 k3 p3 => ?_)⟩
    have q3 : KTt H2 H3 := KTt.of_keepX h5 k3
    have hd3 : H3 d = some (.lst acc) := k3 _ _ (Ne.symm npd) h1
    have he3 : H3 e = some (.lst xs) := k3 _ _ hep h6
    have hal : acc.length ≤ 64 := by
      rw [Paired.length h2]
      exact Nat.le_trans h3.length_le (by rw [List.length_take]; omega)
    refine ite2 (fun _ => ?_) (fun _ => ?_)
    · refine ⟨_, rfl, acc, hd3, small64 hal, acc ++ [.ref t], cs' ++ [c], upd_same, ?_, ?_, ?_, ?_, ?_, ?_⟩
      · exact cellsT_kt (q3.trans (KTt.upd hd3)) (paired_append h2 (.cons ⟨t, rfl, ht⟩ .nil))
      · rw [tk]
        exact List.Sublist.append h3 (List.Sublist.refl _)
      · intro b o n e2
        rw [upd_ne (fun z => by
          subst z
          have q := kx b o n e2
          rw [nd] at q
          cases q)]
        exact k3 _ _ n (h4 _ _ n e2)
      · rw [upd_ne npd]
        exact p3
      · rw [upd_ne ned]
        exact he3
      · exact cellsT_kt (q3.trans (KTt.upd hd3)) h7
    · refine ⟨acc, cs', hd3, cellsT_kt q3 h2, ?_, h4.trans k3, p3, he3, cellsT_kt q3 h7⟩
      rw [tk]
      exact List.Sublist.trans h3 (List.sublist_append_left _ _)
  · rintro H2 ⟨acc, cs', h1, h2, h3, h4, h5, h6, h7⟩
    have h3' : cs'.Sublist cs := List.Sublist.trans h3 (List.take_sublist _ _)
    refine ⟨!acc.isEmpty, .inl ⟨acc, SqL.of h1, rfl⟩, ite2 (fun e1 => ?_) (fun e1 => ?_)⟩
    · refine k _ _ ⟨⟨d, acc, cs', y8, y9, y10, rfl, ?_, Ne.symm npd, h1, h2, ⟨gd.asc.sublist h3', fun c hc => gd.grid c (h3'.subset hc), ?_⟩, Nat.le_trans h3'.length_le hl⟩, h4, h5⟩
      · cases q : H d with
        | none => rfl
        | some o =>
          have z := kx d o (Ne.symm npd) q
          rw [nd] at z
          cases z
      · intro z
        subst z
        cases h2
        cases e1
    · exact ⟨_, rfl, k _ _ ⟨⟨e, xs, cs, y8, y9, y10, rfl, he0, hep, h6, h7, gd, hl⟩, h4, h5⟩⟩
end KS
namespace KS
open PySem PySem.Spec PyProof.Rows L2
/-- if mode == n: every = [spot for spot in every if ..] or every -/
theorem filT_if {K : PySem.W.Frag} {p : Addr} {H : Hp} {m mode wide high top left n : Int} {tc : TT} {D : Ends} {σ : L2.St} {H' : Hp} (h : PlStT K p H m mode wide high top left σ H')
    (htc : ∀ (t : Addr) (c : Cell) (H2 : Hp) (R : Bool → Hp → Prop), SqT K H2 t [.int c.1, .int c.2] → PoolO (H2 p) → (∀ b H3, KeepX p H2 H3 → PoolO (H3 p) → R b H3) → tc (σ.set 12 (some (.ref t))) H2 R)
    (k : ∀ σ' H'', PlStT K p H m mode wide high top left σ' H'' → D.nx σ' H'') : tIfS (tTest (tOp rEq (tVar 2) (tC (.int n)))) (tFil K tc) tNext D σ H' := by
  obtain ⟨e, xs, cs, y8, y9, y10, es, rest⟩ := h.ex
  refine ⟨.int mode, by rw [es]; rfl, rfl, _, rfl, ite2 (fun e => ?_) (fun e => ?_)⟩
  · exact filT_ok h htc k
  · exact k _ _ h
theorem drawT_test {K : PySem.W.Frag} {p : Addr} {H : Hp} {m mode wide high top left n : Int} {σ : L2.St} {H' : Hp} (h : PlStT K p H m mode wide high top left σ H') (n0 : 0 < n) (n1 : n < 1073741824)
    (t : Addr) (c : Cell) (H2 : Hp) (R : Bool → Hp → Prop) (ht : SqT K H2 t [.int c.1, .int c.2]) (po : PoolO (H2 p)) (k : ∀ b H3, KeepX p H2 H3 → PoolO (H3 p) → R b H3) :
    tTest (tOp (rI0 fun i j => .bl (decide (i > j))) (tDr (tC (.int n))) (tC (.int 0))) (σ.set 12 (some (.ref t))) H2 R := by
  obtain ⟨e, xs, cs, y8, y9, y10, es, rest⟩ := h.ex
  subst es
  exact ⟨_, rfl, p, n, rfl, po, n0, n1, fun H3 r k3 po3 r0 r1 => ⟨_, _, rfl, rfl, _, rfl, k _ _ k3 po3⟩⟩
end KS
namespace KS
open PySem PySem.Spec PyProof.Rows L2
theorem filT3_if {K : PySem.W.Frag} {p : Addr} {H : Hp} {m mode wide high top left : Int} {D : Ends} {σ : L2.St} {H' : Hp} (h : PlStT K p H m mode wide high top left σ H')
    (k : ∀ σ' H'', PlStT K p H m mode wide high top left σ' H'' → D.nx σ' H'') :
    tIfS (tTest (tOp rEq (tVar 2) (tC (.int 3)))) (tSeq (tAsg (tOp rAdd (tOp rAdd (tVar 5) (tVar 6)) (tDr (tC (.int 4)))) (gName 9))
      (tSeq (tAsg (tOp rSub (tOp rSub (tOp rAdd (tOp rAdd (tOp rAdd (tVar 5) (tVar 6)) (tVar 4)) (tVar 3)) (tC (.int 2))) (tDr (tC (.int 4)))) (gName 10))
      (tFil K (tTest (tChain rLe rLe (tVar 9) (tCB (rSumT K) (tCons (tVar 12) tNil)) (tVar 10)))))) tNext D σ H' := by
  obtain ⟨⟨e, xs, cs, y8, y9, y10, rfl, he0, hep, he, hc, gd, hl⟩, kx, po⟩ := id h
  refine ⟨_, rfl, rfl, _, rfl, ite2 (fun e => ?_) (fun e => ?_)⟩
  · refine ⟨_, rfl, _, rfl, _, _, rfl, rfl, _, rfl, p, 4, rfl, po, by decide, by decide, fun H1 a k1 po1 _ _ => ⟨_, _, rfl, rfl, ?_⟩⟩
    refine ⟨_, rfl, _, rfl, _, _, rfl, rfl, _, rfl, _, _, rfl, rfl, _, rfl, _, _, rfl, rfl, _, _, rfl, rfl, _, rfl, p, 4, rfl, po1, by decide, by decide, fun H2 b k2 po2 _ _ => ⟨_, _, rfl, rfl, ?_⟩⟩
    have k12 := k1.trans k2
    refine filT_ok (p := p) (H := H) (m := m) (mode := mode) (wide := wide) (high := high) (top := top) (left := left)
      ⟨⟨_, xs, cs, y8, _, _, rfl, he0, hep, k12 _ _ hep he, cellsT_kt (KTt.of_keepX po k12) hc, gd, hl⟩, kx.trans k12, po2⟩ (fun t c H3 R ht p3 kk => ?_) k
    refine ⟨_, rfl, _, rfl, t, [c.1, c.2], rfl, ht, _, _, rfl, rfl, _, rfl, ite2 (fun e1 => ?_) (fun e1 => ?_)⟩
    · exact ⟨_, rfl, _, _, rfl, rfl, _, rfl, kk _ _ (KeepX.refl _ _) p3⟩
    · exact ⟨_, rfl, kk _ _ (KeepX.refl _ _) p3⟩
  · exact k _ _ h
end KS
namespace KS
open PySem PySem.Spec PyProof.Rows L2
theorem tyx_tup {K : PySem.W.Frag} {H : Hp} {a : Addr} {xs : List V} (h : SqT K H a xs) : TyX K H (.ref a) (.type "tuple") := by
  rcases h with (h | ⟨o, h⟩) | h
  · exact .base (.tup h)
  · exact .fTuple h
  · obtain ⟨o, its, n, e, c, r⟩ := h
    exact .kTuple e c
theorem bl_true {p : Prop} [Decidable p] (h : p) : V.bl (decide p) = V.bl true := by rw [decide_eq_true h]
theorem bl_false {p : Prop} [Decidable p] (h : ¬ p) : V.bl (decide p) = V.bl false := by rw [decide_eq_false h]
/-- a number of a row or column -/
def Place (v : Int) : Prop := 0 ≤ v ∧ v ≤ 7
def spWhole : Sp := fun vs H Q _ => ∃ i : Int, vs = [.int i] ∧ Q (.bl true) H
def spBetween : Sp := fun vs H Q _ => ∃ i lo hi : Int, vs = [.int i, .int lo, .int hi] ∧ lo ≤ i ∧ i ≤ hi ∧ Q (.bl true) H
def spPlace : Sp := fun vs H Q _ => ∃ i : Int, vs = [.int i] ∧ Place i ∧ Q (.bl true) H
def spIsCell (K : PySem.W.Frag) : Sp := fun vs H Q _ => ∃ (a : Addr) (c : Cell), vs = [.ref a] ∧ SqT K H a [.int c.1, .int c.2] ∧ InGrid c ∧ Q (.bl true) H
def spCheck (K : PySem.W.Frag) : Sp := fun vs H Q _ => ∃ (a : Addr) (cs : List Cell), vs = [.ref a] ∧ PlanAt K H a cs ∧ Good cs ∧ cs.length ≤ 24 ∧ ∀ H', Same H H' → Q .non H'
theorem good_step {cs : List Cell} (g : cs.Pairwise lt2) {i : Nat} {a b : Cell} (h1 : cs[i]? = some a) (h2 : cs[i + 1]? = some b) : lt2 a b := by
  obtain ⟨l1, e1⟩ := List.getElem?_eq_some_iff.mp h1
  obtain ⟨l2, e2⟩ := List.getElem?_eq_some_iff.mp h2
  have := (List.pairwise_iff_getElem.mp g) i (i + 1) l1 l2 (by omega)
  rw [e1, e2] at this
  exact this
theorem not_le2 {a b : Cell} (h : lt2 a b) : Ob.lexAt (fun j => decide (([b.1, b.2] : List Int).getD j 0 = ([a.1, a.2] : List Int).getD j 0)) (fun j => decide (([b.1, b.2] : List Int).getD j 0 ≤ ([a.1, a.2] : List Int).getD j 0)) (decide (([b.1, b.2] : List Int).length ≤ ([a.1, a.2] : List Int).length)) 0 (min ([b.1, b.2] : List Int).length ([a.1, a.2] : List Int).length) = false := by
  show Ob.lexAt _ _ _ 0 2 = false
  rw [Ob.lexAt_succ, Ob.lexAt_succ]
  show (if decide (b.1 = a.1) = true then (if decide (b.2 = a.2) = true then _ else decide (b.2 ≤ a.2)) else decide (b.1 ≤ a.1)) = false
  rcases h with h | ⟨h1, h2⟩
  · rw [if_neg (by simp; omega)]
    simp
    omega
  · rw [if_pos (by simp; omega), if_neg (by simp; omega)]
    simp
    omega
end KS
namespace KS
open PySem PySem.Spec PyProof.Rows L2
/-! ### f(k = v, ..), keywords alone -/
structure KwBinds (fd : FuncData) (ps ks : List Str) (g : List Value → List Value) (gV : List V → List V) : Prop where
  to : ∀ (s : Shared) (ws : List Value), (g ws).length = ps.length → BindsTo s fd ⟨[], ks.zip ws⟩ (ps.zip (g ws))
  rel : ∀ {zs : List V} {ws : List Value}, Vals zs ws → Vals (gV zs) (g ws)
def tCallKw (sp : Sp) (gV : List V → List V) (E : XK) (tk : TA) : TE := fun σ H Q => tk σ H fun zs H2 => sp (gV zs) H2 Q E
section
variable {X : Cx} {CX : CXT} {k : Nat} {f : Addr} {fd : FuncData} {ps ks : List Str} {sp : Sp} {E : XK} {x : Str} {p pos : Pos} {kws : List Keyword} {tk : TA} {g : List Value → List Value} {gV : List V → List V}
theorem pe_callKw (F : FnOk X.prog X.w X.K X.mg X.base CX k f fd ps sp) (hr : Room k X.A) (hg : Gl X x) (hm : X.mg x = some (.ref f)) (hk : PySem.W.keepIn X.K (.ref f) = true) (hb : KwBinds fd ps ks g gV)
    (hx : Passes CX X E) (hkw : PK X kws tk) (hall : (backToKw pos (keywordEach kws X.env)).all (·.1.isSome) = true := by rfl)
    (hks : (backToKw pos (keywordEach kws X.env)).filterMap (·.1) = ks := by rfl) (hdb : (x == ("__debug__" : Str)) = false := by decide)
    (hpl : ((backTo pos (starEach [] X.env)).any (·.1) || (backToKw pos (keywordEach kws X.env)).any (·.1.isNone)) = false := by rfl) :
    PE X (.Call (.Name x p) [] kws pos) (tCallKw sp gV E tk) := by
  refine ⟨fun pins s σ H Q I h => wpAny_Call_Name_kw (ld_glob I hg hm ?_ hdb)⟩
  refine PySem.W.callWith_KW0 (h₀ := X.base) I.ok.mod.kin hk hall ?_ hpl
  refine thn (hkw.run pos pins s σ H _ I h) fun ws s2 hh => ?_
  obtain ⟨zs, H2, I2, rz, q2⟩ := hh
  refine ⟨I2.kIn, ?_⟩
  rw [hks]
  have r2 := hb.rel rz
  have hl : (g ws).length = ps.length := by
    rw [← r2.length]
    exact F.len _ _ _ _ q2
  show wpAny _ _ (call (.ref f) [] (ks.zip ws)) _ _ _
  refine wpAny_call (codeAny_mono (F.run X.A X.stack s2 H2 ⟨[], ks.zip ws⟩ (g ws) (gV zs) Q E hr I2.env0 (hb.to s2 ws hl) r2 q2) fun z s' hq => ?_)
  cases z with
  | error e => exact hx pins σ H2 s2 e s' I2 hq
  | ok fl =>
    cases fl with
    | ret u => exact I2.after hq
    | next => cases hq
    | brk => cases hq
    | cont => cases hq
end
theorem kw_binds {K : PySem.W.Frag} {x qual : Str} {st : Stmt} {f : Addr} {fd : FuncData} {ps ks : List Str} {g : List Value → List Value} {gV : List V → List V} (F : Fun K x qual st f fd)
    (h : ∀ (kV doc pm : Value) (an : Option Addr) (cdv ct : Value) (ws : List Value), (g ws).length = ps.length →
      bindArgs (PySem.W.fnOf x qual (defArgs st) (defBody st) (defScope st) .none kV doc pm an cdv ct) ⟨[], ks.zip ws⟩ = pure (ps.zip (g ws)))
    (rel : ∀ {zs : List V} {ws : List Value}, Vals zs ws → Vals (gV zs) (g ws)) : KwBinds fd ps ks g gV := by
  obtain ⟨oc, od, kV, doc, pm, an, cdv, ct, osl, rfl, lk, hcd⟩ := F.ex
  exact ⟨fun s ws hl => .of_eq (h kV doc pm an cdv ct ws hl), rel⟩
/-- two keywords, in the other order -/
def swap2 {α : Type} : List α → List α
  | [a, b] => [b, a]
  | _ => []
theorem swap2_rel {zs : List V} {ws : List Value} (r : Vals zs ws) : Vals (swap2 zs) (swap2 ws) := by
  cases r with
  | nil => exact .nil
  | cons r1 r2 =>
    cases r2 with
    | nil => exact .nil
    | cons r3 r4 =>
      cases r4 with
      | nil => exact .cons r3 (.cons r1 .nil)
      | cons _ _ => exact .nil
/-! ### lines, as numbers -/
/-- row (false) or column (true) of a cell -/
def pick (b : Bool) (c : Cell) : Int := if b = true then c.2 else c.1
/-- the indexes below i of cells in line r -/
def idxs (b : Bool) (cs : List Cell) (i : Nat) (r : Int) : List Int := ((List.range i).filter fun j => decide ((cs[j]?).map (pick b) = some r)).map fun (j : Nat) => (j : Int)
theorem idxs_zero (b : Bool) (cs : List Cell) (r : Int) : idxs b cs 0 r = [] := rfl
theorem idxs_hit {b : Bool} {cs : List Cell} {i : Nat} {c : Cell} (h : cs[i]? = some c) : idxs b cs (i + 1) (pick b c) = idxs b cs i (pick b c) ++ [(i : Int)] := by
  unfold idxs
  rw [List.range_succ, List.filter_append, List.map_append]
  congr 1
  rw [List.filter_cons_of_pos (by simp [h])]
  rfl
theorem idxs_miss {b : Bool} {cs : List Cell} {i : Nat} {c : Cell} {r : Int} (h : cs[i]? = some c) (n : pick b c ≠ r) : idxs b cs (i + 1) r = idxs b cs i r := by
  unfold idxs
  rw [List.range_succ, List.filter_append, List.map_append]
  rw [List.filter_cons_of_neg (by simp [h, n])]
  simp
def lnsOf (b : Bool) (cs : List Cell) : List (List Int) := ((List.range 8).map fun (r : Nat) => idxs b cs cs.length (r : Int)).filter fun l => decide (l ≠ [])
theorem idxs_mem {b : Bool} {cs : List Cell} {i : Nat} {r x : Int} (h : x ∈ idxs b cs i r) : 0 ≤ x ∧ x < (i : Int) := by
  unfold idxs at h
  obtain ⟨j, hj, rfl⟩ := List.mem_map.mp h
  have := List.mem_range.mp (List.mem_filter.mp hj).1
  omega
theorem idxs_len (b : Bool) (cs : List Cell) (i : Nat) (r : Int) : (idxs b cs i r).length ≤ i := by
  unfold idxs
  rw [List.length_map]
  exact Nat.le_trans (List.length_filter_le _ _) (by simp)
theorem idxs_grid {b : Bool} {cs : List Cell} {i : Nat} {r : Int} (g : ∀ c ∈ cs, InGrid c) (h : idxs b cs i r ≠ []) : 0 ≤ r ∧ r < 8 := by
  cases e : idxs b cs i r with
  | nil => exact absurd e h
  | cons x l =>
    have hx : x ∈ idxs b cs i r := by
      rw [e]
      exact List.mem_cons_self
    unfold idxs at hx
    obtain ⟨j, hj, rfl⟩ := List.mem_map.mp hx
    have q := of_decide_eq_true (List.mem_filter.mp hj).2
    cases z : cs[j]? with
    | none =>
      rw [z] at q
      cases q
    | some c =>
      rw [z] at q
      have q' : pick b c = r := Option.some.inj q
      have gc := g c (List.mem_of_getElem? z)
      unfold pick at q'
      unfold InGrid at gc
      split at q' <;> omega
/-- two strictly ascending lists with the same members are one -/
theorem asc_ext : ∀ {l m : List Int}, l.Pairwise (· < ·) → m.Pairwise (· < ·) → (∀ x, x ∈ l ↔ x ∈ m) → l = m
  | [], [], _, _, _ => rfl
  | [], y :: m, _, _, h => absurd ((h y).mpr List.mem_cons_self) (by simp)
  | x :: l, [], _, _, h => absurd ((h x).mp List.mem_cons_self) (by simp)
  | x :: l, y :: m, h1, h2, h => by
    rw [List.pairwise_cons] at h1 h2
    have e : x = y := by
      rcases List.mem_cons.mp ((h x).mp List.mem_cons_self) with z | z
      · exact z
      · rcases List.mem_cons.mp ((h y).mpr List.mem_cons_self) with z2 | z2
        · exact z2.symm
        · have a := h2.1 x z
          have b := h1.1 y z2
          omega
    subst e
    congr 1
    refine asc_ext h1.2 h2.2 fun z => ⟨fun hz => ?_, fun hz => ?_⟩
    · rcases List.mem_cons.mp ((h z).mp (List.mem_cons_of_mem _ hz)) with e | e
      · have := h1.1 z hz
        omega
      · exact e
    · rcases List.mem_cons.mp ((h z).mpr (List.mem_cons_of_mem _ hz)) with e | e
      · have := h2.1 z hz
        omega
      · exact e
theorem strict_of {l : List Int} (h : l.Pairwise (· ≤ ·)) (n : l.Nodup) : l.Pairwise (· < ·) := by
  rw [List.nodup_iff_pairwise_ne] at n
  exact (h.and n).imp fun {a b} q => by omega
/-- the lines in use, by number -/
def usedOf (b : Bool) (cs : List Cell) : List Int := ((List.range 8).map fun (r : Nat) => (r : Int)).filter fun r => decide (idxs b cs cs.length r ≠ [])
theorem used_asc (b : Bool) (cs : List Cell) : (usedOf b cs).Pairwise (· < ·) := by
  unfold usedOf
  exact List.Pairwise.sublist List.filter_sublist (by decide)
theorem used_lines (b : Bool) (cs : List Cell) : (usedOf b cs).map (fun r => idxs b cs cs.length r) = lnsOf b cs := by
  unfold usedOf lnsOf
  rw [List.filter_map, List.filter_map, List.map_map]
  rfl
theorem used_mem {b : Bool} {cs : List Cell} (g : ∀ c ∈ cs, InGrid c) (r : Int) : r ∈ usedOf b cs ↔ idxs b cs cs.length r ≠ [] := by
  unfold usedOf
  rw [List.mem_filter]
  refine ⟨fun h => of_decide_eq_true h.2, fun h => ⟨?_, decide_eq_true h⟩⟩
  have := idxs_grid g h
  rw [List.mem_map]
  exact ⟨r.toNat, List.mem_range.mpr (by omega), by omega⟩
/-! ### lines, in the heap -/
def TupI (K : PySem.W.Frag) (H : Hp) (x : V) (l : List Int) : Prop := ∃ t, x = .ref t ∧ SqT K H t (l.map V.int)
def LstI (H : Hp) (x : V) (l : List Int) : Prop := ∃ t, x = .ref t ∧ H t = some (.lst (l.map V.int))
abbrev lineD (l : List Int) : PyData := .tuple (l.map PyData.int)
abbrev linesD (ls : List (List Int)) : PyData := .tuple (ls.map lineD)
theorem dp_ints {K : PySem.W.Frag} {H : Hp} : ∀ l : List Int, DpAll K H (l.map V.int) (l.map PyData.int)
  | [] => .nil
  | x :: l => .cons (.int x) (dp_ints l)
theorem dp_lines {K : PySem.W.Frag} {H : Hp} : ∀ {xs : List V} {ls : List (List Int)}, Paired (TupI K H) xs ls → DpAll K H xs (ls.map lineD)
  | _, _, .nil => .nil
  | _, _, .cons ⟨t, e, h⟩ r => by
    subst e
    exact .cons (.tup h (dp_ints _)) (dp_lines r)
theorem tupI_kt {K : PySem.W.Frag} {H H' : Hp} (k : KT K H H') {xs : List V} {ls : List (List Int)} (h : Paired (TupI K H) xs ls) : Paired (TupI K H') xs ls :=
  Paired.mono (fun _ _ ⟨t, e, q⟩ => ⟨t, e, k _ _ q⟩) h
def spIsKind : Sp := fun vs H Q _ => ∃ b : Bool, vs = [.str (if b = true then "C" else "R")] ∧ ∀ H', Same H H' → Q (.bl true) H'
def spKind : Sp := fun vs H Q _ => ∃ b : Bool, vs = [.str (if b = true then "C" else "R")] ∧ ∀ H', Same H H' → Q .non H'
def spLines (K : PySem.W.Frag) : Sp := fun vs H Q _ => ∃ (a : Addr) (b : Bool) (cs : List Cell), vs = [.ref a, .str (if b = true then "C" else "R")] ∧ PlanAt K H a cs ∧ Good cs ∧ cs.length ≤ 24 ∧
  ∀ H' p xs, Same H H' → SqT K H' p xs → Paired (TupI K H') xs (lnsOf b cs) → Q (.ref p) H'
def spLawLines (K : PySem.W.Frag) : Sp := fun vs H Q _ => ∃ (a : Addr) (b : Bool) (cs : List Cell), vs = [.ref a, .str (if b = true then "C" else "R")] ∧ PlanAt K H a cs ∧ cs.length ≤ 24 ∧
  ∀ H' p xs, Same H H' → H' p = some (.lst xs) → Paired (LstI H') xs (lnsOf b cs) → Q (.ref p) H'
end KS
namespace KS
open PySem PySem.Spec PyProof.Rows L2
/-- 0 if kind == "R" else 1 -/
theorem side_ok {b : Bool} {σ : L2.St} {H : Hp} {Q : VK} (hσ : σ[1]? = some (some (.str (if b = true then "C" else "R")))) (k : Q (.int (if b = true then 1 else 0)) H) :
    tIf (tTest (tOp rEq (tVar 1) (tC (.str "R")))) (tC (.int 0)) (tC (.int 1)) σ H Q := by
  refine ⟨_, hσ, by cases b <;> rfl, _, rfl, ?_⟩
  cases b
  · rw [if_pos (by decide +kernel)]
    exact k
  · rw [if_neg (by decide +kernel)]
    exact k
theorem at_pick {b : Bool} {c : Cell} : atI [V.int c.1, V.int c.2] (if b = true then 1 else 0) = some (V.int (pick b c)) := by
  cases b <;> rfl
/-- the dict of lines behind i cells -/
structure Grp (b : Bool) (cs : List Cell) (i : Nat) (d : Addr) (kvs : List (Key × V)) (ad : Int → Addr) (H : Hp) : Prop where
  dict : H d = some (.dK kvs)
  keys : ∃ ks : List Int, kvs.map (·.1) = ks.map Sum.inl ∧ ks.Nodup ∧ ks.length ≤ i
  val : ∀ r : Int, valV kvs (.inl r) = if idxs b cs i r = [] then none else some (.ref (ad r))
  lst : ∀ r : Int, idxs b cs i r ≠ [] → H (ad r) = some (.lst ((idxs b cs i r).map V.int))
  inj : ∀ r r' : Int, idxs b cs i r ≠ [] → idxs b cs i r' ≠ [] → ad r = ad r' → r = r'
theorem Grp.same {b : Bool} {cs : List Cell} {i : Nat} {d : Addr} {kvs : List (Key × V)} {ad : Int → Addr} {H H' : Hp} (g : Grp b cs i d kvs ad H) (s : Same H H') : Grp b cs i d kvs ad H' :=
  ⟨s _ _ g.dict, g.keys, g.val, fun r h => s _ _ (g.lst r h), g.inj⟩
theorem Grp.more {b : Bool} {cs : List Cell} {i : Nat} {d : Addr} {kvs : List (Key × V)} {ad : Int → Addr} {H : Hp} {c : Cell} (g : Grp b cs i d kvs ad H) (hc : cs[i]? = some c) (h : idxs b cs i (pick b c) ≠ []) :
    Grp b cs (i + 1) d kvs ad (upd H (ad (pick b c)) (.lst ((idxs b cs i (pick b c)).map V.int ++ [.int (i : Nat)]))) := by
  have same : ∀ r, (idxs b cs (i + 1) r = []) ↔ (idxs b cs i r = []) := fun r => by
    by_cases e : pick b c = r
    · subst e
      rw [idxs_hit hc]
      simp [h]
    · rw [idxs_miss hc e]
  have hd : d ≠ ad (pick b c) := ne_of g.dict (g.lst _ h) (by intro z; cases z)
  obtain ⟨ks, k1, k2, k3⟩ := g.keys
  refine ⟨by rw [upd_ne hd]; exact g.dict, ⟨ks, k1, k2, by omega⟩, fun r => ?_, fun r hr => ?_, fun r r' h1 h2 => g.inj r r' (fun z => h1 ((same r).mpr z)) (fun z => h2 ((same r').mpr z))⟩
  · rw [g.val r]
    by_cases e : idxs b cs i r = []
    · rw [if_pos e, if_pos ((same r).mpr e)]
    · rw [if_neg e, if_neg (fun z => e ((same r).mp z))]
  · have hr' : idxs b cs i r ≠ [] := fun z => hr ((same r).mpr z)
    by_cases e : pick b c = r
    · subst e
      rw [upd_same, idxs_hit hc, List.map_append]
      rfl
    · rw [upd_ne (fun z => e (g.inj _ _ h hr' z.symm)), idxs_miss hc e]
      exact g.lst r hr'
theorem Grp.new {b : Bool} {cs : List Cell} {i : Nat} {d z : Addr} {kvs : List (Key × V)} {ad : Int → Addr} {H : Hp} {c : Cell} (g : Grp b cs i d kvs ad H) (hc : cs[i]? = some c) (h : idxs b cs i (pick b c) = []) (nz : H z = none) :
    Grp b cs (i + 1) d (putK kvs (.inl (pick b c)) (.ref z)) (fun r => if r = pick b c then z else ad r) (upd (upd (upd H z (.lst [])) d (.dK (putK kvs (.inl (pick b c)) (.ref z)))) z (.lst ([] ++ [.int (i : Nat)]))) := by
  have hv : valV kvs (.inl (pick b c)) = none := by
    rw [g.val, if_pos h]
  have hdz : d ≠ z := ne_of_none g.dict nz
  have hput : putK kvs (Sum.inl (pick b c)) (V.ref z) = kvs ++ [(Sum.inl (pick b c), V.ref z)] := by
    unfold putK
    rw [if_neg]
    rw [valV_any, hv]
    simp
  have hit : idxs b cs (i + 1) (pick b c) = [(i : Int)] := by
    rw [idxs_hit hc, h]
    rfl
  obtain ⟨ks, k1, k2, k3⟩ := g.keys
  refine ⟨?_, ⟨ks ++ [pick b c], ?_, ?_, ?_⟩, fun r => ?_, fun r hr => ?_, fun r r' h1 h2 => ?_⟩
  · rw [upd_ne hdz, upd_same]
  · rw [hput, List.map_append, List.map_append, k1]
    rfl
  · rw [List.nodup_append]
    refine ⟨k2, by simp, fun x hx y hy e => ?_⟩
    rw [List.mem_singleton] at hy
    subst hy
    subst e
    apply valV_not hv
    rw [k1]
    exact List.mem_map.mpr ⟨_, hx, rfl⟩
  · rw [List.length_append]
    simp
    omega
  · rw [valV_put]
    by_cases e : r = pick b c
    · subst e
      rw [if_pos rfl, hit, if_neg (by simp), if_pos rfl]
    · rw [if_neg (fun q => e (Sum.inl.inj q)), g.val, idxs_miss hc (Ne.symm e), if_neg e]
  · by_cases e : r = pick b c
    · subst e
      show upd _ _ _ (if _ then z else _) = _
      rw [if_pos rfl, upd_same, hit]
      rfl
    · show upd _ _ _ (if _ then z else _) = _
      rw [if_neg e]
      rw [idxs_miss hc (Ne.symm e)] at hr ⊢
      have hl := g.lst r hr
      rw [upd_ne (ne_of_none hl nz), upd_ne (ne_of hl g.dict (by intro q; cases q)), upd_ne (ne_of_none hl nz)]
      exact hl
  · intro e
    by_cases e1 : r = pick b c
    · by_cases e2 : r' = pick b c
      · rw [e1, e2]
      · have e' : (if r = pick b c then z else ad r) = (if r' = pick b c then z else ad r') := e
        rw [if_pos e1, if_neg e2] at e'
        rw [idxs_miss hc (Ne.symm e2)] at h2
        have := g.lst r' h2
        rw [← e', nz] at this
        cases this
    · have e' : (if r = pick b c then z else ad r) = (if r' = pick b c then z else ad r') := e
      rw [idxs_miss hc (Ne.symm e1)] at h1
      by_cases e2 : r' = pick b c
      · rw [if_neg e1, if_pos e2] at e'
        have := g.lst r h1
        rw [e', nz] at this
        cases this
      · rw [if_neg e1, if_neg e2] at e'
        rw [idxs_miss hc (Ne.symm e2)] at h2
        exact g.inj r r' h1 h2 e'
/-- the sorted keys are the lines in use -/
theorem Grp.used {b : Bool} {cs : List Cell} {d : Addr} {kvs : List (Key × V)} {ad : Int → Addr} {H : Hp} {ks ys : List Int} (g : Grp b cs cs.length d kvs ad H) (gr : ∀ c ∈ cs, InGrid c) (e : kvs.map (·.1) = ks.map Sum.inl) (n : ks.Nodup) (p : ys.Perm ks) (s : ys.Pairwise (· ≤ ·)) : ys = usedOf b cs := by
  refine asc_ext (strict_of s (p.nodup_iff.mpr n)) (used_asc b cs) fun r => ?_
  rw [p.mem_iff, used_mem gr]
  have key : r ∈ ks ↔ (Sum.inl r : Key) ∈ kvs.map (·.1) := by
    rw [e, List.mem_map]
    exact ⟨fun h => ⟨r, h, rfl⟩, fun ⟨x, hx, q⟩ => by cases q; exact hx⟩
  rw [key]
  constructor
  · intro h z
    have hv : valV kvs (.inl r) = none := by rw [g.val, if_pos z]
    exact valV_not hv h
  · intro h
    exact valV_in (v := .ref (ad r)) (by rw [g.val, if_neg h])
end KS
namespace KS
open PySem PySem.Spec PyProof.Rows L2
theorem ints_lay : ∀ l : List Int, PyData.canLayAll0 (l.map PyData.int) = true ∧ PyData.depthAll (l.map PyData.int) = 0
  | [] => ⟨by simp only [List.map_nil, PyData.canLayAll0], by simp only [List.map_nil, PyData.depthAll]⟩
  | x :: l => by
    obtain ⟨h1, h2⟩ := ints_lay l
    simp only [List.map_cons, PyData.canLayAll0, PyData.depthAll, PyData.canLay0, PyData.depth, h1, h2, Bool.and_self, Nat.max_self, and_self]
theorem ints_shaped (l : List Int) : SeqAt.shaped (.list (l.map PyData.int)) = true := by
  obtain ⟨h1, h2⟩ := ints_lay l
  unfold SeqAt.shaped
  simp only [PyData.canLay0, PyData.depth, h1, h2]
  decide
theorem ints_eqv_nil (l : List Int) : PyData.eqv (.list (l.map PyData.int)) (.list []) = l.isEmpty := by
  cases l with
  | nil => decide
  | cons x l => rfl
theorem kind_test (b : Bool) : decide (V.str (if b = true then "C" else "R") = V.str "C") = b := by
  cases b <;> decide +kernel
/-- the lines below r that are in use -/
def lnsTo (b : Bool) (cs : List Cell) (r : Nat) : List (List Int) := ((List.range r).map fun (r : Nat) => idxs b cs cs.length (r : Int)).filter fun l => decide (l ≠ [])
theorem lnsTo_hit {b : Bool} {cs : List Cell} {r : Nat} (h : idxs b cs cs.length (r : Int) ≠ []) : lnsTo b cs (r + 1) = lnsTo b cs r ++ [idxs b cs cs.length (r : Int)] := by
  unfold lnsTo
  rw [List.range_succ, List.map_append, List.filter_append]
  congr 1
  rw [List.map_cons, List.filter_cons_of_pos (by simpa using h)]
  rfl
theorem lnsTo_miss {b : Bool} {cs : List Cell} {r : Nat} (h : idxs b cs cs.length (r : Int) = []) : lnsTo b cs (r + 1) = lnsTo b cs r := by
  unfold lnsTo
  rw [List.range_succ, List.map_append, List.filter_append, List.map_cons, List.filter_cons_of_neg (by simp [h])]
  simp
theorem lnsTo_len (b : Bool) (cs : List Cell) (r : Nat) : (lnsTo b cs r).length ≤ r := by
  unfold lnsTo
  exact Nat.le_trans (List.length_filter_le _ _) (by simp)
end KS
namespace KS
open PySem PySem.Spec PyProof.Rows L2
/-! ### small data can be shown -/
theorem small_int {x : Int} (h0 : 0 ≤ x) (h1 : x < 10000) : PyData.leavesShort 8 (.int x) = true ∧ PyData.showable (.int x) = true ∧ PyData.weight (.int x) ≤ 14 := by
  obtain ⟨n, rfl⟩ := Int.eq_ofNat_of_zero_le h0
  have hn : n < 10000 := by omega
  have hlog : n.log2 < 14 := by
    rcases Nat.eq_zero_or_pos n with z | z
    · subst z
      decide
    · exact (Nat.log2_lt (by omega)).mpr (by omega)
  refine ⟨?_, ?_, ?_⟩
  · simp only [PyData.leavesShort]
    exact decide_eq_true (by
      simp only [PyData.shown]
      exact toString_length_le (k := 8) (by omega) (by decide) (by show (n : Int) < 10 ^ 8; omega))
  · simp only [PyData.showable]
    exact decide_eq_true (by show n.log2 < 1920; omega)
  · simp only [PyData.weight]
    split
    · omega
    · show n.log2 + 1 ≤ 14
      omega
/-- what repr asks of its data -/
structure Shows (d : PyData) (n : Nat) : Prop where
  short : d.leavesShort 8 = true
  show_ : d.showable = true
  nod : d.hasDict = false
  wt : d.weight ≤ n
structure ShowsAll (ds : List PyData) (n : Nat) : Prop where
  short : PyData.leavesShortAll 8 ds = true
  show_ : PyData.showableAll ds = true
  nod : PyData.hasDictAll ds = false
  wt : PyData.weightAll ds ≤ (n + 1) * ds.length
theorem showsAll_of {n : Nat} : ∀ {ds : List PyData}, (∀ d ∈ ds, Shows d n) → ShowsAll ds n
  | [], _ => ⟨by simp only [PyData.leavesShortAll], by simp only [PyData.showableAll], by simp only [PyData.hasDictAll], by simp [PyData.weightAll]⟩
  | d :: ds, h => by
    have h1 := h d List.mem_cons_self
    have h2 := showsAll_of fun x hx => h x (List.mem_cons_of_mem _ hx)
    refine ⟨?_, ?_, ?_, ?_⟩
    · simp only [PyData.leavesShortAll, h1.short, h2.short, Bool.and_self]
    · simp only [PyData.showableAll, h1.show_, h2.show_, Bool.and_self]
    · simp only [PyData.hasDictAll, h1.nod, h2.nod, Bool.or_self]
    · simp only [PyData.weightAll, List.length_cons]
      have a := h1.wt
      have b := h2.wt
      rw [Nat.mul_add, Nat.mul_one]
      omega
theorem shows_tuple {n m : Nat} {ds : List PyData} (h : ShowsAll ds n) (hm : (n + 1) * ds.length ≤ m) : Shows (.tuple ds) m := by
  refine ⟨?_, ?_, ?_, ?_⟩
  · simp only [PyData.leavesShort, h.short]
  · simp only [PyData.showable, h.show_]
  · simp only [PyData.hasDict, h.nod]
  · simp only [PyData.weight]
    exact Nat.le_trans h.wt hm
theorem shows_int {x : Int} (h0 : 0 ≤ x) (h1 : x < 10000) : Shows (.int x) 14 := by
  obtain ⟨a, b, c⟩ := small_int h0 h1
  exact ⟨a, b, by simp only [PyData.hasDict], c⟩
theorem Shows.len {d : PyData} {n : Nat} (h : Shows d n) (hn : n ≤ 1048576) : d.shown.length ≤ sizeLine :=
  PyData.shown_fits (B := 8) (by decide) (by decide) h.short (Nat.le_trans h.wt (by
    show n ≤ 2 ^ 20
    have : (2 : Nat) ^ 20 = 1048576 := by decide
    omega))
theorem shows_line {l : List Int} (h : ∀ x ∈ l, 0 ≤ x ∧ x < 10000) (hl : l.length ≤ 64) : Shows (lineD l) 960 := by
  refine shows_tuple (n := 14) (showsAll_of fun d hd => ?_) ?_
  · obtain ⟨x, hx, rfl⟩ := List.mem_map.mp hd
    exact shows_int (h x hx).1 (h x hx).2
  · rw [List.length_map]
    omega
theorem shows_lines {ls : List (List Int)} (h : ∀ l ∈ ls, (∀ x ∈ l, 0 ≤ x ∧ x < 10000) ∧ l.length ≤ 64) (hl : ls.length ≤ 64) : Shows (linesD ls) 61504 := by
  refine shows_tuple (n := 960) (showsAll_of fun d hd => ?_) ?_
  · obtain ⟨l, hx, rfl⟩ := List.mem_map.mp hd
    exact shows_line (h l hx).1 (h l hx).2
  · rw [List.length_map]
    omega
theorem depth_line (l : List Int) : (lineD l).depth = 1 := by
  simp only [PyData.depth, (ints_lay l).2]
theorem depth_lines : ∀ ls : List (List Int), PyData.depthAll (ls.map lineD) ≤ 1
  | [] => by simp [PyData.depthAll]
  | l :: ls => by
    have a := depth_lines ls
    have b := depth_line l
    simp only [List.map_cons, PyData.depthAll]
    omega
theorem lns_small {b : Bool} {cs : List Cell} (hl : cs.length ≤ 24) : Shows (linesD (lnsOf b cs)) 61504 ∧ (linesD (lnsOf b cs)).depth ≤ 64 := by
  refine ⟨shows_lines (fun l h => ?_) ?_, ?_⟩
  · unfold lnsOf at h
    obtain ⟨r, _, rfl⟩ := List.mem_map.mp (List.mem_filter.mp h).1
    refine ⟨fun x hx => ?_, ?_⟩
    · have := idxs_mem hx
      omega
    · have := idxs_len b cs cs.length (r : Int)
      omega
  · have : (lnsOf b cs).length ≤ 8 := lnsTo_len b cs 8
    omega
  · have := depth_lines (lnsOf b cs)
    simp only [PyData.depth]
    omega
/-! ### sorted cells -/
def keyOf (H : Hp) : V → Int × Int
  | .ref t => match H t with
    | some (.tup [.int i, .int j]) => (i, j)
    | _ => (0, 0)
  | _ => (0, 0)
theorem keyOf_at {H : Hp} {t : Addr} {i j : Int} (h : H t = some (.tup [.int i, .int j])) : keyOf H (.ref t) = (i, j) := by
  show (match H t with
    | some (.tup [.int i, .int j]) => ((i, j) : Int × Int)
    | _ => (0, 0)) = (i, j)
  rw [h]
theorem nodup_of_asc {cs : List Cell} (h : cs.Pairwise lt2) : cs.Nodup := by
  rw [List.nodup_iff_pairwise_ne]
  refine h.imp fun {a b} q e => ?_
  subst e
  rcases q with q | q <;> omega
/-- new cells, in a list -/
def NewCells (H : Hp) : List V → List Cell → Prop := Paired fun x c => ∃ t, x = .ref t ∧ H t = some (.tup [.int c.1, .int c.2])
theorem newCells_mono {H H' : Hp} (k : ∀ t ys, H t = some (.tup ys) → H' t = some (.tup ys)) {xs : List V} {cs : List Cell} (h : NewCells H xs cs) : NewCells H' xs cs :=
  Paired.mono (fun _ _ ⟨t, e, q⟩ => ⟨t, e, k _ _ q⟩) h
theorem newCells_key {H : Hp} : ∀ {xs : List V} {cs : List Cell}, NewCells H xs cs → xs.map (keyOf H) = cs
  | _, _, .nil => rfl
  | _, _, .cons ⟨t, e, h⟩ r => by
    subst e
    rw [List.map_cons, keyOf_at h, newCells_key r]
theorem newCells_mem {H : Hp} : ∀ {xs : List V} {cs : List Cell}, NewCells H xs cs → ∀ x ∈ xs, ∃ t, x = .ref t ∧ H t = some (.tup [.int (keyOf H x).1, .int (keyOf H x).2])
  | _, _, .nil, _, h => nomatch h
  | _, _, .cons ⟨t, e, h⟩ r, x, hx => by
    rcases List.mem_cons.mp hx with z | z
    · subst z
      subst e
      exact ⟨t, rfl, by rw [keyOf_at h]; exact h⟩
    · exact newCells_mem r x z
theorem cells_of_mem {K : PySem.W.Frag} {H : Hp} : ∀ {ys : List V}, (∀ x ∈ ys, ∃ t, x = .ref t ∧ H t = some (.tup [.int (keyOf H x).1, .int (keyOf H x).2])) → CellsAt K H ys (ys.map (keyOf H))
  | [], _ => .nil
  | y :: ys, h => by
    obtain ⟨t, e, q⟩ := h y List.mem_cons_self
    exact .cons ⟨t, e, SqT.of q⟩ (cells_of_mem fun x hx => h x (List.mem_cons_of_mem _ hx))
/-- sorted of new cells, all different: they ascend -/
theorem sorted_cells {K : PySem.W.Frag} {H : Hp} {xs ys : List V} {cs : List Cell} (h : NewCells H xs cs) (nd : cs.Nodup) (hs : SrtO.Srtd (ltP (keyOf H)) ys) (hp : ys.Perm xs) :
    CellsAt K H ys (ys.map (keyOf H)) ∧ (ys.map (keyOf H)).Perm cs ∧ (ys.map (keyOf H)).Pairwise lt2 := by
  have p1 : (ys.map (keyOf H)).Perm cs := by
    rw [← newCells_key h]
    exact hp.map _
  refine ⟨cells_of_mem fun x hx => newCells_mem h x (hp.mem_iff.mp hx), p1, ?_⟩
  have n1 : (ys.map (keyOf H)).Nodup := p1.nodup_iff.mpr nd
  have s1 : (ys.map (keyOf H)).Pairwise fun a b => SrtO.lexB b a = false := by
    rw [List.pairwise_map]
    exact hs
  rw [List.nodup_iff_pairwise_ne] at n1
  refine (s1.and n1).imp fun {a b} q => ?_
  obtain ⟨q1, q2⟩ := q
  have q3 : ¬ (b.1 < a.1 ∨ (b.1 = a.1 ∧ b.2 < a.2)) := fun z => by
    rw [SrtO.lexB_iff.mpr z] at q1
    cases q1
  by_cases e1 : a.1 < b.1
  · exact .inl e1
  · by_cases e2 : a.1 = b.1
    · refine .inr ⟨e2, ?_⟩
      by_cases e3 : a.2 = b.2
      · exact absurd (Prod.ext e2 e3) q2
      · have : ¬ b.2 < a.2 := fun z => q3 (.inr ⟨e2.symm, z⟩)
        omega
    · exact absurd (.inl (by omega)) q3
def mir (c : Cell) : Cell := (c.1, 7 - c.2)
theorem nodup_mir {cs : List Cell} (h : cs.Nodup) : (cs.map mir).Nodup := by
  rw [List.nodup_iff_pairwise_ne] at h ⊢
  rw [List.pairwise_map]
  refine h.imp fun {a b} q e => q ?_
  have e0 : ((a.1, 7 - a.2) : Int × Int) = (b.1, 7 - b.2) := e
  injection e0 with e1 e2
  exact Prod.ext e1 (by omega)
theorem good_mir {cs ds : List Cell} (g : Good cs) (p : ds.Perm (cs.map mir)) (a : ds.Pairwise lt2) : Good ds ∧ ds.length = cs.length := by
  have hl : ds.length = cs.length := by rw [p.length_eq, List.length_map]
  refine ⟨⟨a, fun d hd => ?_, fun z => ?_⟩, hl⟩
  · obtain ⟨c, hc, rfl⟩ := List.mem_map.mp (p.mem_iff.mp hd)
    have := g.grid c hc
    unfold InGrid at this ⊢
    show 0 ≤ c.1 ∧ c.1 ≤ 7 ∧ 0 ≤ 7 - c.2 ∧ 7 - c.2 ≤ 7
    omega
  · rw [z] at hl
    exact g.ne (List.eq_nil_of_length_eq_zero hl.symm)
def spRight : Sp := fun vs H Q _ => ∃ p : Addr, vs = [.ref p] ∧ PoolO (H p) ∧ ∀ H', KeepX p H H' → Q (.bl true) H'
def spLaw (K : PySem.W.Frag) : Sp := fun vs H Q _ => ∃ (a : Addr) (ns : List Int), vs = [.ref a] ∧ SqL K H a (ns.map V.int) ∧ ns.length ≤ 63 ∧ ∀ H', Q (.bl true) H'
end KS
namespace KS
open PySem PySem.Spec PyProof.Rows L2
/-! ### a sort of lines, as mathematics -/
def sortI (l : List Int) : List Int := l.mergeSort (fun a b => decide (a ≤ b))
theorem sortI_perm (l : List Int) : (sortI l).Perm l := List.mergeSort_perm _ _
theorem sortI_asc (l : List Int) : (sortI l).Pairwise (· ≤ ·) := by
  have h := List.pairwise_mergeSort (le := fun (a b : Int) => decide (a ≤ b)) (by
    intro a b c h1 h2
    have h1 := of_decide_eq_true h1
    have h2 := of_decide_eq_true h2
    exact decide_eq_true (by omega)) (by
    intro a b
    rw [Bool.or_eq_true, decide_eq_true_eq, decide_eq_true_eq]
    omega) l
  exact h.imp fun z => of_decide_eq_true z
theorem sortI_eq {l m : List Int} (p : m.Perm l) (a : m.Pairwise (· ≤ ·)) : m = sortI l :=
  List.Perm.eq_of_pairwise (fun x y _ _ h1 h2 => by omega) a (sortI_asc l) (p.trans (sortI_perm l).symm)
theorem sortI_len (l : List Int) : (sortI l).length = l.length := (sortI_perm l).length_eq
def getI (vs : List Int) (k : Int) : Int := vs.getD k.toNat 0
def putZ (acc : List Int) (zs : List (Int × Int)) : List Int := zs.foldl (fun a z => a.set z.1.toNat z.2) acc
theorem putZ_len (zs : List (Int × Int)) : ∀ acc, (putZ acc zs).length = acc.length := by
  induction zs with
  | nil => intro acc; rfl
  | cons z zs ih =>
    intro acc
    show (putZ (acc.set z.1.toNat z.2) zs).length = _
    rw [ih, List.length_set]
theorem putZ_more (acc : List Int) (zs : List (Int × Int)) (z : Int × Int) : putZ acc (zs ++ [z]) = (putZ acc zs).set z.1.toNat z.2 := by
  unfold putZ
  rw [List.foldl_append]
  rfl
def srtL (vs acc : List Int) (l : List Int) : List Int := putZ acc (l.zip (sortI (l.map (getI vs))))
def srtTo (vs : List Int) (ls : List (List Int)) : List Int := ls.foldl (srtL vs) vs
/-- the values after a sort of this kind -/
def srt (b : Bool) (cs : List Cell) (vs : List Int) : List Int := srtTo vs (lnsOf b cs)
theorem srtTo_more (vs : List Int) (ls : List (List Int)) (l : List Int) : srtTo vs (ls ++ [l]) = srtL vs (srtTo vs ls) l := by
  unfold srtTo
  rw [List.foldl_append]
  rfl
theorem srtL_len (vs acc l : List Int) : (srtL vs acc l).length = acc.length := putZ_len _ _
theorem foldl_len {f : List Int → List Int → List Int} (h : ∀ a l, (f a l).length = a.length) : ∀ (ls : List (List Int)) (a : List Int), (ls.foldl f a).length = a.length
  | [], _ => rfl
  | l :: ls, a => by
    show (ls.foldl f (f a l)).length = _
    rw [foldl_len h ls, h]
theorem srtTo_len (vs : List Int) (ls : List (List Int)) : (srtTo vs ls).length = vs.length := foldl_len (srtL_len vs) ls vs
theorem srt_len (b : Bool) (cs : List Cell) (vs : List Int) : (srt b cs vs).length = vs.length := srtTo_len _ _
theorem idxs_nat {b : Bool} {cs : List Cell} {i : Nat} {r k : Int} (h : k ∈ idxs b cs i r) : ∃ j : Nat, k = (j : Int) ∧ j < i := by
  unfold idxs at h
  obtain ⟨j, hj, rfl⟩ := List.mem_map.mp h
  exact ⟨j, rfl, List.mem_range.mp (List.mem_filter.mp hj).1⟩
theorem lns_mem {b : Bool} {cs : List Cell} {l : List Int} (h : l ∈ lnsOf b cs) : (∀ k ∈ l, ∃ j : Nat, k = (j : Int) ∧ j < cs.length) ∧ l.length ≤ cs.length := by
  unfold lnsOf at h
  obtain ⟨r, _, rfl⟩ := List.mem_map.mp (List.mem_filter.mp h).1
  exact ⟨fun k hk => idxs_nat hk, idxs_len _ _ _ _⟩
theorem getI_at {vs : List Int} {j : Nat} (h : j < vs.length) : (vs.map V.int)[j]? = some (.int (getI vs (j : Int))) := by
  unfold getI
  rw [List.getElem?_map, Int.toNat_natCast, List.getD_eq_getElem?_getD, List.getElem?_eq_getElem h]
  rfl
theorem ixN_at {n j : Nat} (h : j < n) : ixN n (j : Int) = some j := by
  unfold ixN
  rw [if_pos (by omega), if_pos (by omega), Int.toNat_natCast]
/-- the law's own sort: of a tuple of whole numbers -/
def spLSorted (K : PySem.W.Frag) : Sp := fun xs H Q _ => ∃ (a t : Addr) (b : Bool) (cs : List Cell) (vs : List Int), xs = [.ref a, .ref t, .str (if b = true then "C" else "R")] ∧ PlanAt K H a cs ∧ cs.length ≤ 24 ∧
  SqT K H t (vs.map V.int) ∧ vs.length = cs.length ∧ ∀ H' u, Same H H' → SqT K H' u ((srt b cs vs).map V.int) → H u = none → Q (.ref u) H'
end KS
namespace KS
open PySem PySem.Spec PyProof.Rows L2
theorem ints_eqvAll : ∀ l m : List Int, PyData.eqvAll (l.map PyData.int) (m.map PyData.int) = decide (l = m)
  | [], [] => by simp [PyData.eqvAll]
  | [], _ :: _ => by simp [PyData.eqvAll]
  | _ :: _, [] => by simp [PyData.eqvAll]
  | x :: l, y :: m => by
    have h : PyData.eqvAll ((x :: l).map PyData.int) ((y :: m).map PyData.int) = (x == y && PyData.eqvAll (l.map PyData.int) (m.map PyData.int)) := by
      simp only [List.map_cons, PyData.eqvAll, PyData.eqv]
    rw [h, ints_eqvAll l m]
    by_cases e : x = y <;> by_cases e2 : l = m <;> simp [e, e2]
theorem ints_eqvL (l m : List Int) : PyData.eqv (.list (l.map PyData.int)) (.list (m.map PyData.int)) = decide (l = m) := by
  have h : PyData.eqv (.list (l.map PyData.int)) (.list (m.map PyData.int)) = PyData.eqvAll (l.map PyData.int) (m.map PyData.int) := by simp only [PyData.eqv]
  rw [h, ints_eqvAll]
theorem ints_eqvT (l m : List Int) : PyData.eqv (.tuple (l.map PyData.int)) (.tuple (m.map PyData.int)) = decide (l = m) := by
  have h : PyData.eqv (.tuple (l.map PyData.int)) (.tuple (m.map PyData.int)) = PyData.eqvAll (l.map PyData.int) (m.map PyData.int) := by simp only [PyData.eqv]
  rw [h, ints_eqvAll]
/-- whether the values of a line ascend -/
def upL (vs l : List Int) : Bool := decide (l.map (getI vs) = sortI (l.map (getI vs)))
/-- whether each line of the kind ascends -/
def rises (b : Bool) (cs : List Cell) (vs : List Int) : Bool := (lnsOf b cs).all (upL vs)
def spLRises (K : PySem.W.Frag) : Sp := fun xs H Q _ => ∃ (a t : Addr) (b : Bool) (cs : List Cell) (vs : List Int), xs = [.ref a, .ref t, .str (if b = true then "C" else "R")] ∧ PlanAt K H a cs ∧ cs.length ≤ 24 ∧
  SqT K H t (vs.map V.int) ∧ vs.length = cs.length ∧ ∀ H', Same H H' → Q (.bl (rises b cs vs)) H'
/-- the law's own words: the sorts of the letters, from left to right -/
def kindS (b : Bool) : Str := if b = true then "C" else "R"
def aft (cs : List Cell) (w : List Bool) (vs : List Int) : List Int := w.foldl (fun a b => srt b cs a) vs
theorem aft_len (cs : List Cell) : ∀ (w : List Bool) (vs : List Int), (aft cs w vs).length = vs.length
  | [], _ => rfl
  | b :: w, vs => by
    show (aft cs w (srt b cs vs)).length = _
    rw [aft_len cs w, srt_len]
theorem aft_more (cs : List Cell) (w : List Bool) (b : Bool) (vs : List Int) : aft cs (w ++ [b]) vs = srt b cs (aft cs w vs) := by
  unfold aft
  rw [List.foldl_append]
  rfl
end KS
namespace KS
open PySem PySem.Spec PyProof.Rows L2
/-- the values of a line, a new list -/
theorem pick_line {K : PySem.W.Frag} {t' : Addr} {σ : L2.St} {H : Hp} {Q : VK} {vs l : List Int} {i1 i2 i3 : Nat} {tt : Addr} (h1 : σ[i1]? = some (some (.ref t'))) (h2 : σ[i2]? = some (some (.ref tt))) (hlt : H t' = some (.lst (l.map V.int))) (ht : SqT K H tt (vs.map V.int))
    (hm : ∀ k ∈ l, ∃ j : Nat, k = (j : Int) ∧ j < vs.length) (hl : l.length ≤ 24) (h3 : i3 < σ.length) (h13 : i2 ≠ i3)
    (k : ∀ D, H D = none → Q (.ref D) (upd H D (.lst ((l.map (getI vs)).map V.int)))) :
    tLc (iList K (tVar i1)) (gName i3) tYes (tOp (rIxT K) (tVar i2) (tVar i3)) [i3] σ H Q := by
  refine ⟨_, h1, t', rfl, ⟨_, SqL.of hlt⟩, fun D nD => ?_⟩
  have ntD : t' ≠ D := ne_of_none hlt nD
  refine lc_list (K := K) (a := t') (xs := l.map V.int) (fun j G => G = upd H D (.lst (((l.take j).map (getI vs)).map V.int))) ?_ ?_ ?_ ?_
  · rfl
  · rintro j G _ rfl
    exact SqL.of (by rw [upd_ne ntD]; exact hlt)
  · rintro j x G hj rfl
    rw [List.getElem?_map] at hj
    cases ev : l[j]? with
    | none =>
      rw [ev] at hj
      cases hj
    | some k =>
      rw [ev] at hj
      cases hj
      obtain ⟨j', rfl, hj'⟩ := hm k (List.mem_of_getElem? ev)
      refine ⟨?_, .ref tt, ?_, .int (j' : Int), ?_, tt, _, _, .int (getI vs (j' : Int)), rfl, rfl, same_seqT (same_new nD) ht, atI_nat (getI_at hj'), _, upd_same, ?_, ?_⟩
      · show ((σ.set i3 none).set i3 _).set i3 none = σ.set i3 none
        rw [List.set_set, List.set_set]
      · show ((σ.set i3 none).set i3 _)[i2]? = _
        rw [List.set_set, List.getElem?_set_ne (Ne.symm h13)]
        exact h2
      · show ((σ.set i3 none).set i3 _)[i3]? = _
        rw [List.set_set, List.getElem?_set_self h3]
      · rw [List.length_map, List.length_map, List.length_take]
        exact small64 (by omega)
      · rw [upd_upd, List.take_add_one, ev, List.map_append, List.map_append]
        rfl
  · rintro G rfl
    rw [List.length_map, List.take_length]
    exact k D nD
end KS
namespace KS
open PySem PySem.Spec PyProof.Rows L2
theorem rd_ifNe {K : PySem.W.Frag} {ta tb : TE} {t u : TS} {D : Ends} {σ : L2.St} {H : Hp} (h : ta σ H fun x H1 => tb σ H1 fun y H2 => rNeD K x y H2 fun v H3 => ∃ k, v = .bl k ∧ if k = true then t D σ H3 else u D σ H3) :
    tIfS (tTest (tOp (rNeD K) ta tb)) t u D σ H := h
theorem rd_cb1 {r : List V → Hp → VK → Prop} {ta : TE} {σ : L2.St} {H : Hp} {Q : VK} (h : ta σ H fun x H1 => r [x] H1 Q) : tCB r (tCons ta tNil) σ H Q := h
theorem up_if {K : PySem.W.Frag} {t' : Addr} {σ : L2.St} {H : Hp} {vs l : List Int} {i1 i2 i3 : Nat} {tt : Addr} {tb : TS} {D : Ends} (h1 : σ[i1]? = some (some (.ref t'))) (h2 : σ[i2]? = some (some (.ref tt))) (hlt : H t' = some (.lst (l.map V.int))) (ht : SqT K H tt (vs.map V.int))
    (hm : ∀ k ∈ l, ∃ j : Nat, k = (j : Int) ∧ j < vs.length) (hl : l.length ≤ 24) (h3 : i3 < σ.length) (h13 : i2 ≠ i3)
    (k1 : ∀ H', Same H H' → upL vs l = true → D.nx σ H') (k2 : ∀ H', Same H H' → upL vs l = false → tb D σ H') :
    tIfS (tTest (tOp (rNeD K) (tLc (iList K (tVar i1)) (gName i3) tYes (tOp (rIxT K) (tVar i2) (tVar i3)) [i3]) (tCB (rSortedI K) (tCons (tLc (iList K (tVar i1)) (gName i3) tYes (tOp (rIxT K) (tVar i2) (tVar i3)) [i3]) tNil)))) tb tNext D σ H := by
  refine rd_ifNe (pick_line (K := K) (σ := σ) h1 h2 hlt ht hm hl h3 h13 (fun D1 n1 => ?_))
  have s1 := same_new (o := .lst ((l.map (getI vs)).map V.int)) n1
  refine rd_cb1 (pick_line (K := K) (σ := σ) h1 h2 (s1 _ _ hlt) (same_seqT s1 ht) hm hl h3 h13 (fun D2 n2 => ?_))
  have s2 := same_new (o := .lst ((l.map (getI vs)).map V.int)) n2
  refine ⟨D2, _, rfl, SqL.of upd_same, fun ys D3 perm asc n3 => ?_⟩
  have ey := sortI_eq perm asc
  have s3 := same_new (o := .lst (ys.map V.int)) n3
  refine ⟨_, _, .lst (SqL.of (s3 _ _ (s2 _ _ upd_same))) (dp_ints _), .lst (SqL.of upd_same) (dp_ints _), ints_shaped _, ints_shaped _, _, rfl, ?_⟩
  rw [ints_eqvL]
  have sm := (s1.trans s2).trans s3
  by_cases c : l.map (getI vs) = ys
  · rw [decide_eq_true c]
    refine k1 _ sm ?_
    unfold upL
    rw [← ey]
    exact decide_eq_true c
  · rw [decide_eq_false c]
    refine k2 _ sm ?_
    unfold upL
    rw [← ey]
    exact decide_eq_false c
end KS
namespace KS
open PySem PySem.Spec PyProof.Rows L2
/-- the letter of a kind, and a word -/
def ltr (b : Bool) : Nat := if b = true then 67 else 82
def wS (w : List Bool) : Str := ⟨(w.map ltr).toArray⟩
theorem wS_len (w : List Bool) : (wS w).length = w.length := by
  show (w.map ltr).toArray.size = _
  rw [List.size_toArray, List.length_map]
theorem ltr_str (b : Bool) : V.str ⟨#[ltr b]⟩ = V.str (if b = true then "C" else "R") := by
  cases b <;> decide +kernel
theorem wS_at {w : List Bool} {i : Nat} {c : Nat} (h : (wS w).cps[i]? = some c) : ∃ b, w[i]? = some b ∧ c = ltr b := by
  have h' : (w.map ltr).toArray[i]? = some c := h
  rw [List.getElem?_toArray, List.getElem?_map] at h'
  cases e : w[i]? with
  | none =>
    rw [e] at h'
    cases h'
  | some b =>
    rw [e] at h'
    cases h'
    exact ⟨b, rfl, rfl⟩
def spLAfter (K : PySem.W.Frag) : Sp := fun xs H Q _ => ∃ (a t : Addr) (w : List Bool) (cs : List Cell) (vs : List Int), xs = [.ref a, .ref t, .str (wS w)] ∧ PlanAt K H a cs ∧ cs.length ≤ 24 ∧
  SqT K H t (vs.map V.int) ∧ vs.length = cs.length ∧ ∀ H' u, Same H H' → SqT K H' u ((aft cs w vs).map V.int) → Q (.ref u) H'
end KS
namespace KS
open PySem PySem.Spec PyProof.Rows L2
/-! ### programs: words, and repeats of steps -/
inductive Stp
  | w (l : List Bool)
  | r (n : Int) (b : List Stp)
mutual
def Stp.steps : Stp → Nat
  | .w _ => 1
  | .r _ b => 1 + stepsL b
def stepsL : List Stp → Nat
  | [] => 0
  | s :: b => s.steps + stepsL b
end
mutual
def Stp.nest : Stp → Nat
  | .w _ => 0
  | .r _ b => 1 + nestL b
def nestL : List Stp → Nat
  | [] => 0
  | s :: b => max s.nest (nestL b)
end
mutual
def Stp.ok : Stp → Prop
  | .w l => l ≠ [] ∧ l.length ≤ 400
  | .r n b => 1 ≤ n ∧ n ≤ 10 ^ 30 ∧ okL b
def okL : List Stp → Prop
  | [] => True
  | s :: b => s.ok ∧ okL b
end
mutual
def Stp.cnt (k : Bool) : Stp → Int
  | .w l => ((l.countP fun b => b == k : Nat) : Int)
  | .r n b => n * cntL k b
def cntL (k : Bool) : List Stp → Int
  | [] => 0
  | s :: b => s.cnt k + cntL k b
end
theorem stepsL_app : ∀ a b : List Stp, stepsL (a ++ b) = stepsL a + stepsL b
  | [], b => by rw [List.nil_append]; simp only [stepsL]; omega
  | s :: a, b => by
    rw [List.cons_append]
    simp only [stepsL]
    rw [stepsL_app a b]
    omega
theorem nestL_app : ∀ a b : List Stp, nestL (a ++ b) = max (nestL a) (nestL b)
  | [], b => by rw [List.nil_append]; simp only [nestL]; omega
  | s :: a, b => by
    rw [List.cons_append]
    simp only [nestL]
    rw [nestL_app a b]
    omega
theorem okL_app : ∀ {a b : List Stp}, okL (a ++ b) ↔ okL a ∧ okL b
  | [], b => by rw [List.nil_append]; simp only [okL]; exact ⟨fun h => ⟨trivial, h⟩, fun h => h.2⟩
  | s :: a, b => by
    rw [List.cons_append]
    simp only [okL]
    rw [okL_app (a := a)]
    exact ⟨fun ⟨x, y, z⟩ => ⟨⟨x, y⟩, z⟩, fun ⟨⟨x, y⟩, z⟩ => ⟨x, y, z⟩⟩
theorem cntL_app (k : Bool) : ∀ a b : List Stp, cntL k (a ++ b) = cntL k a + cntL k b
  | [], b => by rw [List.nil_append]; simp only [cntL]; omega
  | s :: a, b => by
    rw [List.cons_append]
    simp only [cntL]
    rw [cntL_app k a b]
    omega
theorem nest_mem : ∀ {b : List Stp} {s : Stp}, s ∈ b → s.nest ≤ nestL b
  | [], _, h => by cases h
  | x :: b, s, h => by
    simp only [nestL]
    rcases List.mem_cons.mp h with e | h
    · subst e
      omega
    · have := nest_mem h
      omega
theorem ok_mem : ∀ {b : List Stp} {s : Stp}, okL b → s ∈ b → s.ok
  | [], _, _, h => by cases h
  | x :: b, s, o, h => by
    simp only [okL] at o
    rcases List.mem_cons.mp h with e | h
    · subst e
      exact o.1
    · exact ok_mem o.2 h
theorem steps_pos (s : Stp) : 1 ≤ s.steps := by
  cases s with
  | w => simp only [Stp.steps]; omega
  | r => simp only [Stp.steps]; omega
/-! ### the counts are not too large -/
mutual
theorem cnt_bd (k : Bool) : ∀ s : Stp, s.ok → 0 ≤ s.cnt k ∧ s.cnt k ≤ 400 * (s.steps : Nat) * (10 ^ 30) ^ s.nest
  | .w l, h => by
    simp only [Stp.ok] at h
    simp only [Stp.cnt, Stp.steps, Stp.nest]
    have := List.countP_le_length (p := fun b => b == k) (l := l)
    have e : ((10 : Int) ^ 30) ^ 0 = 1 := rfl
    rw [e]
    omega
  | .r n b, h => by
    simp only [Stp.ok] at h
    obtain ⟨h1, h2, h3⟩ := h
    obtain ⟨a1, a2⟩ := cntL_bd k b h3
    simp only [Stp.cnt, Stp.steps, Stp.nest]
    constructor
    · exact Int.mul_nonneg (by omega) a1
    · have e : ((10 : Int) ^ 30) ^ (1 + nestL b) = (10 ^ 30) * (10 ^ 30) ^ nestL b := by rw [Nat.add_comm, Int.pow_succ, Int.mul_comm]
      have m1 : n * cntL k b ≤ (10 ^ 30) * (400 * (stepsL b : Nat) * (10 ^ 30) ^ nestL b) := Int.mul_le_mul h2 a2 a1 (by omega)
      have p0 : (0 : Int) ≤ (10 ^ 30) ^ nestL b := Int.pow_nonneg (by omega)
      have e2 : (10 ^ 30 : Int) * (400 * (stepsL b : Nat) * (10 ^ 30) ^ nestL b) = 400 * (stepsL b : Nat) * ((10 ^ 30) * (10 ^ 30) ^ nestL b) := Int.mul_left_comm _ _ _
      have m2 : (400 : Int) * (stepsL b : Nat) * ((10 ^ 30) * (10 ^ 30) ^ nestL b) ≤ 400 * ((1 + stepsL b : Nat) : Int) * ((10 ^ 30) * (10 ^ 30) ^ nestL b) := Int.mul_le_mul_of_nonneg_right (by omega) (Int.mul_nonneg (by omega) p0)
      rw [e]
      rw [e2] at m1
      exact Int.le_trans m1 m2
theorem cntL_bd (k : Bool) : ∀ b : List Stp, okL b → 0 ≤ cntL k b ∧ cntL k b ≤ 400 * (stepsL b : Nat) * (10 ^ 30) ^ nestL b
  | [], _ => by
    simp only [cntL, stepsL, nestL]
    omega
  | s :: b, h => by
    simp only [okL] at h
    obtain ⟨a1, a2⟩ := cnt_bd k s h.1
    obtain ⟨b1, b2⟩ := cntL_bd k b h.2
    simp only [cntL, stepsL, nestL]
    refine ⟨by omega, ?_⟩
    have ms : ((10 : Int) ^ 30) ^ s.nest ≤ (10 ^ 30) ^ (max s.nest (nestL b)) := by
      have : ((10 ^ 30 : Nat)) ^ s.nest ≤ (10 ^ 30) ^ (max s.nest (nestL b)) := Nat.pow_le_pow_right (by decide) (by omega)
      exact_mod_cast this
    have mb : ((10 : Int) ^ 30) ^ nestL b ≤ (10 ^ 30) ^ (max s.nest (nestL b)) := by
      have : ((10 ^ 30 : Nat)) ^ nestL b ≤ (10 ^ 30) ^ (max s.nest (nestL b)) := Nat.pow_le_pow_right (by decide) (by omega)
      exact_mod_cast this
    have c1 : (400 : Int) * (s.steps : Nat) * (10 ^ 30) ^ s.nest ≤ 400 * (s.steps : Nat) * (10 ^ 30) ^ (max s.nest (nestL b)) := Int.mul_le_mul_of_nonneg_left ms (by omega)
    have c2 : (400 : Int) * (stepsL b : Nat) * (10 ^ 30) ^ nestL b ≤ 400 * (stepsL b : Nat) * (10 ^ 30) ^ (max s.nest (nestL b)) := Int.mul_le_mul_of_nonneg_left mb (by omega)
    have e : (400 : Int) * ((s.steps + stepsL b : Nat) : Int) * (10 ^ 30) ^ (max s.nest (nestL b)) = 400 * (s.steps : Nat) * (10 ^ 30) ^ (max s.nest (nestL b)) + 400 * (stepsL b : Nat) * (10 ^ 30) ^ (max s.nest (nestL b)) := by
      rw [← Int.add_mul]
      congr 1
      omega
    rw [e]
    omega
end
theorem cntL_big {k : Bool} {b : List Stp} (h : okL b) (hs : stepsL b ≤ 200) (hn : nestL b ≤ 5) : 0 ≤ cntL k b ∧ cntL k b < 10 ^ 160 := by
  obtain ⟨a1, a2⟩ := cntL_bd k b h
  refine ⟨a1, ?_⟩
  have p : ((10 : Int) ^ 30) ^ nestL b ≤ (10 ^ 30) ^ 5 := by
    have : ((10 ^ 30 : Nat)) ^ nestL b ≤ (10 ^ 30) ^ 5 := Nat.pow_le_pow_right (by decide) hn
    exact_mod_cast this
  have p0 : (0 : Int) ≤ (10 ^ 30) ^ nestL b := Int.pow_nonneg (by omega)
  have m : (400 : Int) * (stepsL b : Nat) * (10 ^ 30) ^ nestL b ≤ 80000 * (10 ^ 30) ^ 5 := Int.mul_le_mul (by omega) p p0 (by omega)
  have e : (80000 : Int) * (10 ^ 30) ^ 5 < 10 ^ 160 := by decide +kernel
  omega
/-! ### multiplied, however large -/
def CBig (i j : Int) : Prop := 0 ≤ i ∧ i < 10 ^ 170 ∧ 0 ≤ j ∧ j < 10 ^ 170
theorem bits_big {i : Int} (h0 : 0 ≤ i) (h1 : i < 10 ^ 170) : Builtin.Int.intBits i ≤ 2 ^ 20 := by
  refine intBits_le_iff.mpr ?_
  have e : (10 : Nat) ^ 170 < 2 ^ 600 := by decide +kernel
  have e2 : (2 : Nat) ^ 600 ≤ 2 ^ (2 ^ 20) := Nat.pow_le_pow_right (by decide) (by decide)
  have : i.natAbs < 10 ^ 170 := by
    obtain ⟨n, rfl⟩ := Int.eq_ofNat_of_zero_le h0
    rw [Int.natAbs_natCast]
    exact_mod_cast h1
  omega
theorem op_mulB {X : Cx} : OpR X (binaryOp .Mult) (rI CBig fun i j => .int (i * j)) := opI fun _ _ _ _ _ _ _ hc q => mul_int q (IntMulOk.of_bits (bits_big hc.1 hc.2.1) (bits_big hc.2.2.1 hc.2.2.2))
end KS
namespace KS
open PySem PySem.Spec PyProof.Rows L2
/-! ### a sort takes inversions away -/
def lt1 (a b : Int) : Nat := if a < b then 1 else 0
def cnt (a : Int) : List Int → Nat
  | [] => 0
  | b :: l => lt1 b a + cnt a l
def inv : List Int → Nat
  | [] => 0
  | a :: l => cnt a l + inv l
theorem cnt_set (b x y : Int) : ∀ {m : List Int} {j : Nat}, m[j]? = some y → cnt b (m.set j x) + lt1 y b = cnt b m + lt1 x b
  | [], _, h => by cases h
  | c :: m, 0, h => by
    cases h
    show lt1 x b + cnt b m + lt1 y b = lt1 y b + cnt b m + lt1 x b
    omega
  | c :: m, j + 1, h => by
    have ih := cnt_set b x y (m := m) (j := j) h
    show lt1 c b + cnt b (m.set j x) + lt1 y b = lt1 c b + cnt b m + lt1 x b
    omega
theorem lt1_four {x y b : Int} (h : y < x) : lt1 b y + lt1 x b ≤ lt1 b x + lt1 y b := by
  unfold lt1
  split <;> split <;> split <;> split <;> omega
theorem inv_front {x y : Int} (h : y < x) : ∀ {l : List Int} {j : Nat}, l[j]? = some y → cnt y (l.set j x) + inv (l.set j x) < cnt x l + inv l
  | [], _, e => by cases e
  | b :: m, 0, e => by
    cases e
    show lt1 x y + cnt y m + (cnt x m + inv m) < lt1 y x + cnt x m + (cnt y m + inv m)
    have h1 : lt1 x y = 0 := if_neg (by omega)
    have h2 : lt1 y x = 1 := if_pos h
    omega
  | b :: m, j + 1, e => by
    have ih := inv_front h (l := m) (j := j) e
    have c := cnt_set b x y (m := m) (j := j) e
    have f := lt1_four (b := b) h
    show lt1 b y + cnt y (m.set j x) + (cnt b (m.set j x) + inv (m.set j x)) < lt1 b x + cnt x m + (cnt b m + inv m)
    omega
theorem inv_swap {x y : Int} (h : y < x) : ∀ {l : List Int} {i j : Nat}, i < j → l[i]? = some x → l[j]? = some y → inv ((l.set i y).set j x) < inv l
  | [], _, _, _, e, _ => by cases e
  | a :: l, 0, 0, hij, _, _ => absurd hij (Nat.lt_irrefl _)
  | a :: l, 0, j + 1, _, e, e2 => by
    cases e
    exact inv_front h (l := l) (j := j) e2
  | a :: l, i + 1, 0, hij, _, _ => absurd hij (Nat.not_lt_zero _)
  | a :: l, i + 1, j + 1, hij, e, e2 => by
    have hij' : i < j := Nat.lt_of_succ_lt_succ hij
    have ih := inv_swap h (l := l) (i := i) (j := j) hij' e e2
    have c1 := cnt_set a y x (m := l) (j := i) e
    have e3 : (l.set i y)[j]? = some y := by
      rw [List.getElem?_set_ne (by omega)]
      exact e2
    have c2 := cnt_set a x y (m := l.set i y) (j := j) e3
    show cnt a ((l.set i y).set j x) + inv ((l.set i y).set j x) < cnt a l + inv l
    omega
theorem cnt_le (a : Int) : ∀ l : List Int, cnt a l ≤ l.length
  | [] => Nat.le_refl _
  | b :: l => by
    have := cnt_le a l
    have h : lt1 b a ≤ 1 := by
      unfold lt1
      split <;> omega
    show lt1 b a + cnt a l ≤ l.length + 1
    omega
theorem inv_le : ∀ l : List Int, 2 * inv l ≤ l.length * (l.length - 1)
  | [] => Nat.le_refl _
  | a :: l => by
    have h := inv_le l
    have c := cnt_le a l
    show 2 * (cnt a l + inv l) ≤ (l.length + 1) * (l.length + 1 - 1)
    rw [Nat.add_sub_cancel]
    cases hl : l.length with
    | zero =>
      rw [hl] at h c
      simp at h c
      omega
    | succ n =>
      rw [hl] at h c
      rw [Nat.add_sub_cancel] at h
      have e : (n + 1 + 1) * (n + 1) = (n + 1) * n + 2 * (n + 1) := by
        rw [Nat.add_mul (n + 1) 1 (n + 1), Nat.mul_add (n + 1) n 1]
        omega
      omega
end KS
namespace KS
open PySem PySem.Spec PyProof.Rows L2
def putN : List Int → List Nat → List Int → List Int
  | acc, k :: ks, y :: ys => putN (acc.set k y) ks ys
  | acc, _, _ => acc
def getN (acc : List Int) (ks : List Nat) : List Int := ks.map fun k => acc.getD k 0
theorem putN_nil (acc : List Int) (ys : List Int) : putN acc [] ys = acc := by
  unfold putN
  rfl
theorem putN_cons (acc : List Int) (k : Nat) (ks : List Nat) (y : Int) (ys : List Int) : putN acc (k :: ks) (y :: ys) = putN (acc.set k y) ks ys := by
  rw [putN]
theorem putN_none (acc : List Int) (ks : List Nat) : putN acc ks [] = acc := by
  cases ks <;> (unfold putN; rfl)
theorem putN_len : ∀ (ks : List Nat) (ys acc : List Int), (putN acc ks ys).length = acc.length
  | [], ys, acc => by rw [putN_nil]
  | k :: ks, [], acc => by rw [putN_none]
  | k :: ks, y :: ys, acc => by rw [putN_cons, putN_len ks ys, List.length_set]
theorem putN_off : ∀ {ks : List Nat} {ys acc : List Int} {i : Nat}, i ∉ ks → (putN acc ks ys)[i]? = acc[i]?
  | [], ys, acc, i, _ => by rw [putN_nil]
  | k :: ks, [], acc, i, _ => by rw [putN_none]
  | k :: ks, y :: ys, acc, i, h => by
    have hk : k ≠ i := fun e => h (e ▸ List.mem_cons_self)
    rw [putN_cons, putN_off (fun m => h (List.mem_cons_of_mem _ m)), List.getElem?_set_ne hk]
theorem getD_of {acc : List Int} {k : Nat} {v : Int} (h : acc[k]? = some v) : acc.getD k 0 = v := by
  rw [List.getD_eq_getElem?_getD, h]
  rfl
theorem get_put : ∀ {ks : List Nat} {ys acc : List Int}, ks.Nodup → ks.length = ys.length → (∀ k ∈ ks, k < acc.length) → getN (putN acc ks ys) ks = ys
  | [], [], acc, _, _, _ => rfl
  | [], _ :: _, acc, _, h, _ => by cases h
  | _ :: _, [], acc, _, h, _ => by cases h
  | k :: ks, y :: ys, acc, nd, hl, hb => by
    rw [List.nodup_cons] at nd
    rw [putN_cons]
    show (putN (acc.set k y) ks ys).getD k 0 :: getN (putN (acc.set k y) ks ys) ks = y :: ys
    rw [get_put nd.2 (by simpa using hl) (fun j hj => by rw [List.length_set]; exact hb j (List.mem_cons_of_mem _ hj))]
    congr 1
    refine getD_of ?_
    rw [putN_off nd.1, List.getElem?_set_self (hb k List.mem_cons_self)]
theorem put_same : ∀ {ks : List Nat} {acc : List Int}, (∀ k ∈ ks, k < acc.length) → putN acc ks (getN acc ks) = acc
  | [], acc, _ => by rw [putN_nil]
  | k :: ks, acc, hb => by
    show putN acc (k :: ks) (acc.getD k 0 :: getN acc ks) = acc
    have hk := hb k List.mem_cons_self
    have e : acc.set k (acc.getD k 0) = acc := by
      rw [List.getD_eq_getElem?_getD, List.getElem?_eq_getElem hk]
      exact List.set_getElem_self hk
    rw [putN_cons, e]
    exact put_same fun j hj => hb j (List.mem_cons_of_mem _ hj)
theorem put_over : ∀ {ks : List Nat} {zs a b : List Int}, a.length = b.length → ks.length = zs.length → (∀ i, i ∉ ks → a[i]? = b[i]?) → putN a ks zs = putN b ks zs
  | [], zs, a, b, _, _, h => by
    rw [putN_nil, putN_nil]
    exact List.ext_getElem? fun i => h i (by simp)
  | k :: ks, [], a, b, _, hl, _ => by cases hl
  | k :: ks, z :: zs, a, b, hab, hl, h => by
    rw [putN_cons, putN_cons]
    refine put_over (by rw [List.length_set, List.length_set, hab]) (by simpa using hl) fun i hi => ?_
    by_cases e : k = i
    · subst e
      by_cases c : k < a.length
      · rw [List.getElem?_set_self c, List.getElem?_set_self (by omega)]
      · rw [List.getElem?_eq_none (by rw [List.length_set]; omega), List.getElem?_eq_none (by rw [List.length_set]; omega)]
    · rw [List.getElem?_set_ne e, List.getElem?_set_ne e]
      refine h i fun m => ?_
      rcases List.mem_cons.mp m with z | z
      · exact e z.symm
      · exact hi z
/-- the same, or fewer inversions -/
def Dn (a b : List Int) : Prop := b = a ∨ inv b < inv a
theorem Dn.trans {a b c : List Int} (h : Dn a b) (k : Dn b c) : Dn a c := by
  rcases h with rfl | h
  · exact k
  · rcases k with rfl | k
    · exact .inr h
    · exact .inr (Nat.lt_trans k h)
def ins (x : Int) : List Int → List Int
  | [] => [x]
  | y :: s => if x ≤ y then x :: y :: s else y :: ins x s
def isort : List Int → List Int
  | [] => []
  | x :: l => ins x (isort l)
theorem ins_perm (x : Int) : ∀ s : List Int, (ins x s).Perm (x :: s)
  | [] => List.Perm.refl _
  | y :: s => by
    unfold ins
    split
    · exact List.Perm.refl _
    · exact ((ins_perm x s).cons y).trans (List.Perm.swap _ _ _)
theorem isort_perm : ∀ l : List Int, (isort l).Perm l
  | [] => List.Perm.refl _
  | x :: l => (ins_perm x _).trans ((isort_perm l).cons x)
theorem ins_asc {x : Int} : ∀ {s : List Int}, s.Pairwise (· ≤ ·) → (ins x s).Pairwise (· ≤ ·)
  | [], _ => by simp [ins]
  | y :: s, h => by
    rw [List.pairwise_cons] at h
    unfold ins
    split
    · rename_i c
      rw [List.pairwise_cons, List.pairwise_cons]
      refine ⟨fun z hz => ?_, h.1, h.2⟩
      rcases List.mem_cons.mp hz with rfl | m
      · exact c
      · have := h.1 z m
        omega
    · rename_i c
      rw [List.pairwise_cons]
      refine ⟨fun z hz => ?_, ins_asc h.2⟩
      rcases List.mem_cons.mp ((ins_perm x s).mem_iff.mp hz) with rfl | m
      · omega
      · exact h.1 z m
theorem isort_asc : ∀ l : List Int, (isort l).Pairwise (· ≤ ·)
  | [] => List.Pairwise.nil
  | _ :: l => ins_asc (isort_asc l)
theorem isort_eq (l : List Int) : isort l = sortI l := sortI_eq (isort_perm l) (isort_asc l)
theorem ins_dn : ∀ {ks : List Nat} {k : Nat} {acc s : List Int} {x : Int}, (k :: ks).Pairwise (· < ·) → (∀ j ∈ k :: ks, j < acc.length) → getN acc (k :: ks) = x :: s → Dn acc (putN acc (k :: ks) (ins x s))
  | [], k, acc, s, x, _, hb, e => by
    have e' : [acc.getD k 0] = x :: s := e
    cases e'
    exact .inl (put_same (ks := [k]) hb)
  | k' :: ks, k, acc, [], x, _, hb, e => by
    have e' : acc.getD k 0 :: acc.getD k' 0 :: getN acc ks = [x] := e
    cases e'
  | k' :: ks, k, acc, y :: s, x, hp, hb, e => by
    unfold ins
    split
    · rw [← e]
      exact .inl (put_same hb)
    · rename_i c
      have e' : acc.getD k 0 :: acc.getD k' 0 :: getN acc ks = x :: y :: s := e
      injection e' with e1 e2
      injection e2 with e2 e3
      rw [List.pairwise_cons] at hp
      have hk := hb k List.mem_cons_self
      have hk' := hb k' (List.mem_cons_of_mem _ List.mem_cons_self)
      have hlt : k < k' := hp.1 k' List.mem_cons_self
      have g1 : acc[k]? = some x := by
        rw [List.getElem?_eq_getElem hk, ← e1, List.getD_eq_getElem?_getD, List.getElem?_eq_getElem hk]
        rfl
      have g2 : acc[k']? = some y := by
        rw [List.getElem?_eq_getElem hk', ← e2, List.getD_eq_getElem?_getD, List.getElem?_eq_getElem hk']
        rfl
      have sw := inv_swap (x := x) (y := y) (by omega) hlt g1 g2
      have hp2 := List.pairwise_cons.mp hp.2
      have gg : getN ((acc.set k y).set k' x) (k' :: ks) = x :: s := by
        show ((acc.set k y).set k' x).getD k' 0 :: getN ((acc.set k y).set k' x) ks = x :: s
        rw [getD_of (List.getElem?_set_self (by rw [List.length_set]; exact hk'))]
        congr 1
        rw [← e3]
        refine List.map_congr_left fun j hj => ?_
        have j1 : k' < j := hp2.1 j hj
        show ((acc.set k y).set k' x).getD j 0 = acc.getD j 0
        rw [List.getD_eq_getElem?_getD, List.getD_eq_getElem?_getD, List.getElem?_set_ne (by omega), List.getElem?_set_ne (by omega)]
      have ih := ins_dn (acc := (acc.set k y).set k' x) hp.2 (fun j hj => by rw [List.length_set, List.length_set]; exact hb j (List.mem_cons_of_mem _ hj)) gg
      have ep : putN acc (k :: k' :: ks) (y :: ins x s) = putN ((acc.set k y).set k' x) (k' :: ks) (ins x s) := by
        rw [putN_cons]
        cases h : ins x s with
        | nil =>
          have := (ins_perm x s).length_eq
          rw [h] at this
          cases this
        | cons z zs => rw [putN_cons, putN_cons, List.set_set]
      rw [ep]
      exact Dn.trans (.inr sw) ih
theorem sort_dn : ∀ {ks : List Nat} {acc : List Int}, ks.Pairwise (· < ·) → (∀ j ∈ ks, j < acc.length) → Dn acc (putN acc ks (isort (getN acc ks)))
  | [], acc, _, _ => .inl (putN_nil _ _)
  | k :: ks, acc, hp, hb => by
    have hp' := List.pairwise_cons.mp hp
    have hb' : ∀ j ∈ ks, j < acc.length := fun j hj => hb j (List.mem_cons_of_mem _ hj)
    have ih := sort_dn hp'.2 hb'
    have nk : k ∉ ks := fun m => Nat.lt_irrefl _ (hp'.1 k m)
    have nd : ks.Nodup := hp'.2.imp fun h => Nat.ne_of_lt h
    have ll : ks.length = (isort (getN acc ks)).length := by
      rw [(isort_perm _).length_eq]
      unfold getN
      rw [List.length_map]
    have g : getN (putN acc ks (isort (getN acc ks))) (k :: ks) = acc.getD k 0 :: isort (getN acc ks) := by
      show (putN acc ks (isort (getN acc ks))).getD k 0 :: getN (putN acc ks (isort (getN acc ks))) ks = _
      rw [get_put nd ll hb', List.getD_eq_getElem?_getD, putN_off nk, ← List.getD_eq_getElem?_getD]
    have b := ins_dn (acc := putN acc ks (isort (getN acc ks))) hp (fun j hj => by rw [putN_len]; exact hb j hj) g
    have e : putN (putN acc ks (isort (getN acc ks))) (k :: ks) (ins (acc.getD k 0) (isort (getN acc ks))) = putN acc (k :: ks) (ins (acc.getD k 0) (isort (getN acc ks))) := by
      refine put_over (putN_len _ _ _) ?_ fun i hi => putN_off fun m => hi (List.mem_cons_of_mem _ m)
      rw [(ins_perm _ _).length_eq, List.length_cons, List.length_cons, ll]
    rw [e] at b
    exact ih.trans b
end KS
namespace KS
open PySem PySem.Spec PyProof.Rows L2
def up (ks : List Nat) : List Int := ks.map fun (k : Nat) => (k : Int)
theorem putZ_up : ∀ (ks : List Nat) (ys acc : List Int), putZ acc ((up ks).zip ys) = putN acc ks ys
  | [], ys, acc => by rw [putN_nil]; rfl
  | k :: ks, [], acc => by rw [putN_none]; rfl
  | k :: ks, y :: ys, acc => by
    rw [putN_cons, ← putZ_up ks ys]
    rfl
theorem get_up (vs : List Int) (ks : List Nat) : (up ks).map (getI vs) = getN vs ks := by
  unfold up getN
  rw [List.map_map]
  rfl
def srtN (vs acc : List Int) (ks : List Nat) : List Int := putN acc ks (sortI (getN vs ks))
theorem srtL_up (vs acc : List Int) (ks : List Nat) : srtL vs acc (up ks) = srtN vs acc ks := by
  unfold srtL srtN
  rw [putZ_up, get_up]
theorem srtTo_up (vs : List Int) : ∀ (ls : List (List Nat)) (acc : List Int), (ls.map up).foldl (srtL vs) acc = ls.foldl (srtN vs) acc
  | [], _ => rfl
  | ks :: ls, acc => by
    show (ls.map up).foldl (srtL vs) (srtL vs acc (up ks)) = ls.foldl (srtN vs) (srtN vs acc ks)
    rw [srtL_up, srtTo_up vs ls]
def idxsN (b : Bool) (cs : List Cell) (i : Nat) (r : Int) : List Nat := (List.range i).filter fun j => decide ((cs[j]?).map (pick b) = some r)
theorem idxs_up (b : Bool) (cs : List Cell) (i : Nat) (r : Int) : idxs b cs i r = up (idxsN b cs i r) := rfl
def lnsN (b : Bool) (cs : List Cell) : List (List Nat) := ((List.range 8).map fun (r : Nat) => idxsN b cs cs.length (r : Int)).filter fun l => decide (l ≠ [])
theorem filter_up : ∀ ls : List (List Nat), (ls.map up).filter (fun l => decide (l ≠ [])) = (ls.filter fun l => decide (l ≠ [])).map up
  | [] => rfl
  | [] :: ls => filter_up ls
  | (k :: ks) :: ls => by
    show up (k :: ks) :: (ls.map up).filter _ = up (k :: ks) :: (ls.filter _).map up
    rw [filter_up ls]
theorem lns_up (b : Bool) (cs : List Cell) : lnsOf b cs = (lnsN b cs).map up := by
  unfold lnsOf lnsN
  rw [← filter_up, List.map_map]
  rfl
structure Parts (n : Nat) (ls : List (List Nat)) : Prop where
  asc : ∀ ks ∈ ls, ks.Pairwise (· < ·)
  bd : ∀ ks ∈ ls, ∀ k ∈ ks, k < n
  apart : ls.Pairwise fun ks ms => ∀ k ∈ ks, k ∉ ms
theorem srtN_len (vs acc : List Int) (ks : List Nat) : (srtN vs acc ks).length = acc.length := putN_len _ _ _
theorem getN_congr {a b : List Int} {ks : List Nat} (h : ∀ k ∈ ks, a[k]? = b[k]?) : getN a ks = getN b ks := by
  refine List.map_congr_left fun k hk => ?_
  show a.getD k 0 = b.getD k 0
  rw [List.getD_eq_getElem?_getD, List.getD_eq_getElem?_getD, h k hk]
theorem fold_off {vs : List Int} {i : Nat} : ∀ {ls : List (List Nat)} {acc : List Int}, (∀ ks ∈ ls, i ∉ ks) → (ls.foldl (srtN vs) acc)[i]? = acc[i]?
  | [], _, _ => rfl
  | ks :: ls, acc, h => by
    show (ls.foldl (srtN vs) (srtN vs acc ks))[i]? = _
    rw [fold_off fun ms hm => h ms (List.mem_cons_of_mem _ hm)]
    exact putN_off (h ks List.mem_cons_self)
theorem fold_dn {vs : List Int} : ∀ {ls : List (List Nat)} {acc : List Int}, Parts acc.length ls → (∀ ks ∈ ls, ∀ k ∈ ks, acc[k]? = vs[k]?) → Dn acc (ls.foldl (srtN vs) acc)
  | [], acc, _, _ => .inl rfl
  | ks :: ls, acc, P, h => by
    have pc := List.pairwise_cons.mp P.apart
    have e : getN vs ks = getN acc ks := getN_congr fun k hk => (h ks List.mem_cons_self k hk).symm
    have d : Dn acc (srtN vs acc ks) := by
      unfold srtN
      rw [e, ← isort_eq]
      exact sort_dn (P.asc ks List.mem_cons_self) (P.bd ks List.mem_cons_self)
    refine d.trans (fold_dn (ls := ls) ⟨fun ms hm => P.asc ms (List.mem_cons_of_mem _ hm), fun ms hm k hk => ?_, pc.2⟩ fun ms hm k hk => ?_)
    · rw [srtN_len]
      exact P.bd ms (List.mem_cons_of_mem _ hm) k hk
    · have nk : k ∉ ks := fun m => pc.1 ms hm k m hk
      rw [show (srtN vs acc ks)[k]? = acc[k]? from putN_off nk]
      exact h ms (List.mem_cons_of_mem _ hm) k hk
theorem fold_get {vs : List Int} : ∀ {ls : List (List Nat)} {acc : List Int}, Parts acc.length ls → ∀ ks ∈ ls, getN (ls.foldl (srtN vs) acc) ks = sortI (getN vs ks)
  | [], _, _, _, m => by cases m
  | ms :: ls, acc, P, ks, m => by
    have pc := List.pairwise_cons.mp P.apart
    have P' : Parts (srtN vs acc ms).length ls := ⟨fun z hm => P.asc z (List.mem_cons_of_mem _ hm), fun z hm k hk => by rw [srtN_len]; exact P.bd z (List.mem_cons_of_mem _ hm) k hk, pc.2⟩
    rcases List.mem_cons.mp m with rfl | m
    · show getN (ls.foldl (srtN vs) (srtN vs acc ks)) ks = _
      rw [getN_congr (b := srtN vs acc ks) fun k hk => fold_off fun z hz => pc.1 z hz k hk]
      refine get_put ((P.asc ks List.mem_cons_self).imp fun h => Nat.ne_of_lt h) ?_ (P.bd ks List.mem_cons_self)
      rw [sortI_len]
      unfold getN
      rw [List.length_map]
    · exact fold_get P' ks m
theorem fold_fix {vs : List Int} : ∀ {ls : List (List Nat)}, (∀ ks ∈ ls, ∀ k ∈ ks, k < vs.length) → (∀ ks ∈ ls, getN vs ks = sortI (getN vs ks)) → ls.foldl (srtN vs) vs = vs
  | [], _, _ => rfl
  | ks :: ls, hb, h => by
    have e : srtN vs vs ks = vs := by
      unfold srtN
      rw [← h ks List.mem_cons_self]
      exact put_same (hb ks List.mem_cons_self)
    show ls.foldl (srtN vs) (srtN vs vs ks) = vs
    rw [e]
    exact fold_fix (fun z hz => hb z (List.mem_cons_of_mem _ hz)) fun z hz => h z (List.mem_cons_of_mem _ hz)
theorem idxsN_mem {b : Bool} {cs : List Cell} {i k : Nat} {r : Int} (h : k ∈ idxsN b cs i r) : k < i ∧ (cs[k]?).map (pick b) = some r := by
  have := List.mem_filter.mp h
  exact ⟨List.mem_range.mp this.1, of_decide_eq_true this.2⟩
theorem lns_parts (b : Bool) (cs : List Cell) : Parts cs.length (lnsN b cs) := by
  refine ⟨fun ks h => ?_, fun ks h k hk => ?_, ?_⟩
  · obtain ⟨r, _, rfl⟩ := List.mem_map.mp (List.mem_filter.mp h).1
    exact List.pairwise_lt_range.filter _
  · obtain ⟨r, _, rfl⟩ := List.mem_map.mp (List.mem_filter.mp h).1
    exact (idxsN_mem hk).1
  · refine List.Pairwise.filter _ (List.pairwise_map.2 (List.pairwise_lt_range.imp ?_))
    intro r q hrq k h1 h2
    have a := (idxsN_mem h1).2
    rw [(idxsN_mem h2).2] at a
    injection a with a
    omega
theorem srt_up (b : Bool) (cs : List Cell) (vs : List Int) : srt b cs vs = (lnsN b cs).foldl (srtN vs) vs := by
  unfold srt srtTo
  rw [lns_up, srtTo_up]
/-- a sort leaves all as it is, or takes inversions away -/
theorem srt_dn {b : Bool} {cs : List Cell} {vs : List Int} (h : vs.length = cs.length) : Dn vs (srt b cs vs) := by
  rw [srt_up]
  exact fold_dn (by rw [h]; exact lns_parts b cs) fun _ _ _ _ => rfl
theorem upL_up (vs : List Int) (ks : List Nat) : upL vs (up ks) = decide (getN vs ks = sortI (getN vs ks)) := by
  unfold upL
  rw [get_up]
theorem rises_iff {b : Bool} {cs : List Cell} {vs : List Int} : rises b cs vs = true ↔ ∀ ks ∈ lnsN b cs, getN vs ks = sortI (getN vs ks) := by
  unfold rises
  rw [lns_up, List.all_map, List.all_eq_true]
  constructor
  · intro h ks hk
    have := h ks hk
    exact of_decide_eq_true ((upL_up vs ks).symm.trans this)
  · intro h ks hk
    exact (upL_up vs ks).trans (decide_eq_true (h ks hk))
theorem sortI_fix (l : List Int) : sortI (sortI l) = sortI l := (sortI_eq (List.Perm.refl _) (sortI_asc l)).symm
/-- behind a sort the lines of the kind ascend -/
theorem srt_rises {b : Bool} {cs : List Cell} {vs : List Int} (h : vs.length = cs.length) : rises b cs (srt b cs vs) = true := by
  rw [rises_iff]
  intro ks hk
  have g : getN (srt b cs vs) ks = sortI (getN vs ks) := by
    rw [srt_up]
    exact fold_get (by rw [h]; exact lns_parts b cs) ks hk
  rw [g, sortI_fix]
/-- lines that ascend are left alone -/
theorem rises_fix {b : Bool} {cs : List Cell} {vs : List Int} (h : vs.length = cs.length) (r : rises b cs vs = true) : srt b cs vs = vs := by
  rw [srt_up]
  exact fold_fix (fun ks hk k hkk => by rw [h]; exact (lns_parts b cs).bd ks hk k hkk) (rises_iff.mp r)
/-- lines that do not ascend lose inversions -/
theorem srt_lt {b : Bool} {cs : List Cell} {vs : List Int} (h : vs.length = cs.length) (r : rises b cs vs = false) : inv (srt b cs vs) < inv vs := by
  rcases srt_dn (b := b) h with e | e
  · have := srt_rises (b := b) h
    rw [e, r] at this
    cases this
  · exact e
end KS
namespace KS
open PySem PySem.Spec PyProof.Rows L2
/-- kinds in turns, this one first -/
def turns : Bool → Nat → List Bool
  | _, 0 => []
  | b, n + 1 => b :: turns (!b) n
def kindAt (b : Bool) (n : Nat) : Bool := if n % 2 = 0 then b else !b
theorem turns_succ : ∀ (b : Bool) (n : Nat), turns b (n + 1) = turns b n ++ [kindAt b n]
  | b, 0 => rfl
  | b, n + 1 => by
    show b :: turns (!b) (n + 1) = b :: (turns (!b) n ++ [kindAt b (n + 1)])
    rw [turns_succ (!b) n]
    have e : kindAt (!b) n = kindAt b (n + 1) := by
      unfold kindAt
      rcases Nat.mod_two_eq_zero_or_one n with h | h
      · rw [if_pos h, if_neg (by omega)]
      · rw [if_neg (by omega), if_pos (by omega)]
        simp
    rw [e]
theorem kindAt_succ (b : Bool) (n : Nat) : kindAt b (n + 1) = !kindAt b n := by
  unfold kindAt
  rcases Nat.mod_two_eq_zero_or_one n with h | h
  · rw [if_pos h, if_neg (show ¬ (n + 1) % 2 = 0 by omega)]
  · rw [if_pos (show (n + 1) % 2 = 0 by omega), if_neg (show ¬ n % 2 = 0 by omega)]
    simp
theorem turns_len : ∀ (b : Bool) (n : Nat), (turns b n).length = n
  | _, 0 => rfl
  | b, n + 1 => by
    show (turns (!b) n).length + 1 = n + 1
    rw [turns_len (!b) n]
def settled (cs : List Cell) (vs : List Int) : Bool := rises false cs vs && rises true cs vs
def stat (cs : List Cell) (b : Bool) (vs : List Int) (n : Nat) : List Int := aft cs (turns b n) vs
theorem stat_succ (cs : List Cell) (b : Bool) (vs : List Int) (n : Nat) : stat cs b vs (n + 1) = srt (kindAt b n) cs (stat cs b vs n) := by
  unfold stat
  rw [turns_succ, aft_more]
theorem stat_len (cs : List Cell) (b : Bool) (vs : List Int) (n : Nat) : (stat cs b vs n).length = vs.length := aft_len _ _ _
/-- the least number of sorts in turns behind which both kinds ascend, and the values then -/
structure RestIs (cs : List Cell) (b : Bool) (vs : List Int) (n : Nat) : Prop where
  end_ : settled cs (stat cs b vs n) = true
  least : ∀ m, m < n → settled cs (stat cs b vs m) = false
theorem RestIs.uniq {cs : List Cell} {b : Bool} {vs : List Int} {n m : Nat} (h : RestIs cs b vs n) (k : RestIs cs b vs m) : n = m := by
  rcases Nat.lt_trichotomy n m with c | c | c
  · have := k.least n c
    rw [h.end_] at this
    cases this
  · exact c
  · have := h.least m c
    rw [k.end_] at this
    cases this
theorem settled_not {cs : List Cell} {vs : List Int} {k : Bool} (h : settled cs vs = false) (r : rises k cs vs = true) : rises (!k) cs vs = false := by
  unfold settled at h
  cases k
  · rw [r] at h
    simpa using h
  · rw [r] at h
    simpa using h
/-- a variant of the turns -/
def fuel (cs : List Cell) (k : Bool) (vs : List Int) : Nat := 2 * inv vs + if rises k cs vs = true then 1 else 0
theorem fuel_lt {cs : List Cell} {k : Bool} {vs : List Int} (hl : vs.length = cs.length) (h : settled cs vs = false) : fuel cs (!k) (srt k cs vs) < fuel cs k vs := by
  unfold fuel
  cases r : rises k cs vs with
  | true =>
    rw [rises_fix hl r, if_pos rfl, if_neg (by rw [settled_not h r]; decide)]
    omega
  | false =>
    have := srt_lt hl r
    rw [if_neg (show ¬ (false = true) by decide)]
    split <;> omega
/-- at most 277 sorts settle any table of 24 cells -/
theorem stat_inv {cs : List Cell} {b : Bool} {vs : List Int} {n : Nat} (hl : vs.length = cs.length) (h : RestIs cs b vs n) : ∀ m, m + 1 ≤ n → inv (stat cs b vs (m + 1)) + m ≤ inv (stat cs b vs 1)
  | 0, _ => Nat.le_refl _
  | m + 1, hm => by
    have ih := stat_inv hl h m (by omega)
    have ns := h.least (m + 1) (by omega)
    have ln : (stat cs b vs m).length = cs.length := by rw [stat_len, hl]
    have r : rises (kindAt b m) cs (stat cs b vs (m + 1)) = true := by
      rw [stat_succ]
      exact srt_rises ln
    have r2 := settled_not ns r
    rw [← kindAt_succ] at r2
    have lt := srt_lt (by rw [stat_len, hl]) r2
    rw [← stat_succ] at lt
    omega
theorem rest_le {cs : List Cell} {b : Bool} {vs : List Int} {n : Nat} (hl : vs.length = cs.length) (hc : cs.length ≤ 24) (h : RestIs cs b vs n) : n ≤ 277 := by
  cases n with
  | zero => omega
  | succ m =>
    have i := stat_inv hl h m (Nat.le_refl _)
    have le := inv_le (stat cs b vs 1)
    rw [stat_len, hl] at le
    have : cs.length * (cs.length - 1) ≤ 24 * 23 := Nat.mul_le_mul hc (by omega)
    omega
end KS
namespace KS
open PySem PySem.Spec PyProof.Rows L2
/-- so many different whole numbers from 1 to 9999 -/
structure Vals9 (n : Nat) (fs : List Int) : Prop where
  len : fs.length = n
  nd : fs.Nodup
  bd : ∀ v ∈ fs, 1 ≤ v ∧ v ≤ 9999
def spValues (K : PySem.W.Frag) : Sp := fun vs H Q _ => ∃ (p : Addr) (n : Nat), vs = [.ref p, .int n] ∧ PoolO (H p) ∧ 1 ≤ n ∧ n ≤ 24 ∧
  ∀ H' t fs, KeepX p H H' → PoolO (H' p) → SqT K H' t (fs.map V.int) → Vals9 n fs → H t = none → Q (.ref t) H'
theorem Vals9.perm {n : Nat} {as bs : List Int} (h : Vals9 n as) (p : as.Perm bs) : Vals9 n bs := ⟨p.length_eq ▸ h.len, p.nodup_iff.mp h.nd, fun v m => h.bd v (p.mem_iff.mpr m)⟩
theorem map_eraseIdx {f : Int → V} : ∀ (l : List Int) (k : Nat), (l.map f).eraseIdx k = (l.eraseIdx k).map f
  | [], _ => rfl
  | _ :: _, 0 => rfl
  | x :: l, k + 1 => by
    show f x :: (l.map f).eraseIdx k = f x :: (l.eraseIdx k).map f
    rw [map_eraseIdx l k]
theorem erase_perm : ∀ {l : List Int} {k : Nat} (h : k < l.length), l.Perm (l[k] :: l.eraseIdx k)
  | _ :: _, 0, _ => List.Perm.refl _
  | x :: l, k + 1, h => ((erase_perm (l := l) (k := k) (Nat.lt_of_succ_lt_succ h)).cons x).trans (List.Perm.swap _ _ _)
theorem pick_perm {fs l : List Int} {k : Nat} (h : k < l.length) : (fs ++ l).Perm ((fs ++ [l[k]]) ++ l.eraseIdx k) := by
  rw [List.append_assoc]
  exact (erase_perm h).append_left fs
def rgI (a b : Int) : List Int := (List.range (b - a).toNat).map fun (i : Nat) => a + (i : Int)
theorem rgV_ints (a b : Int) : rgV a b = (rgI a b).map V.int := by
  unfold rgV rgI
  rw [List.map_map]
  rfl
theorem rgI_len (a b : Int) : (rgI a b).length = (b - a).toNat := by
  unfold rgI
  rw [List.length_map, List.length_range]
theorem rgI_nd (a b : Int) : (rgI a b).Nodup := by
  unfold rgI
  refine List.pairwise_map.2 (List.nodup_range.imp ?_)
  intro x y h e
  exact h (by omega)
theorem rgI_mem {a b v : Int} (h : v ∈ rgI a b) : a ≤ v ∧ v < b := by
  unfold rgI at h
  obtain ⟨i, hi, rfl⟩ := List.mem_map.mp h
  have := List.mem_range.mp hi
  omega
theorem vals9_low {n : Nat} (n1 : n ≤ 24) : Vals9 n (rgI 1 ((n : Int) + 1)) := by
  refine ⟨by rw [rgI_len]; omega, rgI_nd _ _, fun v h => ?_⟩
  have := rgI_mem h
  omega
theorem vals9_high {n : Nat} (n1 : n ≤ 24) : Vals9 n (rgI (10000 - (n : Int)) 10000) := by
  refine ⟨by rw [rgI_len]; omega, rgI_nd _ _, fun v h => ?_⟩
  have := rgI_mem h
  omega
theorem vals9_step {n : Nat} {st : Int} (n0 : 1 ≤ n) (s0 : 1 ≤ st) (s1 : st ≤ 9999 / (n : Int)) : Vals9 n ((rgI 1 ((n : Int) + 1)).map fun v => st * v) := by
  refine ⟨by rw [List.length_map, rgI_len]; omega, List.pairwise_map.2 ((rgI_nd _ _).imp ?_), fun v h => ?_⟩
  · intro x y h e
    exact h (Int.eq_of_mul_eq_mul_left (by omega) e)
  · obtain ⟨u, hu, rfl⟩ := List.mem_map.mp h
    have b := rgI_mem hu
    have h1 : st * (n : Int) ≤ 9999 := (Int.le_ediv_iff_mul_le (by omega)).mp s1
    have h2 : st * u ≤ st * (n : Int) := Int.mul_le_mul_of_nonneg_left (by omega) (by omega)
    have h3 : 1 * 1 ≤ st * u := Int.mul_le_mul s0 b.1 (by omega) (by omega)
    omega
def VSt (p : Addr) (n : Nat) (mode : Int) (H : Hp) (σ : L2.St) (H' : Hp) : Prop := ∃ (e : Addr) (y4 : Option V) (ls : List Int), σ = [some (.ref p), some (.int n), some (.int mode), some (.ref e), y4, none, none, none] ∧
  H e = none ∧ e ≠ p ∧ H' e = some (.lst (ls.map V.int)) ∧ Vals9 n ls ∧ KeepX p H H' ∧ PoolO (H' p)
theorem KeepX.free {p q : Addr} {H H' : Hp} (k : KeepX p H H') (po : PoolO (H' p)) (n : H' q = none) : H q = none := by
  cases z : H q with
  | none => rfl
  | some o =>
    have := k q o (Ne.symm (po.ne n)) z
    rw [n] at this
    cases this
theorem vals_ifs {K : PySem.W.Frag} {p e : Addr} {n : Nat} {mode : Int} {H H2 : Hp} {tr : TS} {D : Ends} (n0 : 1 ≤ n) (n1 : n ≤ 24) (he0 : H e = none) (hep : e ≠ p) (he : H2 e = some (.lst (rgV 1 ((n : Int) + 1)))) (kx : KeepX p H H2) (po : PoolO (H2 p))
    (k : ∀ σ' H', VSt p n mode H σ' H' → tr D σ' H') :
    tSeq (tIfS (tTest (tOp rEq (tVar 2) (tC (V.int 1)))) (tAsg (tLstRg (tRg2 (tOp (rI0 fun i j => V.int (i - j)) (tC (V.int 10000)) (tVar 1)) (tC (V.int 10000)))) (gName 3)) tNext)
      (tSeq (tIfS (tTest (tOp (rI0 fun i j => V.bl (decide (i > j))) (tVar 2) (tC (V.int 1))))
        (tSeq (tAsg (tOp (rI0 fun i j => V.int (i + j)) (tC (V.int 1)) (tCall spDraw [] E0 (tCons (tVar 0) (tCons (tOp (rI CDiv fun i j => V.int (i / j)) (tC (V.int 9999)) (tVar 1)) tNil)))) (gName 4))
          (tAsg (tLc (iList K (tVar 3)) (gName 7) tYes (tOp (rI CMul fun i j => V.int (i * j)) (tVar 4) (tVar 7)) [7]) (gName 3))) tNext) tr) D
      [some (.ref p), some (.int n), some (.int mode), some (.ref e), none, none, none, none] H2 := by
  refine ⟨_, rfl, rfl, _, rfl, ite2 (fun c => ?_) (fun c => ?_)⟩
  · have cm : mode = 1 := V.int.inj (of_decide_eq_true c)
    subst cm
    refine ⟨_, rfl, _, _, rfl, rfl, _, _, rfl, rfl, ⟨by omega, by omega, by omega, by omega, by omega⟩, fun g ng => ?_⟩
    have sg := same_new (o := .lst (rgV (10000 - (n : Int)) 10000)) ng
    refine ⟨_, rfl, _, _, rfl, rfl, _, rfl, ite2 (fun c => ?_) (fun c => ?_)⟩
    · exact absurd (of_decide_eq_true c) (by decide)
    · refine k _ _ ⟨g, none, rgI (10000 - (n : Int)) 10000, rfl, kx.free po ng, Ne.symm (po.ne ng), ?_, vals9_high n1, kx.trans (.of_same sg), po.same sg⟩
      rw [upd_same, rgV_ints]
  · refine ⟨_, rfl, _, _, rfl, rfl, _, rfl, ite2 (fun c => ?_) (fun c => ?_)⟩
    · have qd : 1 ≤ (9999 : Int) / (n : Int) := (Int.le_ediv_iff_mul_le (by omega)).mpr (by omega)
      have qu : (9999 : Int) / (n : Int) ≤ 9999 := Int.ediv_le_self _ (by decide)
      refine ⟨_, rfl, _, rfl, _, _, rfl, rfl, ⟨by omega, by omega⟩, p, _, rfl, po, by omega, by omega, fun H3 r k3 po3 r0 r1 => ?_⟩
      refine ⟨_, _, rfl, rfl, ?_⟩
      have he3 := k3 _ _ hep he
      refine ⟨_, rfl, e, rfl, ⟨_, SqL.of he3⟩, fun D0 nD => ?_⟩
      have neD : e ≠ D0 := ne_of_none he3 nD
      refine lc_list (K := K) (a := e) (xs := rgV 1 ((n : Int) + 1)) (fun j G => G = upd H3 D0 (.lst (((rgI 1 ((n : Int) + 1)).take j).map fun v => V.int ((1 + r) * v)))) ?_ ?_ ?_ ?_
      · rfl
      · rintro j G _ rfl
        exact SqL.of (by rw [upd_ne neD]; exact he3)
      · rintro j x G hj rfl
        rw [rgV_ints, List.getElem?_map] at hj
        cases ev : (rgI 1 ((n : Int) + 1))[j]? with
        | none =>
          rw [ev] at hj
          cases hj
        | some v =>
          rw [ev] at hj
          cases hj
          have hv := rgI_mem (List.mem_of_getElem? ev)
          refine ⟨rfl, _, rfl, _, rfl, _, _, rfl, rfl, .inl ⟨by omega, by omega⟩, _, upd_same, ?_, ?_⟩
          · rw [List.length_map, List.length_take]
            refine small64 ?_
            rw [rgI_len]
            omega
          · rw [upd_upd, List.take_add_one, ev, List.map_append]
            rfl
      · rintro G rfl
        rw [rgV_length, List.take_of_length_le (by rw [rgI_len]; omega)]
        have sD := same_new (o := .lst ((rgI 1 ((n : Int) + 1)).map fun v => V.int ((1 + r) * v))) nD
        refine k _ _ ⟨D0, _, (rgI 1 ((n : Int) + 1)).map fun v => (1 + r) * v, rfl, (kx.trans k3).free po3 nD, Ne.symm (po3.ne nD), ?_, vals9_step n0 (by omega) (by omega), (kx.trans k3).trans (.of_same sD), po3.same sD⟩
        rw [upd_same, List.map_map]
        rfl
    · refine k _ _ ⟨e, none, rgI 1 ((n : Int) + 1), rfl, he0, hep, ?_, vals9_low n1, kx, po⟩
      rw [← rgV_ints]
      exact he
end KS
namespace KS
open PySem PySem.Spec PyProof.Rows L2
/-! ### x in t, t a tuple of plain data -/
def rInT (K : PySem.W.Frag) : V → V → Hp → VK → Prop := fun x y H Q => ∃ d ds, Dp K H x d ∧ Dp K H y (.tuple ds) ∧ SeqAt.shaped d = true ∧ SeqAt.shaped (.tuple ds) = true ∧ Q (.bl (ds.any fun z => PyData.eqv z d)) H
theorem op_inT {X : Cx} (hu : X.A.units + 65 < cLine) : OpR X (compareOp .In) (rInT X.K) := by
  intro pins s σ H x y v u Q I rx ry h
  obtain ⟨d, ds, hd, he, sd, se, q⟩ := h
  obtain ⟨as, r1⟩ := Dp.reads I d x v hd rx
  obtain ⟨bs, r2⟩ := Dp.reads I (.tuple ds) y u he ry
  refine SeqAt.in_tuple_reads r2 r1 (SeqAt.canLay_of_shaped se) (SeqAt.canLay_of_shaped sd) ?_ ⟨.bl _, H, I, rfl, q⟩
  have := SeqAt.depth_of_shaped sd
  have h2 : min (PyData.depthAll ds) d.depth ≤ d.depth := Nat.min_le_right _ _
  omega
/-! ### plans as data -/
abbrev cellD (c : Cell) : PyData := .tuple [.int c.1, .int c.2]
abbrev planD (cs : List Cell) : PyData := .tuple (cs.map cellD)
theorem dp_cell {K : PySem.W.Frag} {H : Hp} {t : Addr} {c : Cell} (h : SqT K H t [.int c.1, .int c.2]) : Dp K H (.ref t) (cellD c) := .tup h (.cons (.int _) (.cons (.int _) .nil))
theorem dp_cells {K : PySem.W.Frag} {H : Hp} : ∀ {xs : List V} {cs : List Cell}, CellsAt K H xs cs → DpAll K H xs (cs.map cellD)
  | _, _, .nil => .nil
  | _, _, .cons ⟨t, e, h⟩ r => by
    subst e
    exact .cons (dp_cell h) (dp_cells r)
theorem PlanAt.dp {K : PySem.W.Frag} {H : Hp} {a : Addr} {cs : List Cell} (h : PlanAt K H a cs) : Dp K H (.ref a) (planD cs) := by
  obtain ⟨xs, h1, h2⟩ := h
  exact .tup h1 (dp_cells h2)
theorem cell_lay (c : Cell) : (cellD c).canLay0 = true ∧ (cellD c).depth = 1 := by
  simp [PyData.canLay0, PyData.canLayAll0, PyData.depth, PyData.depthAll]
theorem cells_lay : ∀ cs : List Cell, PyData.canLayAll0 (cs.map cellD) = true ∧ PyData.depthAll (cs.map cellD) ≤ 1
  | [] => ⟨by simp only [List.map_nil, PyData.canLayAll0], by simp [PyData.depthAll]⟩
  | c :: cs => by
    obtain ⟨a, b⟩ := cells_lay cs
    obtain ⟨x, y⟩ := cell_lay c
    refine ⟨?_, ?_⟩
    · rw [List.map_cons, PyData.canLayAll0, x, a]
      rfl
    · rw [List.map_cons, PyData.depthAll, y]
      omega
theorem cell_shaped (c : Cell) : SeqAt.shaped (cellD c) = true := by
  obtain ⟨x, y⟩ := cell_lay c
  unfold SeqAt.shaped
  rw [x, y]
  rfl
theorem plan_shaped (cs : List Cell) : SeqAt.shaped (planD cs) = true := by
  obtain ⟨a, b⟩ := cells_lay cs
  unfold SeqAt.shaped
  rw [Bool.and_eq_true]
  refine ⟨?_, decide_eq_true ?_⟩
  · simp only [PyData.canLay0, a]
  · simp only [PyData.depth]
    omega
theorem cell_eqv (a b : Cell) : PyData.eqv (cellD a) (cellD b) = decide (a = b) := by
  have h : PyData.eqv (cellD a) (cellD b) = (a.1 == b.1 && (a.2 == b.2 && true)) := by
    simp only [PyData.eqv, PyData.eqvAll]
  rw [h, Bool.and_true]
  by_cases e : a = b
  · subst e
    simp
  · rw [decide_eq_false e]
    by_cases e1 : a.1 = b.1
    · have e2 : a.2 ≠ b.2 := fun z => e (Prod.ext e1 z)
      simp [e1, e2]
    · simp [e1]
theorem in_plan (cs : List Cell) (c : Cell) : ((cs.map cellD).any fun z => PyData.eqv z (cellD c)) = decide (c ∈ cs) := by
  rw [List.any_map]
  by_cases h : c ∈ cs
  · rw [decide_eq_true h, List.any_eq_true]
    exact ⟨c, h, by show PyData.eqv (cellD c) (cellD c) = true; rw [cell_eqv]; simp⟩
  · rw [decide_eq_false h, List.any_eq_false]
    intro x hx z
    have z' : PyData.eqv (cellD x) (cellD c) = true := z
    rw [cell_eqv] at z'
    have := of_decide_eq_true z'
    subst this
    exact h hx
theorem shows_plan {cs : List Cell} (g : ∀ c ∈ cs, InGrid c) (hl : cs.length ≤ 64) : Shows (planD cs) 1984 ∧ (planD cs).depth ≤ 64 := by
  refine ⟨shows_tuple (n := 30) (showsAll_of fun d hd => ?_) ?_, ?_⟩
  · obtain ⟨c, hc, rfl⟩ := List.mem_map.mp hd
    have := g c hc
    unfold InGrid at this
    refine shows_tuple (n := 14) (showsAll_of fun d hd => ?_) (by show (14 + 1) * 2 ≤ 30; decide)
    rcases List.mem_cons.mp hd with z | z
    · subst z
      exact shows_int (by omega) (by omega)
    · rcases List.mem_cons.mp z with z | z
      · subst z
        exact shows_int (by omega) (by omega)
      · cases z
  · rw [List.length_map]
    omega
  · have := (cells_lay cs).2
    simp only [PyData.depth]
    omega
/-! ### ascending lists of cells -/
theorem asc_ext2 : ∀ {l m : List Cell}, l.Pairwise lt2 → m.Pairwise lt2 → (∀ x, x ∈ l ↔ x ∈ m) → l = m
  | [], [], _, _, _ => rfl
  | [], y :: m, _, _, h => absurd ((h y).mpr List.mem_cons_self) (by simp)
  | x :: l, [], _, _, h => absurd ((h x).mp List.mem_cons_self) (by simp)
  | x :: l, y :: m, h1, h2, h => by
    rw [List.pairwise_cons] at h1 h2
    have no : ∀ a b : Cell, lt2 a b → lt2 b a → False := fun a b p q => by
      unfold lt2 at p q
      omega
    have e : x = y := by
      rcases List.mem_cons.mp ((h x).mp List.mem_cons_self) with z | z
      · exact z
      · rcases List.mem_cons.mp ((h y).mpr List.mem_cons_self) with z2 | z2
        · exact z2.symm
        · exact (no _ _ (h2.1 x z) (h1.1 y z2)).elim
    subst e
    congr 1
    refine asc_ext2 h1.2 h2.2 fun z => ⟨fun hz => ?_, fun hz => ?_⟩
    · rcases List.mem_cons.mp ((h z).mp (List.mem_cons_of_mem _ hz)) with e | e
      · exact (no _ _ (h1.1 z hz) (e ▸ h1.1 z hz)).elim
      · exact e
    · rcases List.mem_cons.mp ((h z).mpr (List.mem_cons_of_mem _ hz)) with e | e
      · exact (no _ _ (h2.1 z hz) (e ▸ h2.1 z hz)).elim
      · exact e
theorem asc_perm {l m : List Cell} (h1 : l.Pairwise lt2) (h2 : m.Pairwise lt2) (p : l.Perm m) : l = m := asc_ext2 h1 h2 fun x => p.mem_iff
def swp (c : Cell) : Cell := (c.2, c.1)
theorem nodup_swp {cs : List Cell} (h : cs.Nodup) : (cs.map swp).Nodup := by
  rw [List.nodup_iff_pairwise_ne] at h ⊢
  rw [List.pairwise_map]
  refine h.imp fun {a b} q e => q ?_
  have e0 : ((a.2, a.1) : Int × Int) = (b.2, b.1) := e
  injection e0 with e1 e2
  exact Prod.ext e2 e1
theorem good_swp {cs ds : List Cell} (g : Good cs) (p : ds.Perm (cs.map swp)) (a : ds.Pairwise lt2) : Good ds ∧ ds.length = cs.length := by
  have hl : ds.length = cs.length := by rw [p.length_eq, List.length_map]
  refine ⟨⟨a, fun d hd => ?_, fun z => ?_⟩, hl⟩
  · obtain ⟨c, hc, rfl⟩ := List.mem_map.mp (p.mem_iff.mp hd)
    have := g.grid c hc
    unfold InGrid at this ⊢
    show 0 ≤ c.2 ∧ c.2 ≤ 7 ∧ 0 ≤ c.1 ∧ c.1 ≤ 7
    omega
  · rw [z] at hl
    exact g.ne (List.eq_nil_of_length_eq_zero hl.symm)
theorem swp_back {cs ds es : List Cell} (g : cs.Pairwise lt2) (p : ds.Perm (cs.map swp)) (p2 : es.Perm (ds.map swp)) (a : es.Pairwise lt2) : es = cs := by
  refine asc_perm a g (p2.trans ?_)
  have := p.map swp
  refine this.trans ?_
  rw [List.map_map]
  have e : (swp ∘ swp) = id := by
    funext c
    rfl
  rw [e, List.map_id]
/-! ### rectangles -/
def Full (cs : List Cell) : Prop := ∀ r k : Int, (∃ c ∈ cs, c.1 ≤ r) → (∃ c ∈ cs, r ≤ c.1) → (∃ c ∈ cs, c.2 ≤ k) → (∃ c ∈ cs, k ≤ c.2) → (r, k) ∈ cs
noncomputable def rectB (cs : List Cell) : Bool := @decide (Full cs) (Classical.propDecidable _)
theorem rectB_true {cs : List Cell} (h : Full cs) : rectB cs = true := by
  unfold rectB
  exact @decide_eq_true _ (Classical.propDecidable _) h
theorem rectB_false {cs : List Cell} (h : ¬ Full cs) : rectB cs = false := by
  unfold rectB
  exact @decide_eq_false _ (Classical.propDecidable _) h
theorem full_swp {cs ds : List Cell} (p : ds.Perm (cs.map swp)) (h : Full cs) : Full ds := by
  have to : ∀ c : Cell, c ∈ ds → swp c ∈ cs := fun c hc => by
    obtain ⟨x, hx, rfl⟩ := List.mem_map.mp (p.mem_iff.mp hc)
    exact hx
  intro r k ⟨a, ha, a1⟩ ⟨b, hb, b1⟩ ⟨c, hc, c1⟩ ⟨d, hd, d1⟩
  have := h k r ⟨swp c, to c hc, c1⟩ ⟨swp d, to d hd, d1⟩ ⟨swp a, to a ha, a1⟩ ⟨swp b, to b hb, b1⟩
  exact p.mem_iff.mpr (List.mem_map.mpr ⟨(k, r), this, rfl⟩)
theorem rectB_swp {cs ds : List Cell} (p : ds.Perm (cs.map swp)) : rectB ds = rectB cs := by
  have q : cs.Perm (ds.map swp) := by
    have := (p.map swp).symm
    rw [List.map_map] at this
    have e : (swp ∘ swp) = id := by
      funext c
      rfl
    rw [e, List.map_id] at this
    exact this
  by_cases h : Full cs
  · rw [rectB_true h, rectB_true (full_swp p h)]
  · rw [rectB_false h, rectB_false fun z => h (full_swp q z)]
theorem len_of_subset : ∀ {l m : List Cell}, l.Nodup → (∀ x ∈ l, x ∈ m) → l.length ≤ m.length
  | [], _, _, _ => Nat.zero_le _
  | x :: l, m, n, h => by
    rw [List.nodup_cons] at n
    have hx := h x List.mem_cons_self
    have ih := len_of_subset (m := m.erase x) n.2 fun y hy => by
      have hne : y ≠ x := fun e => n.1 (e ▸ hy)
      exact (List.mem_erase_of_ne hne).mpr (h y (List.mem_cons_of_mem _ hy))
    rw [List.length_erase_of_mem hx] at ih
    have : 0 < m.length := List.length_pos_of_mem hx
    rw [List.length_cons]
    omega
/-- the cells of a box: n rows from r, k columns from c -/
def boxOf (r c : Int) (n k : Nat) : List Cell := (List.range n).flatMap fun (i : Nat) => rowCells (r + (i : Int)) c k
theorem box_len (r c : Int) (n k : Nat) : (boxOf r c n k).length = n * k := by
  unfold boxOf
  rw [List.length_flatMap]
  induction n with
  | zero => simp
  | succ n ih =>
    rw [List.range_succ, List.map_append, List.sum_append, ih, List.map_cons, rowCells_len, Nat.succ_mul]
    simp
theorem box_mem {r c : Int} {n k : Nat} {x : Cell} : x ∈ boxOf r c n k ↔ r ≤ x.1 ∧ x.1 < r + n ∧ c ≤ x.2 ∧ x.2 < c + k := by
  unfold boxOf
  rw [List.mem_flatMap]
  constructor
  · rintro ⟨i, hi, hx⟩
    have := List.mem_range.mp hi
    have := rowCells_mem hx
    omega
  · rintro ⟨h1, h2, h3, h4⟩
    refine ⟨(x.1 - r).toNat, List.mem_range.mpr (by omega), ?_⟩
    unfold rowCells
    refine List.mem_map.mpr ⟨(x.2 - c).toNat, List.mem_range.mpr (by omega), ?_⟩
    refine Prod.ext ?_ ?_
    · show r + ((x.1 - r).toNat : Int) = x.1
      omega
    · show c + ((x.2 - c).toNat : Int) = x.2
      omega
theorem box_asc (r c : Int) (k : Nat) : ∀ n : Nat, (boxOf r c n k).Pairwise lt2
  | 0 => List.Pairwise.nil
  | n + 1 => by
    have e : boxOf r c (n + 1) k = boxOf r c n k ++ rowCells (r + (n : Int)) c k := by
      unfold boxOf
      rw [List.range_succ, List.flatMap_append]
      simp
    rw [e, List.pairwise_append]
    refine ⟨box_asc r c k n, rowCells_asc _ _ _, fun a ha b hb => .inl ?_⟩
    have := box_mem.mp ha
    have := rowCells_mem hb
    omega
/-- the count of cells tells the rectangle -/
theorem rect_count {cs : List Cell} {a b c d : Int} (nd : cs.Nodup) (ha : a ∈ cs.map (·.1)) (ha' : ∀ x ∈ cs.map (·.1), a ≤ x) (hb : b ∈ cs.map (·.1)) (hb' : ∀ x ∈ cs.map (·.1), x ≤ b)
    (hc : c ∈ cs.map (·.2)) (hc' : ∀ x ∈ cs.map (·.2), c ≤ x) (hd : d ∈ cs.map (·.2)) (hd' : ∀ x ∈ cs.map (·.2), x ≤ d) : decide ((cs.length : Int) = (b - a + 1) * (d - c + 1)) = rectB cs := by
  have hab : a ≤ b := ha' b hb
  have hcd : c ≤ d := hc' d hd
  have inb : ∀ x ∈ cs, x ∈ boxOf a c (b - a + 1).toNat (d - c + 1).toNat := fun x hx => by
    have h1 := ha' x.1 (List.mem_map.mpr ⟨x, hx, rfl⟩)
    have h2 := hb' x.1 (List.mem_map.mpr ⟨x, hx, rfl⟩)
    have h3 := hc' x.2 (List.mem_map.mpr ⟨x, hx, rfl⟩)
    have h4 := hd' x.2 (List.mem_map.mpr ⟨x, hx, rfl⟩)
    exact box_mem.mpr ⟨h1, by omega, h3, by omega⟩
  have area : (((b - a + 1).toNat * (d - c + 1).toNat : Nat) : Int) = (b - a + 1) * (d - c + 1) := by
    rw [Int.natCast_mul, Int.toNat_of_nonneg (by omega), Int.toNat_of_nonneg (by omega)]
  have le1 := len_of_subset nd inb
  rw [box_len] at le1
  by_cases h : Full cs
  · rw [rectB_true h]
    have le2 : (boxOf a c (b - a + 1).toNat (d - c + 1).toNat).length ≤ cs.length := len_of_subset (nodup_of_asc (box_asc _ _ _ _)) fun x hx => by
      have := box_mem.mp hx
      obtain ⟨xa, ma, ea⟩ := List.mem_map.mp ha
      obtain ⟨xb, mb, eb⟩ := List.mem_map.mp hb
      obtain ⟨xc, mc, ec⟩ := List.mem_map.mp hc
      obtain ⟨xd, md, ed⟩ := List.mem_map.mp hd
      have := h x.1 x.2 ⟨xa, ma, by omega⟩ ⟨xb, mb, by omega⟩ ⟨xc, mc, by omega⟩ ⟨xd, md, by omega⟩
      exact this
    rw [box_len] at le2
    exact decide_eq_true (by rw [← area]; omega)
  · rw [rectB_false h]
    refine decide_eq_false fun e => h ?_
    rw [← area] at e
    have e' : cs.length = (b - a + 1).toNat * (d - c + 1).toNat := by omega
    intro r k ⟨x1, m1, q1⟩ ⟨x2, m2, q2⟩ ⟨x3, m3, q3⟩ ⟨x4, m4, q4⟩
    have h1 := ha' x1.1 (List.mem_map.mpr ⟨x1, m1, rfl⟩)
    have h2 := hb' x2.1 (List.mem_map.mpr ⟨x2, m2, rfl⟩)
    have h3 := hc' x3.2 (List.mem_map.mpr ⟨x3, m3, rfl⟩)
    have h4 := hd' x4.2 (List.mem_map.mpr ⟨x4, m4, rfl⟩)
    have hin : ((r, k) : Cell) ∈ boxOf a c (b - a + 1).toNat (d - c + 1).toNat := box_mem.mpr ⟨by show a ≤ r; omega, by show r < _; omega, by show c ≤ k; omega, by show k < _; omega⟩
    by_cases hm : ((r, k) : Cell) ∈ cs
    · exact hm
    · have le3 := len_of_subset (l := (r, k) :: cs) (List.nodup_cons.mpr ⟨hm, nd⟩) fun x hx => by
        rcases List.mem_cons.mp hx with z | z
        · subst z
          exact hin
        · exact inb x z
      rw [box_len, List.length_cons] at le3
      omega
end KS
namespace KS
open PySem PySem.Spec PyProof.Rows L2
def Small4 (l : List Int) : Prop := ∀ x ∈ l, 0 ≤ x ∧ x < 10000
theorem Vals9.small {n : Nat} {vs : List Int} (h : Vals9 n vs) : Small4 vs := fun x hx => by
  have := h.bd x hx
  omega
theorem getI_small {vs : List Int} (h : Small4 vs) (k : Int) : 0 ≤ getI vs k ∧ getI vs k < 10000 := by
  unfold getI
  rw [List.getD_eq_getElem?_getD]
  cases e : vs[k.toNat]? with
  | none => exact ⟨by decide, by decide⟩
  | some v => exact h v (List.mem_of_getElem? e)
theorem putZ_small : ∀ {zs : List (Int × Int)} {acc : List Int}, Small4 acc → (∀ z ∈ zs, 0 ≤ z.2 ∧ z.2 < 10000) → Small4 (putZ acc zs)
  | [], _, h, _ => h
  | z :: zs, acc, h, hz => by
    refine putZ_small (zs := zs) (acc := acc.set z.1.toNat z.2) (fun x hx => ?_) (fun y hy => hz y (List.mem_cons_of_mem _ hy))
    rcases List.mem_or_eq_of_mem_set hx with m | rfl
    · exact h x m
    · exact hz z List.mem_cons_self
theorem srtL_small {vs acc l : List Int} (h : Small4 vs) (ha : Small4 acc) : Small4 (srtL vs acc l) := by
  refine putZ_small ha fun z hz => ?_
  have m := (List.of_mem_zip (show (z.1, z.2) ∈ _ from hz)).2
  have m2 := (sortI_perm _).mem_iff.mp m
  obtain ⟨k, _, e⟩ := List.mem_map.mp m2
  rw [← e]
  exact getI_small h k
theorem foldl_small {vs : List Int} (h : Small4 vs) : ∀ (ls : List (List Int)) {acc : List Int}, Small4 acc → Small4 (ls.foldl (srtL vs) acc)
  | [], _, ha => ha
  | l :: ls, _, ha => foldl_small h ls (srtL_small h ha)
theorem srt_small {b : Bool} {cs : List Cell} {vs : List Int} (h : Small4 vs) : Small4 (srt b cs vs) := foldl_small h _ h
theorem line_small {l : List Int} (h : Small4 l) (hl : l.length ≤ 64) : Shows (lineD l) 960 ∧ (lineD l).depth ≤ 64 := ⟨shows_line h hl, by rw [depth_line]; decide⟩
/-- a plan and its values, as data -/
def tabD (cs : List Cell) (vs : List Int) : PyData := .tuple [planD cs, lineD vs]
theorem tab_small {cs : List Cell} {vs : List Int} (g : ∀ c ∈ cs, InGrid c) (hl : cs.length ≤ 64) (h : Small4 vs) (hv : vs.length ≤ 64) : Shows (tabD cs vs) 8000 ∧ (tabD cs vs).depth ≤ 64 := by
  have hp := shows_plan g hl
  have hn := line_small h hv
  refine ⟨shows_tuple (n := 1984) (showsAll_of fun d hd => ?_) (by show (1984 + 1) * 2 ≤ 8000; decide), ?_⟩
  · rcases List.mem_cons.mp hd with z | z
    · subst z
      exact hp.1
    · rcases List.mem_cons.mp z with z | z
      · subst z
        exact ⟨hn.1.short, hn.1.show_, hn.1.nod, Nat.le_trans hn.1.wt (by decide)⟩
      · cases z
  · have a := (cells_lay cs).2
    have b := (ints_lay vs).2
    show (PyData.tuple [.tuple (cs.map cellD), .tuple (vs.map PyData.int)]).depth ≤ 64
    simp only [PyData.depth, PyData.depthAll]
    omega
def rev3 {α : Type} : List α → List α
  | [a, b, c] => [c, b, a]
  | _ => []
theorem rev3_rel {zs : List V} {ws : List Value} (r : Vals zs ws) : Vals (rev3 zs) (rev3 ws) := by
  cases r with
  | nil => exact .nil
  | cons r1 r =>
    cases r with
    | nil => exact .nil
    | cons r2 r =>
      cases r with
      | nil => exact .nil
      | cons r3 r =>
        cases r with
        | nil => exact .cons r3 (.cons r2 (.cons r1 .nil))
        | cons r4 r => exact .nil
/-- the program's sort -/
def spSortL (K : PySem.W.Frag) : Sp := fun xs H Q _ => ∃ (a t : Addr) (b : Bool) (cs : List Cell) (vs : List Int), xs = [.ref a, .ref t, .str (if b = true then "C" else "R")] ∧ PlanAt K H a cs ∧ Good cs ∧ cs.length ≤ 24 ∧
  SqT K H t (vs.map V.int) ∧ Vals9 cs.length vs ∧ ∀ H' u, Same H H' → SqT K H' u ((srt b cs vs).map V.int) → Q (.ref u) H'
end KS
namespace KS
open PySem PySem.Spec PyProof.Rows L2
/-! ### a sort only moves the values -/
def one (x y : Int) : Nat := if x = y then 1 else 0
theorem count_one (x a : Int) (l : List Int) : (a :: l).count x = l.count x + one a x := by
  rw [List.count_cons]
  unfold one
  by_cases e : a = x
  · rw [if_pos e, if_pos (by simpa using e)]
  · rw [if_neg e, if_neg (by simpa using e)]
theorem count_set (x y : Int) : ∀ {l : List Int} {k : Nat} {v : Int}, l[k]? = some v → (l.set k y).count x + one v x = l.count x + one y x
  | [], k, v, h => by simp at h
  | a :: l, 0, v, h => by
    simp at h
    subst h
    show (y :: l).count x + one a x = (a :: l).count x + one y x
    rw [count_one, count_one]
    omega
  | a :: l, k + 1, v, h => by
    have h' : l[k]? = some v := by simpa using h
    have ih := count_set x y h'
    show (a :: l.set k y).count x + one v x = (a :: l).count x + one y x
    rw [count_one, count_one]
    omega
theorem getN_set {acc : List Int} {k : Nat} {y : Int} {ks : List Nat} (h : k ∉ ks) : getN (acc.set k y) ks = getN acc ks := by
  unfold getN
  refine List.map_congr_left fun j hj => ?_
  have : k ≠ j := fun e => h (e ▸ hj)
  rw [List.getD_eq_getElem?_getD, List.getD_eq_getElem?_getD, List.getElem?_set_ne this]
theorem put_count (x : Int) : ∀ {ks : List Nat} {ys acc : List Int}, ks.Nodup → ks.length = ys.length → (∀ k ∈ ks, k < acc.length) → (putN acc ks ys).count x + (getN acc ks).count x = acc.count x + ys.count x
  | [], [], acc, _, _, _ => by
    rw [putN_nil]
    rfl
  | [], _ :: _, acc, _, h, _ => by simp at h
  | _ :: _, [], acc, _, h, _ => by simp at h
  | k :: ks, y :: ys, acc, nd, hl, hb => by
    rw [List.nodup_cons] at nd
    have hk := hb k List.mem_cons_self
    obtain ⟨v, hv⟩ : ∃ v, acc[k]? = some v := ⟨acc[k], List.getElem?_eq_getElem hk⟩
    have ih := put_count x (ks := ks) (ys := ys) (acc := acc.set k y) nd.2 (by simpa using hl) (fun j hj => by
      rw [List.length_set]
      exact hb j (List.mem_cons_of_mem _ hj))
    rw [getN_set nd.1] at ih
    have cs := count_set x y hv
    rw [putN_cons]
    have eg : getN acc (k :: ks) = v :: getN acc ks := by
      unfold getN
      rw [List.map_cons, getD_of hv]
    rw [eg, count_one, count_one]
    omega
theorem put_perm {ks : List Nat} {ys acc : List Int} (nd : ks.Nodup) (hb : ∀ k ∈ ks, k < acc.length) (p : ys.Perm (getN acc ks)) : (putN acc ks ys).Perm acc := by
  rw [List.perm_iff_count]
  intro x
  have hl : ks.length = ys.length := by
    rw [p.length_eq]
    unfold getN
    rw [List.length_map]
  have := put_count x (ys := ys) nd hl hb
  rw [p.count_eq] at this
  omega
theorem asc_nodup {ks : List Nat} (h : ks.Pairwise (· < ·)) : ks.Nodup := h.imp fun q e => by omega
theorem fold_perm {vs : List Int} : ∀ {ls : List (List Nat)} {acc : List Int}, Parts acc.length ls → (∀ ks ∈ ls, ∀ k ∈ ks, acc[k]? = vs[k]?) → (ls.foldl (srtN vs) acc).Perm acc
  | [], acc, _, _ => List.Perm.refl _
  | ks :: ls, acc, P, h => by
    have pc := List.pairwise_cons.mp P.apart
    have e : getN vs ks = getN acc ks := getN_congr fun k hk => (h ks List.mem_cons_self k hk).symm
    have d : (srtN vs acc ks).Perm acc := by
      unfold srtN
      rw [e]
      exact put_perm (asc_nodup (P.asc ks List.mem_cons_self)) (P.bd ks List.mem_cons_self) (sortI_perm _)
    refine List.Perm.trans (fold_perm (ls := ls) (acc := srtN vs acc ks) ⟨fun ms hm => P.asc ms (List.mem_cons_of_mem _ hm), fun ms hm k hk => ?_, pc.2⟩ fun ms hm k hk => ?_) d
    · rw [srtN_len]
      exact P.bd ms (List.mem_cons_of_mem _ hm) k hk
    · have nk : k ∉ ks := fun m => pc.1 ms hm k m hk
      rw [show (srtN vs acc ks)[k]? = acc[k]? from putN_off nk]
      exact h ms (List.mem_cons_of_mem _ hm) k hk
theorem srt_perm {b : Bool} {cs : List Cell} {vs : List Int} (h : vs.length = cs.length) : (srt b cs vs).Perm vs := by
  rw [srt_up]
  exact fold_perm (by rw [h]; exact lns_parts b cs) fun _ _ _ _ => rfl
theorem srt9 {b : Bool} {cs : List Cell} {vs : List Int} (h : Vals9 cs.length vs) : Vals9 cs.length (srt b cs vs) := h.perm (srt_perm h.len).symm
theorem aft9 {cs : List Cell} : ∀ (w : List Bool) {vs : List Int}, Vals9 cs.length vs → Vals9 cs.length (aft cs w vs)
  | [], _, h => h
  | b :: w, _, h => aft9 w (srt9 (b := b) h)
theorem aft_perm {cs : List Cell} : ∀ (w : List Bool) {vs : List Int}, vs.length = cs.length → (aft cs w vs).Perm vs
  | [], _, _ => List.Perm.refl _
  | b :: w, vs, h => (aft_perm w (by rw [srt_len]; exact h)).trans (srt_perm (b := b) h)
theorem fix_rises {b : Bool} {cs : List Cell} {vs : List Int} (h : vs.length = cs.length) : decide (srt b cs vs = vs) = rises b cs vs := by
  cases r : rises b cs vs with
  | true => exact decide_eq_true (rises_fix h r)
  | false =>
    refine decide_eq_false fun e => ?_
    have := srt_rises (b := b) h
    rw [e, r] at this
    cases this
def spIsSorted (K : PySem.W.Frag) : Sp := fun xs H Q _ => ∃ (a t : Addr) (b : Bool) (cs : List Cell) (vs : List Int), xs = [.ref a, .ref t, .str (if b = true then "C" else "R")] ∧ PlanAt K H a cs ∧ Good cs ∧ cs.length ≤ 24 ∧
  SqT K H t (vs.map V.int) ∧ Vals9 cs.length vs ∧ ∀ H', Same H H' → Q (.bl (rises b cs vs)) H'
def spSettled (K : PySem.W.Frag) : Sp := fun xs H Q _ => ∃ (a t : Addr) (cs : List Cell) (vs : List Int), xs = [.ref a, .ref t] ∧ PlanAt K H a cs ∧ Good cs ∧ cs.length ≤ 24 ∧
  SqT K H t (vs.map V.int) ∧ Vals9 cs.length vs ∧ ∀ H', Same H H' → Q (.bl (settled cs vs)) H'
def spOther : Sp := fun xs H Q _ => ∃ b : Bool, xs = [.str (if b = true then "C" else "R")] ∧ Q (.str (if (!b) = true then "C" else "R")) H
def spRestP (K : PySem.W.Frag) : Sp := fun xs H Q _ => ∃ (a t : Addr) (b : Bool) (cs : List Cell) (vs : List Int), xs = [.ref a, .ref t, .str (if b = true then "C" else "R")] ∧ PlanAt K H a cs ∧ Good cs ∧ cs.length ≤ 24 ∧
  SqT K H t (vs.map V.int) ∧ Vals9 cs.length vs ∧ ∀ H' r u n, Same H H' → SqT K H' r [.int (n : Nat), .ref u] → SqT K H' u ((stat cs b vs n).map V.int) → RestIs cs b vs n → Q (.ref r) H'
end KS
namespace KS
open PySem PySem.Spec PyProof.Rows L2
/-- one letter, so many times -/
def rRepC : R2 := fun x y H Q => ∃ (c : Nat) (n : Nat), x = .str ⟨#[c]⟩ ∧ y = .int n ∧ 1 ≤ n ∧ n ≤ 64 ∧ Q (.str ⟨(List.replicate n c).toArray⟩) H
theorem rep_fold (c : Nat) : ∀ (n : Nat) (a : Array Nat), (List.replicate n #[c]).foldl (· ++ ·) a = a ++ (List.replicate n c).toArray
  | 0, a => by simp
  | n + 1, a => by
    rw [List.replicate_succ, List.foldl_cons, rep_fold c n, List.replicate_succ]
    apply Array.ext'
    simp
theorem op_repC {X : Cx} : OpR X (binaryOp .Mult) rRepC := by
  intro pins s σ H x y v u Q I rx ry h
  obtain ⟨c, n, rfl, rfl, n0, n1, q⟩ := h
  obtain ⟨t, rfl⟩ := rx
  obtain ⟨t', rfl⟩ := ry
  have e1 : ¬ ((n : Int) < 1) := by omega
  refine P.mul_str ?_ ?_ ?_ ?_
  · have h1 : ¬ (n : Int) < -(2 ^ 63 : Int) := by omega
    have h2 : ¬ (n : Int) ≥ 2 ^ 63 := by omega
    rw [decide_eq_false h1, decide_eq_false h2]
    rfl
  · intro _ _
    show ¬ ((1 : Int) > (2 ^ 63 - 1) / (n : Int))
    have : (1 : Int) ≤ (2 ^ 63 - 1) / (n : Int) := (Int.le_ediv_iff_mul_le (by omega)).mpr (by omega)
    omega
  · intro _ _
    show decide (1 * (n : Int).toNat > sizeLine) = false
    refine decide_eq_false ?_
    rw [sizeLine_eq]
    omega
  · rw [if_neg e1]
    by_cases e : n = 1
    · subst e
      exact ⟨.str ⟨#[c]⟩, H, I, ⟨_, rfl⟩, q⟩
    · have z : (((n : Int) == 1) || ((⟨#[c]⟩ : Str).length == 0)) = false := by
        have : ((n : Int) == 1) = false := by
          rw [beq_eq_false_iff_ne]
          omega
        rw [this]
        rfl
      rw [if_neg (by rw [z]; decide)]
      have ez : (⟨(List.replicate (n : Int).toNat (⟨#[c]⟩ : Str).cps).foldl (· ++ ·) #[]⟩ : Str) = ⟨(List.replicate n c).toArray⟩ := by
        rw [Int.toNat_natCast]
        show (⟨(List.replicate n #[c]).foldl (· ++ ·) #[]⟩ : Str) = _
        rw [rep_fold]
        simp
      rw [ez]
      refine ⟨?_, .str ⟨(List.replicate n c).toArray⟩, H, I.tok _, ⟨_, rfl⟩, q⟩
      show (List.replicate n c).toArray.size ≤ sizeLine
      rw [List.size_toArray, List.length_replicate, sizeLine_eq]
      omega
theorem wS_app (a b : List Bool) : wS a ++ wS b = wS (a ++ b) := by
  show (⟨(a.map ltr).toArray ++ (b.map ltr).toArray⟩ : Str) = ⟨((a ++ b).map ltr).toArray⟩
  rw [List.map_append]
  simp
theorem wS_rep (b : Bool) (n : Nat) : (⟨(List.replicate n (ltr b)).toArray⟩ : Str) = wS (List.replicate n b) := by
  unfold wS
  rw [List.map_replicate]
theorem wS_cut (a : List Bool) (n : Nat) (h : n ≤ a.length) : cutS (wS a) none (some (n : Int)) = wS (a.take n) := by
  have hl := wS_len a
  unfold cutS
  have e0 : HT.sIx (wS a).length 0 none = 0 := rfl
  have e1 : HT.sIx (wS a).length (wS a).length (some (n : Int)) = n := by
    rw [HT.sIx_nat, hl]
    omega
  rw [e0, e1]
  show (⟨(((a.map ltr).toArray.toList.drop 0).take (n - 0)).toArray⟩ : Str) = ⟨((a.take n).map ltr).toArray⟩
  simp
/-- a word of at most so many letters -/
def spLWord (K : PySem.W.Frag) : Sp := fun xs H Q _ => ∃ (p : Addr) (m : Nat), xs = [.ref p, .int m] ∧ PoolO (H p) ∧ m ≤ 400 ∧ ∀ H' w, KeepX p H H' → PoolO (H' p) → w.length ≤ m → Q (.str (wS w)) H'
end KS
namespace KS
open PySem PySem.Spec PyProof.Rows L2
theorem aft_small {cs : List Cell} : ∀ (w : List Bool) {vs : List Int}, Small4 vs → Small4 (aft cs w vs)
  | [], _, h => h
  | b :: w, _, h => aft_small w (srt_small (b := b) (cs := cs) h)
/-- the program's word -/
def spAfterP (K : PySem.W.Frag) : Sp := fun xs H Q _ => ∃ (a t : Addr) (w : List Bool) (cs : List Cell) (vs : List Int), xs = [.ref a, .ref t, .str (wS w)] ∧ PlanAt K H a cs ∧ Good cs ∧ cs.length ≤ 24 ∧
  SqT K H t (vs.map V.int) ∧ Vals9 cs.length vs ∧ w.length ≤ 400 ∧ ∀ H' u, Same H H' → SqT K H' u ((aft cs w vs).map V.int) → Q (.ref u) H'
theorem wS_nil : V.str (wS []) = V.str "" := by decide +kernel
theorem line_shaped (l : List Int) : SeqAt.shaped (lineD l) = true := by
  obtain ⟨h1, h2⟩ := ints_lay l
  show SeqAt.shaped (.tuple (l.map PyData.int)) = true
  unfold SeqAt.shaped
  simp only [PyData.canLay0, PyData.depth, h1, h2]
  decide
end KS
namespace KS
open PySem PySem.Spec PyProof.Rows L2
def lS (b : Bool) : Str := ⟨#[ltr b]⟩
theorem lS_w (b : Bool) : lS b = wS [b] := rfl
theorem join_ws : ∀ w : List Bool, Str.join "" (w.map lS) = wS w
  | [] => by decide +kernel
  | [b] => rfl
  | b :: c :: r => by
    have h := join_ws (c :: r)
    show lS b ++ "" ++ Str.join "" ((c :: r).map lS) = _
    rw [h, show ("" : Str) = wS [] from by decide +kernel, lS_w, wS_app, wS_app]
    rfl
theorem join_letters (w : List Bool) : Txt.join "" (w.map lS) = wS w := by
  show Builtin.Str.glued "" (w.map lS) = _
  rw [StrLaws.glued_eq_join, join_ws]
theorem lS_sum : ∀ w : List Bool, ((w.map lS).map (·.length)).sum = w.length
  | [] => rfl
  | b :: w => by
    show 1 + ((w.map lS).map (·.length)).sum = _
    rw [lS_sum w, List.length_cons]
    omega
def pcell (j : Nat) : Cell := (((j : Int) / 2), ((j : Int) / 2 + (j : Int) % 2))
def pathTo (n : Nat) : List Cell := (List.range n).map pcell
theorem pathTo_succ (n : Nat) : pathTo (n + 1) = pathTo n ++ [pcell n] := by
  unfold pathTo
  rw [List.range_succ, List.map_append]
  rfl
theorem path_good : Good (pathTo 15) := by
  refine ⟨?_, ?_, by decide⟩
  · unfold pathTo
    refine List.pairwise_map.2 (List.pairwise_lt_range.imp ?_)
    intro x y h
    show ((x : Int) / 2 < (y : Int) / 2) ∨ ((x : Int) / 2 = (y : Int) / 2 ∧ (x : Int) / 2 + (x : Int) % 2 < (y : Int) / 2 + (y : Int) % 2)
    omega
  · intro c hc
    obtain ⟨j, hj, rfl⟩ := List.mem_map.mp hc
    have := List.mem_range.mp hj
    show 0 ≤ (j : Int) / 2 ∧ (j : Int) / 2 ≤ 7 ∧ 0 ≤ (j : Int) / 2 + (j : Int) % 2 ∧ (j : Int) / 2 + (j : Int) % 2 ≤ 7
    omega
def four : List Cell := [(0, 0), (0, 1), (1, 1), (2, 0)]
theorem four_good : Good four := by
  refine ⟨?_, ?_, by decide⟩
  · simp [four, lt2]
  · simp [four, InGrid]
end KS
namespace KS
open PySem PySem.Spec PyProof.Rows L2
/-! ### a word, so many times -/
theorem rep_words (w : List Bool) : ∀ (n : Nat) (a : Array Nat), (List.replicate n (w.map ltr).toArray).foldl (· ++ ·) a = a ++ (((List.replicate n w).flatten).map ltr).toArray
  | 0, a => by simp
  | n + 1, a => by
    rw [List.replicate_succ, List.foldl_cons, rep_words w n, List.replicate_succ, List.flatten_cons, List.map_append]
    apply Array.ext'
    simp
def rRepW : R2 := fun x y H Q => ∃ (wd : List Bool) (n : Nat), x = .str (wS wd) ∧ y = .int n ∧ 2 ≤ n ∧ n ≤ 400 ∧ 1 ≤ wd.length ∧ wd.length ≤ 400 ∧ Q (.str (wS (List.replicate n wd).flatten)) H
theorem op_repW {X : Cx} : OpR X (binaryOp .Mult) rRepW := by
  intro pins s σ H x y v u Q I rx ry h
  obtain ⟨wd, n, rfl, rfl, n0, n1, w0, w1, q⟩ := h
  obtain ⟨t, rfl⟩ := rx
  obtain ⟨t', rfl⟩ := ry
  have e1 : ¬ ((n : Int) < 1) := by omega
  have hl := wS_len wd
  have hm : wd.length * n ≤ 160000 := Nat.mul_le_mul w1 n1
  refine P.mul_str ?_ ?_ ?_ ?_
  · have h1 : ¬ (n : Int) < -(2 ^ 63 : Int) := by omega
    have h2 : ¬ (n : Int) ≥ 2 ^ 63 := by omega
    rw [decide_eq_false h1, decide_eq_false h2]
    rfl
  · intro _ _
    rw [hl]
    have : (wd.length : Int) ≤ (2 ^ 63 - 1) / (n : Int) := (Int.le_ediv_iff_mul_le (by omega)).mpr (by
      have : ((wd.length * n : Nat) : Int) ≤ 160000 := by omega
      rw [Int.natCast_mul] at this
      omega)
    omega
  · intro _ _
    refine decide_eq_false ?_
    rw [hl, sizeLine_eq, Int.toNat_natCast]
    omega
  · rw [if_neg e1]
    have z : (((n : Int) == 1) || ((wS wd).length == 0)) = false := by
      have a : ((n : Int) == 1) = false := by
        rw [beq_eq_false_iff_ne]
        omega
      have b : ((wS wd).length == 0) = false := by
        rw [hl, beq_eq_false_iff_ne]
        omega
      rw [a, b]
      rfl
    rw [if_neg (by rw [z]; decide)]
    have ez : (⟨(List.replicate (n : Int).toNat (wS wd).cps).foldl (· ++ ·) #[]⟩ : Str) = wS (List.replicate n wd).flatten := by
      rw [Int.toNat_natCast]
      show (⟨(List.replicate n (wd.map ltr).toArray).foldl (· ++ ·) #[]⟩ : Str) = _
      rw [rep_words]
      unfold wS
      simp
    rw [ez]
    refine ⟨?_, .str (wS (List.replicate n wd).flatten), H, I.tok _, ⟨_, rfl⟩, q⟩
    rw [wS_len, List.length_flatten, List.map_replicate, List.sum_replicate_nat, sizeLine_eq, Nat.mul_comm]
    omega
/-! ### words one after the other -/
theorem aft_app (cs : List Cell) (w v : List Bool) (vs : List Int) : aft cs (w ++ v) vs = aft cs v (aft cs w vs) := by
  unfold aft
  rw [List.foldl_append]
theorem srt_twice {b : Bool} {cs : List Cell} {vs : List Int} (h : vs.length = cs.length) : srt b cs (srt b cs vs) = srt b cs vs :=
  rises_fix (by rw [srt_len]; exact h) (srt_rises h)
theorem settled_both {cs : List Cell} {vs : List Int} (h : settled cs vs = true) (b : Bool) : rises b cs vs = true := by
  unfold settled at h
  rw [Bool.and_eq_true] at h
  cases b
  · exact h.1
  · exact h.2
theorem aft_settled {cs : List Cell} {vs : List Int} (hl : vs.length = cs.length) (h : settled cs vs = true) : ∀ w : List Bool, aft cs w vs = vs
  | [] => rfl
  | b :: w => by
    show aft cs w (srt b cs vs) = vs
    rw [rises_fix hl (settled_both h b)]
    exact aft_settled hl h w
theorem turns_two (b : Bool) : ∀ m : Nat, (List.replicate m [b, !b]).flatten = turns b (2 * m)
  | 0 => rfl
  | m + 1 => by
    rw [List.replicate_succ, List.flatten_cons, turns_two b m]
    show b :: (!b) :: turns b (2 * m) = turns b (2 * m + 2)
    show _ = b :: (!b) :: turns (!(!b)) (2 * m)
    rw [Bool.not_not]
theorem turns_take : ∀ (n m : Nat) (b : Bool), n ≤ m → (turns b m).take n = turns b n
  | 0, _, _, _ => by simp [turns]
  | n + 1, 0, _, h => by omega
  | n + 1, m + 1, b, h => by
    show (b :: turns (!b) m).take (n + 1) = b :: turns (!b) n
    rw [List.take_succ_cons, turns_take n m (!b) (by omega)]
theorem ne_line {l m : List Int} : (!PyData.eqv (.tuple (l.map PyData.int)) (.tuple (m.map PyData.int))) = !decide (l = m) := by rw [ints_eqvT]
end KS
namespace KS
open PySem PySem.Spec PyProof.Rows L2
/-! ### programs as they lie there -/
mutual
inductive StA (K : PySem.W.Frag) (H : Hp) : V → Stp → Prop
  | w (l : List Bool) : StA K H (.str (wS l)) (.w l)
  | r {t b : Addr} {n : Int} {xs : List V} {ss : List Stp} : SqT K H t [.str "repeat", .int n, .ref b] → SqT K H b xs → StsA K H xs ss → StA K H (.ref t) (.r n ss)
inductive StsA (K : PySem.W.Frag) (H : Hp) : List V → List Stp → Prop
  | nil : StsA K H [] []
  | cons {v : V} {s : Stp} {vs : List V} {ss : List Stp} : StA K H v s → StsA K H vs ss → StsA K H (v :: vs) (s :: ss)
end
mutual
theorem StA.kt {K : PySem.W.Frag} {H H' : Hp} (k : KT K H H') : ∀ {v : V} {s : Stp}, StA K H v s → StA K H' v s
  | _, _, .w l => .w l
  | _, _, .r h1 h2 h3 => .r (k _ _ h1) (k _ _ h2) (StsA.kt k h3)
theorem StsA.kt {K : PySem.W.Frag} {H H' : Hp} (k : KT K H H') : ∀ {vs : List V} {ss : List Stp}, StsA K H vs ss → StsA K H' vs ss
  | _, _, .nil => .nil
  | _, _, .cons h1 h2 => .cons (StA.kt k h1) (StsA.kt k h2)
end
theorem StsA.len {K : PySem.W.Frag} {H : Hp} : ∀ {vs : List V} {ss : List Stp}, StsA K H vs ss → vs.length = ss.length
  | _, _, .nil => rfl
  | _, _, .cons _ h => congrArg (· + 1) (StsA.len h)
theorem StsA.get {K : PySem.W.Frag} {H : Hp} : ∀ {vs : List V} {ss : List Stp}, StsA K H vs ss → ∀ {i : Nat} {v : V}, vs[i]? = some v → ∃ s, ss[i]? = some s ∧ StA K H v s
  | _, _, .nil, i, v, e => by cases e
  | _, _, .cons h1 h2, 0, v, e => by
    cases e
    exact ⟨_, rfl, h1⟩
  | _, _, .cons h1 h2, i + 1, v, e => StsA.get h2 e
theorem StsA.app {K : PySem.W.Frag} {H : Hp} : ∀ {vs ws : List V} {ss ts : List Stp}, StsA K H vs ss → StsA K H ws ts → StsA K H (vs ++ ws) (ss ++ ts)
  | _, _, _, _, .nil, h => h
  | _, _, _, _, .cons h1 h2, h => .cons h1 (StsA.app h2 h)
/-- a program: a tuple of steps -/
def PgA (K : PySem.W.Frag) (H : Hp) (t : Addr) (ss : List Stp) : Prop := ∃ xs, SqT K H t xs ∧ StsA K H xs ss
theorem PgA.kt {K : PySem.W.Frag} {H H' : Hp} (k : KT K H H') {t : Addr} {ss : List Stp} (h : PgA K H t ss) : PgA K H' t ss := by
  obtain ⟨xs, h1, h2⟩ := h
  exact ⟨xs, k _ _ h1, h2.kt k⟩
theorem stepsL_take {ss : List Stp} {i : Nat} {s : Stp} (h : ss[i]? = some s) : stepsL (ss.take (i + 1)) = stepsL (ss.take i) + s.steps ∧ stepsL (ss.take i) + s.steps ≤ stepsL ss := by
  have e : stepsL (ss.take (i + 1)) = stepsL (ss.take i) + s.steps := by
    rw [List.take_add_one, h, stepsL_app]
    show _ + stepsL [s] = _
    simp only [stepsL]
    omega
  refine ⟨e, ?_⟩
  rw [← e]
  have := stepsL_app (ss.take (i + 1)) (ss.drop (i + 1))
  rw [List.take_append_drop] at this
  omega
theorem cntL_take {k : Bool} {ss : List Stp} {i : Nat} {s : Stp} (h : ss[i]? = some s) : cntL k (ss.take (i + 1)) = cntL k (ss.take i) + s.cnt k := by
  rw [List.take_add_one, h, cntL_app]
  show _ + cntL k [s] = _
  simp only [cntL]
  omega
/-! ### letters counted -/
theorem cnt_ltr (k : Bool) : ∀ l : List Bool, PyProof.Rows.cnt (ltr k) (l.map ltr) = ((l.countP fun b => b == k : Nat) : Int)
  | [] => cnt_nil _
  | b :: l => by
    rw [List.map_cons, cnt_cons, cnt_ltr k l, List.countP_cons]
    cases k <;> cases b <;> simp [ltr] <;> omega
theorem count_wS (k : Bool) (l : List Bool) : Txt.count (wS l) ⟨#[ltr k]⟩ = ((l.countP fun b => b == k : Nat) : Int) := by
  rw [count_cnt]
  exact cnt_ltr k l
theorem wS_ne {l : List Bool} (h : l ≠ []) : V.bl (!decide (V.str (wS l) = V.str "")) = V.bl true := by
  have : V.str (wS l) ≠ V.str "" := fun e => by
    have e := V.str.inj e
    have e2 := wS_len l
    rw [e] at e2
    have e0 : ("" : Str).length = 0 := by decide +kernel
    rw [e0] at e2
    exact h (List.length_eq_zero_iff.mp e2.symm)
  rw [decide_eq_false this]
  rfl
/-! ### the promises -/
def spIsWordG : Sp := fun xs H Q _ => ∃ l : List Bool, xs = [.str (wS l)] ∧ l.length ≤ 400 ∧ ∀ H', Same H H' → Q (.bl true) H'
def spIsRep (K : PySem.W.Frag) : Sp := fun xs H Q _ => ∃ (t b : Addr) (n : Int) (ys : List V), xs = [.ref t] ∧ SqT K H t [.str "repeat", .int n, .ref b] ∧ SqT K H b ys ∧ 1 ≤ n ∧ n ≤ 10 ^ 30 ∧ Q (.bl true) H
def spCS (K : PySem.W.Frag) (m : Nat) : Sp := fun xs H Q _ => ∃ (v : V) (s : Stp) (d room : Int), xs = [v, .int d, .int room] ∧ StA K H v s ∧ s.ok ∧ s.nest ≤ m ∧ 1 ≤ d ∧ d + (s.nest : Nat) ≤ 5 ∧ (s.steps : Nat) ≤ room ∧ ∀ H', Same H H' → Q (.int (s.steps : Nat)) H'
def spCP (K : PySem.W.Frag) : Sp := fun xs H Q _ => ∃ (t : Addr) (ss : List Stp), xs = [.ref t] ∧ PgA K H t ss ∧ okL ss ∧ nestL ss ≤ 4 ∧ stepsL ss ≤ 60 ∧ ∀ H', Same H H' → Q .non H'
def spSrt (K : PySem.W.Frag) (m : Nat) : Sp := fun xs H Q _ => ∃ (t : Addr) (ss : List Stp), xs = [.ref t] ∧ PgA K H t ss ∧ okL ss ∧ nestL ss ≤ m ∧ nestL ss ≤ 4 ∧ stepsL ss ≤ 60 ∧ ∀ H' u, Same H H' → H' u = some (.tup [.int (cntL false ss), .int (cntL true ss)]) → Q (.ref u) H'
def spOps (K : PySem.W.Frag) : Sp := fun xs H Q _ => ∃ (t : Addr) (ss : List Stp), xs = [.ref t] ∧ PgA K H t ss ∧ okL ss ∧ nestL ss ≤ 4 ∧ stepsL ss ≤ 60 ∧ ∀ H' u, Same H H' → H' u = some (.tup [.int (cntL false ss), .int (cntL true ss)]) → Q (.ref u) H'
end KS
namespace KS
open PySem PySem.Spec PyProof.Rows L2 TL
/-! ### the written words of a program -/
inductive Tk
  | op
  | cl (n : Int)
  | wd (l : List Bool)
def nmS (n : Int) : Str := Str.ofString (toString n)
def Tk.str : Tk → Str
  | .op => "("
  | .cl n => (")x" : Str) ++ nmS n
  | .wd l => wS l
mutual
def Stp.tks : Stp → List Tk
  | .w l => [.wd l]
  | .r n b => .op :: (tksL b ++ [.cl n])
def tksL : List Stp → List Tk
  | [] => []
  | s :: b => s.tks ++ tksL b
end
theorem tksL_app : ∀ a b : List Stp, tksL (a ++ b) = tksL a ++ tksL b
  | [], b => by rw [List.nil_append]; simp only [tksL]; rw [List.nil_append]
  | s :: a, b => by
    rw [List.cons_append]
    simp only [tksL]
    rw [tksL_app a b, List.append_assoc]
theorem tks_ne (s : Stp) : s.tks ≠ [] := by
  cases s with
  | w l => simp only [Stp.tks]; exact List.cons_ne_nil _ _
  | r n b => simp only [Stp.tks]; exact List.cons_ne_nil _ _
theorem tksL_flat : ∀ b : List Stp, (b.map Stp.tks).flatten = tksL b
  | [] => by simp only [tksL]; rfl
  | s :: b => by
    rw [List.map_cons, List.flatten_cons, tksL_flat b]
    simp only [tksL]
/-! ### joined by blanks -/
def jn (L : List Str) : Str := Txt.join (" " : Str) L
theorem tl_sp : tl (" " : Str) = [32] := by decide +kernel
theorem tl_jn (L : List Str) : tl (jn L) = joinL [32] (L.map tl) := by
  unfold jn
  rw [join_eq, tl_join, tl_sp]
theorem joinL_app (S : List Nat) : ∀ (a b : List (List Nat)), a ≠ [] → b ≠ [] → joinL S (a ++ b) = joinL S a ++ (S ++ joinL S b)
  | [], b, h, _ => absurd rfl h
  | [p], [], _, h => absurd rfl h
  | [p], q :: r, _, _ => rfl
  | p :: q :: r, b, _, h => by
    have ih := joinL_app S (q :: r) b (List.cons_ne_nil _ _) h
    show joinL S (p :: q :: (r ++ b)) = _
    show p ++ (S ++ joinL S (q :: (r ++ b))) = (p ++ (S ++ joinL S (q :: r))) ++ (S ++ joinL S b)
    have e : joinL S (q :: (r ++ b)) = joinL S (q :: r ++ b) := rfl
    rw [e, ih, List.append_assoc, List.append_assoc]
theorem joinL_flat (S : List Nat) : ∀ L : List (List (List Nat)), (∀ l ∈ L, l ≠ []) → joinL S (L.map (joinL S)) = joinL S L.flatten
  | [], _ => rfl
  | [l], _ => by
    rw [List.map_cons, List.map_nil, List.flatten_cons, List.flatten_nil, List.append_nil]
    rfl
  | l :: m :: r, h => by
    have ih := joinL_flat S (m :: r) (fun x hx => h x (List.mem_cons_of_mem _ hx))
    have hm : m ≠ [] := h m (List.mem_cons_of_mem _ (List.mem_cons_self ..))
    have ne : (m :: r).flatten ≠ [] := by
      rw [List.flatten_cons]
      intro z
      exact hm (List.append_eq_nil_iff.mp z).1
    rw [List.flatten_cons, joinL_app S l _ (h l (List.mem_cons_self ..)) ne, ← ih]
    rfl
theorem jn_flat (L : List (List Str)) (h : ∀ l ∈ L, l ≠ []) : jn (L.map jn) = jn L.flatten := by
  refine ext_tl ?_
  rw [tl_jn, tl_jn, List.map_map]
  have e : (L.map (tl ∘ jn)) = (L.map (fun l => l.map tl)).map (joinL [32]) := by
    rw [List.map_map]
    refine List.map_congr_left fun l _ => ?_
    exact tl_jn l
  rw [e, joinL_flat [32] _ (fun l hl => ?_), List.map_flatten]
  obtain ⟨z, hz, rfl⟩ := List.mem_map.mp hl
  exact fun q => h z hz (List.map_eq_nil_iff.mp q)
theorem jn_one (x : Str) : jn [x] = x := by
  refine ext_tl ?_
  rw [tl_jn]
  rfl
theorem jn_nil : jn [] = "" := by
  refine ext_tl ?_
  rw [tl_jn]
  decide +kernel
/-! ### sizes -/
def wtS (L : List Str) : Nat := (L.map (·.length)).sum + L.length
theorem wtS_app (a b : List Str) : wtS (a ++ b) = wtS a + wtS b := by
  unfold wtS
  rw [List.map_append, List.sum_append, List.length_append]
  omega
theorem wtS_cons (a : Str) (b : List Str) : wtS (a :: b) = a.length + 1 + wtS b := by
  unfold wtS
  rw [List.map_cons, List.sum_cons, List.length_cons]
  omega
theorem wtS_nil : wtS [] = 0 := rfl
theorem joinL_len : ∀ L : List (List Nat), (joinL [32] L).length ≤ (L.map List.length).sum + L.length
  | [] => Nat.le_refl _
  | [p] => by
    show p.length ≤ _
    rw [List.map_cons, List.sum_cons]
    omega
  | p :: q :: r => by
    have ih := joinL_len (q :: r)
    show (p ++ ([32] ++ joinL [32] (q :: r))).length ≤ _
    rw [List.length_append, List.length_append, List.map_cons, List.sum_cons, List.length_cons (a := p)]
    show p.length + (1 + (joinL [32] (q :: r)).length) ≤ _
    omega
theorem jn_len (L : List Str) : (jn L).length ≤ wtS L := by
  have := joinL_len (L.map tl)
  rw [len_tl, tl_jn]
  unfold wtS
  rw [List.map_map, List.length_map] at this
  have e : L.map (List.length ∘ tl) = L.map (·.length) := List.map_congr_left fun x _ => (len_tl x).symm
  rw [e] at this
  exact this
theorem nm_tl {n : Int} (h : 0 ≤ n) : tl (nmS n) = numL n.toNat := by
  obtain ⟨k, rfl⟩ := Int.eq_ofNat_of_zero_le h
  unfold nmS
  rw [tl_num, Int.toNat_natCast]
theorem nm_len {n : Int} (h : 0 ≤ n) (h2 : n ≤ 10 ^ 30) : (nmS n).length ≤ 31 := by
  rw [len_tl, nm_tl h]
  refine numL_len (by decide) ?_
  have : n.toNat ≤ 10 ^ 30 := by
    obtain ⟨k, rfl⟩ := Int.eq_ofNat_of_zero_le h
    rw [Int.toNat_natCast]
    exact_mod_cast h2
  have e : (10 : Nat) ^ 30 < 10 ^ 31 := by decide +kernel
  omega
theorem op_len : Tk.op.str.length = 1 := by decide +kernel
theorem cx_tl : tl (")x" : Str) = [41, 120] := by decide +kernel
theorem cl_tl {n : Int} (h : 0 ≤ n) : tl (Tk.cl n).str = 41 :: 120 :: numL n.toNat := by
  show tl ((")x" : Str) ++ nmS n) = _
  rw [tl_append, cx_tl, nm_tl h]
  rfl
theorem cl_len {n : Int} (h : 0 ≤ n) (h2 : n ≤ 10 ^ 30) : (Tk.cl n).str.length ≤ 33 := by
  rw [len_tl, cl_tl h]
  have := nm_len h h2
  rw [len_tl, nm_tl h] at this
  show (numL n.toNat).length + 1 + 1 ≤ 33
  omega
abbrev tkS (L : List Tk) : List Str := L.map Tk.str
mutual
theorem wt_tks : ∀ s : Stp, s.ok → wtS (tkS s.tks) ≤ 401 * s.steps
  | .w l, h => by
    simp only [Stp.ok] at h
    simp only [Stp.tks, Stp.steps]
    show wtS [wS l] ≤ _
    rw [wtS_cons, wtS_nil, wS_len]
    omega
  | .r n b, h => by
    simp only [Stp.ok] at h
    simp only [Stp.tks, Stp.steps]
    have ih := wt_tksL b h.2.2
    show wtS (Tk.op.str :: tkS (tksL b ++ [.cl n])) ≤ _
    have e : tkS (tksL b ++ [.cl n]) = tkS (tksL b) ++ [(Tk.cl n).str] := List.map_append
    rw [wtS_cons, e, wtS_app, wtS_cons, wtS_nil, op_len]
    have := cl_len (show 0 ≤ n by omega) h.2.1
    omega
theorem wt_tksL : ∀ b : List Stp, okL b → wtS (tkS (tksL b)) ≤ 401 * stepsL b
  | [], _ => by
    simp only [tksL, stepsL]
    exact Nat.le_refl _
  | s :: b, h => by
    simp only [okL] at h
    simp only [tksL, stepsL]
    have i1 := wt_tks s h.1
    have i2 := wt_tksL b h.2
    have e : tkS (s.tks ++ tksL b) = tkS s.tks ++ tkS (tksL b) := List.map_append
    rw [e, wtS_app]
    omega
end
theorem wtS_len (L : List Str) : L.length ≤ wtS L := by
  unfold wtS
  omega
/-! ### words are free of blanks, and told apart -/
mutual
theorem tk_free : ∀ s : Stp, s.ok → ∀ p ∈ tkS s.tks, 32 ∉ tl p
  | .w l, h => by
    simp only [Stp.tks]
    intro p hp
    have : p = wS l := List.mem_singleton.mp hp
    subst this
    intro hc
    have hc' : 32 ∈ (l.map ltr).toArray.toList := hc
    rw [List.toList_toArray] at hc'
    obtain ⟨b, _, e⟩ := List.mem_map.mp hc'
    cases b <;> exact absurd e (by decide)
  | .r n b, h => by
    simp only [Stp.ok] at h
    simp only [Stp.tks]
    intro p hp
    have e : tkS (Tk.op :: (tksL b ++ [.cl n])) = Tk.op.str :: (tkS (tksL b) ++ [(Tk.cl n).str]) := by
      show Tk.op.str :: List.map Tk.str (tksL b ++ [.cl n]) = _
      rw [List.map_append]
      rfl
    rw [e] at hp
    rcases List.mem_cons.mp hp with rfl | hp
    · decide +kernel
    · rcases List.mem_append.mp hp with hp | hp
      · exact tkL_free b h.2.2 p hp
      · have : p = (Tk.cl n).str := List.mem_singleton.mp hp
        subst this
        rw [cl_tl (by omega)]
        intro z
        rcases List.mem_cons.mp z with z | z
        · exact absurd z (by decide)
        · rcases List.mem_cons.mp z with z | z
          · exact absurd z (by decide)
          · exact numL_free (.inl (by decide)) z
theorem tkL_free : ∀ b : List Stp, okL b → ∀ p ∈ tkS (tksL b), 32 ∉ tl p
  | [], _ => by
    simp only [tksL]
    intro p hp
    cases hp
  | s :: b, h => by
    simp only [okL] at h
    simp only [tksL]
    intro p hp
    have e : tkS (s.tks ++ tksL b) = tkS s.tks ++ tkS (tksL b) := List.map_append
    rw [e] at hp
    rcases List.mem_append.mp hp with hp | hp
    · exact tk_free s h.1 p hp
    · exact tkL_free b h.2 p hp
end
theorem split_jn {L : List Str} (hne : L ≠ []) (h : ∀ p ∈ L, 32 ∉ tl p) : Txt.split (jn L) " " = L := split_join tl_sp (by decide +kernel) hne h
/-! ### the reading machine -/
def mach : List (List Stp) → List Tk → Option (List (List Stp))
  | stk, [] => some stk
  | [], _ :: _ => none
  | a :: r, .wd l :: t => mach ((a ++ [.w l]) :: r) t
  | a :: r, .op :: t => mach ([] :: a :: r) t
  | [_], .cl _ :: _ => none
  | a :: b :: r, .cl n :: t => mach ((b ++ [.r n a]) :: r) t
mutual
theorem mach_tks : ∀ (s : Stp) (a : List Stp) (r : List (List Stp)) (t : List Tk), mach (a :: r) (s.tks ++ t) = mach ((a ++ [s]) :: r) t
  | .w l, a, r, t => by
    simp only [Stp.tks]
    show mach (a :: r) (.wd l :: t) = _
    rw [mach]
  | .r n b, a, r, t => by
    simp only [Stp.tks]
    show mach (a :: r) (.op :: ((tksL b ++ [.cl n]) ++ t)) = _
    rw [mach, List.append_assoc, mach_tksL b [] (a :: r), List.nil_append]
    show mach (b :: a :: r) (.cl n :: t) = _
    rw [mach]
theorem mach_tksL : ∀ (b : List Stp) (a : List Stp) (r : List (List Stp)) (t : List Tk), mach (a :: r) (tksL b ++ t) = mach ((a ++ b) :: r) t
  | [], a, r, t => by
    simp only [tksL]
    rw [List.nil_append, List.append_nil]
  | s :: b, a, r, t => by
    simp only [tksL]
    rw [List.append_assoc, mach_tks s a r, mach_tksL b (a ++ [s]) r, List.append_assoc]
    rfl
end
theorem mach_all (ss : List Stp) : mach [[]] (tksL ss) = some [ss] := by
  have := mach_tksL ss [] [] []
  rw [List.append_nil, List.nil_append] at this
  rw [this]
  rw [mach]
/-! the numbers of written repeats -/
mutual
theorem tk_cl : ∀ (s : Stp), s.ok → ∀ n, Tk.cl n ∈ s.tks → 1 ≤ n ∧ n ≤ 10 ^ 30
  | .w l, h => by
    simp only [Stp.tks]
    intro n hn
    cases List.mem_singleton.mp hn
  | .r m b, h => by
    simp only [Stp.ok] at h
    simp only [Stp.tks]
    intro n hn
    rcases List.mem_cons.mp hn with e | hn
    · cases e
    · rcases List.mem_append.mp hn with hn | hn
      · exact tkL_cl b h.2.2 n hn
      · cases List.mem_singleton.mp hn
        exact ⟨h.1, h.2.1⟩
theorem tkL_cl : ∀ (b : List Stp), okL b → ∀ n, Tk.cl n ∈ tksL b → 1 ≤ n ∧ n ≤ 10 ^ 30
  | [], _ => by
    simp only [tksL]
    intro n hn
    cases hn
  | s :: b, h => by
    simp only [okL] at h
    simp only [tksL]
    intro n hn
    rcases List.mem_append.mp hn with hn | hn
    · exact tk_cl s h.1 n hn
    · exact tkL_cl b h.2 n hn
end
theorem wd_ne_op (l : List Bool) : wS l ≠ "(" := fun e => by
  have e := congrArg tl e
  have e2 : tl ("(" : Str) = [40] := by decide +kernel
  rw [e2] at e
  have e3 : l.map ltr = [40] := by
    have : tl (wS l) = l.map ltr := List.toList_toArray
    rw [← this]
    exact e
  cases l with
  | nil => cases e3
  | cons b l =>
    rw [List.map_cons] at e3
    have := (List.cons.inj e3).1
    cases b <;> exact absurd this (by decide)
theorem cl_ne_op {n : Int} (h : 0 ≤ n) : (Tk.cl n).str ≠ "(" := fun e => by
  have e := congrArg tl e
  have e2 : tl ("(" : Str) = [40] := by decide +kernel
  rw [e2, cl_tl h] at e
  exact absurd (List.cons.inj e).1 (by decide)
theorem sw_cl {n : Int} (h : 0 ≤ n) : Txt.startswith (Tk.cl n).str ")x" = true := by
  unfold Txt.startswith
  have e1 : (")x" : Str).length = 2 := by decide +kernel
  have e2 := len_tl (Tk.cl n).str
  rw [cl_tl h] at e2
  have e3 : Builtin.Str.subAt (Tk.cl n).str ")x" 0 = true := by
    rw [StrLaws.subAt_eq, e1]
    show (List.take 2 (List.drop 0 (tl (Tk.cl n).str)) == tl (")x" : Str)) = true
    rw [cl_tl h, cx_tl]
    rfl
  rw [e3, e1, e2]
  show (decide (0 + 2 ≤ (numL n.toNat).length + 1 + 1) && true) = true
  rw [decide_eq_true (by omega)]
  rfl
theorem sw_wd (l : List Bool) : Txt.startswith (wS l) ")x" = false := by
  unfold Txt.startswith
  have e1 : (")x" : Str).length = 2 := by decide +kernel
  have e3 : Builtin.Str.subAt (wS l) ")x" 0 = false := by
    rw [StrLaws.subAt_eq, e1]
    show (List.take 2 (List.drop 0 (tl (wS l))) == tl (")x" : Str)) = false
    have : tl (wS l) = l.map ltr := List.toList_toArray
    rw [this, cx_tl, List.drop_zero]
    cases l with
    | nil => rfl
    | cons b l =>
      cases b <;> cases l <;> rfl
  rw [e3, Bool.and_false]
theorem cut_cl {n : Int} (h : 0 ≤ n) : (⟨((tl (Tk.cl n).str).drop 2).toArray⟩ : Str) = nmS n := by
  refine ext_tl ?_
  rw [tl_mk, cl_tl h, nm_tl h]
  rfl
/-! ### numbers read back -/
theorem dec_digit : ∀ c : Nat, 48 ≤ c ∧ c ≤ 57 → Unicode.isDecimal c = true := by
  intro c ⟨h1, h2⟩
  have : c = 48 ∨ c = 49 ∨ c = 50 ∨ c = 51 ∨ c = 52 ∨ c = 53 ∨ c = 54 ∨ c = 55 ∨ c = 56 ∨ c = 57 := by omega
  rcases this with e | e | e | e | e | e | e | e | e | e <;> subst e <;> decide +kernel
theorem nm_dec {n : Int} (h : 0 ≤ n) : Txt.isdecimal (nmS n) = true := by
  unfold Txt.isdecimal
  have l0 : 0 < (nmS n).length := by
    rw [len_tl, nm_tl h]
    exact List.length_pos_iff.mpr (numL_ne _)
  rw [decide_eq_true (show (nmS n).length > 0 from l0), Bool.true_and, ← Array.all_toList, List.all_eq_true]
  intro c hc
  have hc' : c ∈ tl (nmS n) := hc
  rw [nm_tl h] at hc'
  exact dec_digit c (numL_digits _ c hc')
theorem nm_int {n : Int} (h : 0 ≤ n) (hl : (nmS n).length ≤ 640) : intText? (nmS n) = some n := by
  have e : n = ((n.toNat : Nat) : Int) := (Int.toNat_of_nonneg h).symm
  have e2 := int_num (n := n.toNat) (by rw [← nm_tl h, ← len_tl]; omega)
  rw [← e] at e2
  exact e2
theorem dot_dec : Txt.isdecimal ("." : Str) = false := by
  unfold Txt.isdecimal
  decide +kernel
end KS
namespace KS
open PySem PySem.Spec PyProof.Rows L2
/-! ### zip(t, l): t a tuple, l a list, of one length -/
def ItTL (K : PySem.W.Frag) (a b : Addr) : It where
  go := fun i H => ∃ (ts ls : List V) (x y : V), SqT K H a ts ∧ SqL K H b ls ∧ ts[i]? = some x ∧ ls[i]? = some y
  yld := fun i H v H' => ∃ (T : Addr) (x y : V), v = .ref T ∧ H T = none ∧ H' = upd H T (.tup [x, y]) ∧ (∀ ts, SqT K H a ts → ts[i]? = some x) ∧ (∀ ls, SqL K H b ls → ls[i]? = some y)
  stop := fun i H => ∃ ts ls : List V, SqT K H a ts ∧ SqL K H b ls ∧ ts.length = i ∧ ls.length = i
def TLs (a b z TI TO i1 i2 : Addr) (i : Nat) (h : Heap) : Prop :=
  IsZip h z TI TO .none ∧ IsTupOf2 h TI (.ref i1) (.ref i2) ∧ (∃ x y, IsTupOf2 h TO x y) ∧ h.IsTupleIter i1 a i ∧ h.IsListIter i2 b i
theorem mem5 {c z TI TO i1 i2 : Addr} (h : c ∈ [z, TI, TO, i1, i2]) : c = z ∨ c = TI ∨ c = TO ∨ c = i1 ∨ c = i2 := by simpa using h
theorem out4 {c z TI TO i1 i2 : Addr} (h : c ∉ [z, TI, TO, i1, i2]) : c ≠ z ∧ c ≠ TO ∧ c ≠ i1 ∧ c ≠ i2 := by
  simp only [List.mem_cons, not_or] at h
  exact ⟨h.1, h.2.2.1, h.2.2.2.1, h.2.2.2.2.1⟩
theorem apart_sep {z TI TO i1 i2 a b : Addr} (D : ZipApart z TI TO i1 i2 a b) : ZipSep2 z TI TO i1 i2 [i1, a] [i2, b] where
  TIz := D.TIz
  TOz := D.TOz
  TITO := D.TITO
  TIi1 := D.TIi1
  TIi2 := D.TIi2
  mem1 := List.mem_cons_self
  mem2 := List.mem_cons_self
  zf1 := by simp [D.i1z.symm, D.l1z.symm]
  zf2 := by simp [D.i2z.symm, D.l2z.symm]
  Tf1 := by simp [D.TOi1, D.l1TO.symm]
  Tf2 := by simp [D.TOi2, D.l2TO.symm]
  sep1_2 := by simp [D.i12, D.l2i1.symm]
  sep2_1 := by simp [D.i12.symm, D.l1i2.symm]
theorem tls_lt {a b z TI TO i1 i2 : Addr} {i : Nat} {h : Heap} (st : TLs a b z TI TO i1 i2 i h) {c : Addr} (hc : c ∈ [z, TI, TO, i1, i2]) : ∃ o, h.get? c = some o ∧ ∀ v, o.data ≠ .cell v := by
  obtain ⟨q0, q1, ⟨x, y, q2⟩, ⟨o3, q3, _, d3⟩, ⟨o4, q4, _, d4⟩⟩ := st
  rcases mem5 hc with e | e | e | e | e <;> subst e
  · exact ⟨_, q0, fun v z => nomatch z⟩
  · exact ⟨_, q1, fun v z => nomatch z⟩
  · exact ⟨_, q2, fun v z => nomatch z⟩
  · exact ⟨o3, q3, fun v z => by rw [d3] at z; cases z⟩
  · exact ⟨o4, q4, fun v z => by rw [d4] at z; cases z⟩
theorem turn_TL {P : Program} {w : World} {K : PySem.W.Frag} {elts : List Expr} {kk : Nat} {tpos : Pos} {a b z TI TO i1 i2 : Addr} (D : ZipApart z TI TO i1 i2 a b) :
    Turn P w K (.Tuple elts kk tpos) (ItTL K a b) [z, TI, TO, i1, i2] z (TLs a b z TI TO i1 i2) where
  mem := List.mem_cons_self
  obj := fun i h st c hc => tls_lt st hc
  keep := fun i h h' st k => by
    obtain ⟨q0, q1, ⟨x, y, q2⟩, q3, q4⟩ := st
    exact ⟨k z (by simp) _ q0, k TI (by simp) _ q1, ⟨x, y, k TO (by simp) _ q2⟩, q3.at fun o e => k i1 (by simp) o e, q4.at fun o e => k i2 (by simp) o e⟩
  self := fun A i s Q E st h => wpAny_pyIter_zip st.1 h
  item := by
    intro X hP hw hK hc i pins s σ H E I hf st hg
    subst hP hw hK
    have st0 := st
    obtain ⟨q0, q1, ⟨x0, y0, q2⟩, q3, q4⟩ := st
    obtain ⟨ts, ls, x, y, ht, hl, ex, ey⟩ := hg
    obtain ⟨its, rv, p1, _⟩ := I.tuple ht
    obtain ⟨jts, rw', p2, _⟩ := I.list hl
    obtain ⟨u, hu, ru⟩ := rv.get ex
    obtain ⟨v, hv, rv'⟩ := rw'.get ey
    have n1 : i < its.toArray.size := by
      have := (List.getElem?_eq_some_iff.mp hu).1
      simpa using this
    have n2 : i < jts.toArray.size := by
      have := (List.getElem?_eq_some_iff.mp hv).1
      simpa using this
    have hh : X.A.in1.handled = none := I.ok.hd hc
    have zlt : z < s.heap.objs.size := Heap.lt_size q0
    refine wpAny_pyNext_zipD2_item (apart_sep D) (Draws.tuple hh i1 a D.l1i1 its.toArray) (Draws.list hh i2 b D.l2i2 jts.toArray) q0 q1 q2 ⟨q3, p1⟩ ⟨q4, p2.isList⟩ n1 n2 fun u' v' h1 tk hu' hv' z1 o1 a1 b1 hT sz kp => ?_
    have eu : u' = u := by
      have z : its[i]? = some u' := by simpa using hu'
      rw [hu] at z
      exact (Option.some.inj z).symm
    have ev : v' = v := by
      have z : jts[i]? = some v' := by simpa using hv'
      rw [hv] at z
      exact (Option.some.inj z).symm
    subst eu ev
    refine ⟨_, rfl, wpAny_letOwnedTupleGo_zip (s := { s with heap := h1, toks := tk }) z1 fun h2 z2 sb => ?_⟩
    have hT2 : h2.get? s.heap.objs.size = some { cls := .type "tuple", data := .seq #[u', v'] } := (sb.2 _ (Nat.ne_of_gt zlt)).trans hT
    have nw : ObjOk X.prog X.w (upd H s.heap.objs.size (.tup [x, y])) h2 s.heap.objs.size (.tup [x, y]) := ⟨by show 2 ≤ sizeLine; decide, [u', v'], .cons ru (.cons rv' .nil), ⟨_, hT2, rfl, _, rfl⟩⟩
    have I1 : Inv X pins σ (upd H s.heap.objs.size (.tup [x, y])) { s with heap := h2, toks := tk } := by
      refine I.turnedNew (ch := [z, TI, TO, i1, i2]) (fun c o n e => ?_) hf (Nat.le_refl _) nw
      obtain ⟨n1, n2, n3, n4⟩ := out4 n
      exact (sb.2 c n1).trans (kp c o n1 n2 n3 n4 e)
    refine ⟨.ref s.heap.objs.size, _, I1, rfl, ⟨_, x, y, rfl, I.hok.fresh (Nat.le_refl _), rfl, fun m hm => by rw [I.tuple_inj hm ht]; exact ex, fun m hm => by rw [I.list_inj hm hl]; exact ey⟩, ⟨z2, ?_, ⟨u', v', ?_⟩, ?_, ?_⟩, fun c hcm => ?_⟩
    · exact (sb.2 TI D.TIz).trans (kp TI _ D.TIz D.TITO D.TIi1 D.TIi2 q1)
    · exact (sb.2 TO D.TOz).trans o1
    · exact a1.1.at fun o e => (sb.2 i1 D.i1z).trans e
    · exact b1.1.at fun o e => (sb.2 i2 D.i2z).trans e
    · obtain ⟨o, ho, _⟩ := tls_lt st0 hcm
      rw [upd_ne (Nat.ne_of_lt (Heap.lt_size ho))]
      exact (hf c hcm).1
  done := by
    intro X hP hw hK hc i pins s σ H E I hf st hg
    subst hP hw hK
    obtain ⟨q0, q1, ⟨x0, y0, q2⟩, q3, q4⟩ := st
    obtain ⟨ts, ls, ht, hl, e1, e2⟩ := hg
    obtain ⟨its, rv, p1, _⟩ := I.tuple ht
    obtain ⟨jts, rw', p2, _⟩ := I.list hl
    have m1 : its.toArray.size = i := by
      have := rv.length
      simp
      omega
    have m2 : jts.toArray.size = i := by
      have := rw'.length
      simp
      omega
    have hh : X.A.in1.handled = none := I.ok.hd hc
    refine wpAny_pyNext_zipD2_end (apart_sep D) (Draws.tuple hh i1 a D.l1i1 its.toArray) (Draws.list hh i2 b D.l2i2 jts.toArray) q0 q1 q2 ⟨q3, p1⟩ ⟨q4, p2.isList⟩ (by omega) (by omega) (.inl m1.symm) fun h1 tk kp => ⟨rfl, ?_⟩
    refine I.turnedL (ch := [z, TI, TO, i1, i2]) (fun c o n e => ?_) hf
    obtain ⟨n1, n2, n3, n4⟩ := out4 n
    exact kp c o n1 n2 n3 n4 e
def iZipTL (K : PySem.W.Frag) (ta : TA) : TI := fun σ H R => ta σ H fun vs H1 => ∃ a b ts ls, vs = [.ref a, .ref b] ∧ SqT K H1 a ts ∧ SqL K H1 b ls ∧ R (ItTL K a b) H1
theorem pi_zipTL {X : Cx} {e e2 : Expr} {ta : TA} {p pos tpos : Pos} {elts : List Expr} {kk : Nat} (hg : Gl X "zip") (hm : X.mg "zip" = none) (ha : PA X [e, e2] ta)
    (hs : starEach [e, e2] X.env = (false, eval e X.env) :: starEach [e2] X.env := by rfl) (hpl : (backTo pos (starEach [e2] X.env)).any (·.1) = false := by rfl) :
    PI X (.Tuple elts kk tpos) (.Call (.Name "zip" p) [e, e2] [] pos) (iZipTL X.K ta) := by
  refine ⟨fun pins s σ H R I h => Call_ (ld_blt I hg hm PyProof.Rows.boot_zip (PyProof.Rows.callWith_type1 (thn (ha.run pos pins s σ H _ I h) fun us s1 hh => ?_) hs hpl))⟩
  obtain ⟨vs, H1, I1, r1, a, b, ts, ls, ev, ht, hl, q⟩ := hh
  subst ev
  cases r1 with
  | cons r rr =>
    cases rr with
    | cons r' rr =>
      cases rr
      cases r
      cases r'
      obtain ⟨its, rv, p1, _⟩ := I1.tuple ht
      obtain ⟨jts, rw', p2, _⟩ := I1.list hl
      have la : a < s1.heap.objs.size := by
        obtain ⟨o, ho, _⟩ := id p1
        exact Heap.lt_size ho
      refine zip_begins2 (begins_tuple a its.toArray) (begins_list b jts.toArray) p1 p2.isList fun h1 z1 t1 o1 g1 g2 sz kp => wpAny_pyIter_zip z1 ?_
      have I2 : Inv X pins σ H1 { s1 with heap := h1 } := I1.kept (t' := s1.toks) kp
      refine ⟨_, [s1.heap.objs.size + 4, s1.heap.objs.size + 2, s1.heap.objs.size + 3, s1.heap.objs.size, s1.heap.objs.size + 1], _, _, H1, rfl, I2, turn_TL (PySem.W.ktu_apart s1.heap.objs.size a b la p2.lt), ⟨z1, t1, ⟨_, _, o1⟩, ⟨_, g1, rfl, rfl⟩, ⟨_, g2, rfl, rfl⟩⟩, fun c hc => ?_, q⟩
      have le : s1.heap.objs.size ≤ c := by
        rcases mem5 hc with e | e | e | e | e <;> rw [e] <;> first | exact Nat.le_add_right _ _ | exact Nat.le_refl _
      exact I1.fpOk le (I1.hok.fresh le)
/-- a loop over zip(t, l), of one length -/
theorem for_zipTL {K : PySem.W.Frag} {a b : Addr} {xs ys : List V} {g : TG} {tb : TS} {D : Ends} {σ : L2.St} {H : Hp} (hl : xs.length = ys.length) (Pv : Nat → L2.St → Hp → Prop) (h0 : Pv 0 σ H) (hq : ∀ i σ H, Pv i σ H → SqT K H a xs ∧ SqL K H b ys)
    (hs : ∀ (i : Nat) (x y : V) (T : Addr) (σ : L2.St) (G : Hp), xs[i]? = some x → ys[i]? = some y → Pv i σ G → G T = none → g (.ref T) σ (upd G T (.tup [x, y])) fun σ2 G2 => tb { D with nx := Pv (i + 1), ct := Pv (i + 1), bk := D.nx } σ2 G2) (hd : ∀ σ G, Pv xs.length σ G → D.nx σ G) :
    ∃ W : Nat → Nat → L2.St → Hp → Prop, (∃ m, W 0 m σ H) ∧ ∀ i m σ H, W i m σ H → ((ItTL K a b).stop i H ∧ D.nx σ H) ∨ ((ItTL K a b).go i H ∧ ∃ N : L2.St → Hp → Prop, (∀ σ' H', N σ' H' → ∃ m', m' < m ∧ W (i + 1) m' σ' H') ∧
      ∀ v H', (ItTL K a b).yld i H v H' → g v σ H' fun σ2 H2 => tb { D with nx := N, ct := N, bk := D.nx } σ2 H2) := by
  refine ⟨fun i m σ G => m + i = xs.length ∧ Pv i σ G, ⟨xs.length, rfl, h0⟩, fun i m σ G hw => ?_⟩
  obtain ⟨hm, p⟩ := hw
  obtain ⟨qx, qy⟩ := hq i σ G p
  cases m with
  | zero =>
    have e : i = xs.length := by omega
    subst e
    exact .inl ⟨⟨xs, ys, qx, qy, rfl, hl.symm⟩, hd σ G p⟩
  | succ m =>
    have l1 : i < xs.length := by omega
    have l2 : i < ys.length := by omega
    refine .inr ⟨⟨xs, ys, _, _, qx, qy, List.getElem?_eq_getElem l1, List.getElem?_eq_getElem l2⟩, Pv (i + 1), fun σ' G' p' => ⟨m, Nat.lt_succ_self _, by omega, p'⟩, fun v G' y => ?_⟩
    obtain ⟨T, x, y, rfl, nT, rfl, f1, f2⟩ := y
    exact hs i x y T σ G (f1 xs qx) (f2 ys qy) p nT
end KS
namespace KS
open PySem PySem.Spec PyProof.Rows L2 RZ
/-! ### dicts whose keys are tuples: {k: v for ..} -/
/-- the pair (y, z) goes into the dict at D -/
def PutT (D : Addr) (y z : V) (G : Hp) (N : Hp → Prop) : Prop := ∃ (kvs : List (List L2.Key × V)) (k : List L2.Key) (b : Addr), y = .ref b ∧ G b = some (.tup (k.map kV)) ∧ G D = some (.dT kvs) ∧ kvs.length < sizeLine ∧ N (upd G D (.dT (putK kvs k z)))
/-- one turn of such a comprehension -/
def TurnDT (J : It) (g : TG) (tt : TT) (tk tv : TE) (vs : List Nat) (σ : L2.St) (D : Addr) (i : Nat) (G : Hp) (N : Hp → Prop) : Prop :=
  ∀ x G1, J.yld i G x G1 → g x (wipe σ vs) G1 fun τ G2 => wipe τ vs = wipe σ vs ∧ tt τ G2 fun b G3 => if b = true then tk τ G3 (fun y G4 => tv τ G4 fun z G5 => PutT D y z G5 N) else N G3
def tDcT (wi : TI) (g : TG) (tt : TT) (tk tv : TE) (vs : List Nat) : TE := fun σ H Q => wi σ H fun J H1 => ∀ D, H1 D = none →
  ∃ W : Nat → Nat → Hp → Prop, (∃ m, W 0 m (upd H1 D (.dT []))) ∧
    ∀ i m G, W i m G → (J.stop i G ∧ Q (.ref D) G) ∨ (J.go i G ∧ ∃ N : Hp → Prop, (∀ G', N G' → ∃ m', m' < m ∧ W (i + 1) m' G') ∧ TurnDT J g tt tk tv vs σ D i G N)
section
variable {X : Cx}
theorem putT_set {pins : List (Addr × Obj)} {σ : L2.St} {H : Hp} {s : Shared} {E : Value → Shared → Prop} {D : Addr} {y z : V} {u r : Value} {N : Hp → Prop} {Q : Unit → Shared → Prop} (hu : X.A.units < cLine)
    (I : Inv X pins σ H s) (p : PutT D y z H N) (ry : RelV y u) (rz : RelV z r) (h : ∀ H' s', Inv X pins σ H' s' → N H' → Q () s') :
    wpAny (model X.prog X.w) X.A (dictSet D u r) Q E s := by
  obtain ⟨kvs, k, b, rfl, eb, eD, len, nx⟩ := p
  cases (show u = Value.ref b from ry)
  obtain ⟨z0, hd, xs, rel, dd⟩ := dt_of I.hok eD
  have few : xs.length ≤ sizeLine := (Paired.length rel) ▸ z0
  have few' : (putK kvs k z).length ≤ sizeLine := Nat.le_trans (length_putK kvs k z) len
  refine wpAny_dictSet_heap (knd := tupleKind (mixKind X.prog X.w)) (hsz := few) hu (key_of I.hok eb) dd (fun h' dd' hs => h _ _ ?_ nx)
  obtain ⟨q, es, ep, hq, c2, c3, c4, _, c5⟩ := dd'
  have kept : L2.KT (upd H D (.dT (putK kvs k z))) (putK kvs k z) (storedH xs k b r) :=
    (rel.put k eb rz).keeps (fun c ys ec => (upd_ne (ne_of ec eD (fun e => nomatch e))).trans ec)
  exact d_write I (eD.symm ▸ True.intro) hs ⟨q, hq⟩ ⟨few', hd, _, kept, q, es, ep, hq, c2, c3, c4, c5⟩
/-- what the block's walker leaves alone -/
theorem foot {Y : Cx} {fp : List Addr} {τ : L2.St} {G : Hp} {t : Shared} (I : Inv Y [] τ G t) (hx : ∀ b ∈ fp, b ∈ Y.ex) (hp : Y.pn = []) (hn : ∀ b ∈ fp, G b = none) : ∀ b ∈ fp, FpOk Y [] G b := by
  intro b hb
  have inx := hx b hb
  have e1 := I.ok.exf b inx
  refine ⟨hn b hb, e1.1, I.ok.exfs b inx, Or.inl inx, fun x c e => e1.2 x c e, ?_⟩
  rw [hp]
  intro p hpm
  cases hpm
theorem dcT_core {pins : List (Addr × Obj)} {s : Shared} {σ : L2.St} {H : Hp} {Q : VK} {kx vx tg iter : Expr} {ifs : List Expr} {scope : Scope} {own : List (Str × Nat)} {pos pos' : Pos} {wi : TI} {g : TG} {tt : TT} {tk tv : TE} {use : Option (Value → Sem Unit)} {Qf : Value → Shared → Prop}
    (hu : X.A.units < cLine) (hc : X.calm = true) (hN : X.N.Nodup) (I : Inv X pins σ H s) (hi : PI X tg iter wi) (ok : BlkOk X.N X.env.scope scope own)
    (hg : ∀ (s : Shared) (H : Hp) (C : Addr) (cl : List (Str × Addr)) (fp : List Addr), PG (X.blk s H scope (compEnvC scope cl C X.env) fp) tg g)
    (ht : ∀ (s : Shared) (H : Hp) (C : Addr) (cl : List (Str × Addr)) (fp : List Addr), PTs (X.blk s H scope (compEnvC scope cl C X.env) fp) ifs tt)
    (hk : ∀ (s : Shared) (H : Hp) (C : Addr) (cl : List (Str × Addr)) (fp : List Addr), PE (X.blk s H scope (compEnvC scope cl C X.env) fp) kx tk)
    (hv : ∀ (s : Shared) (H : Hp) (C : Addr) (cl : List (Str × Addr)) (fp : List Addr), PE (X.blk s H scope (compEnvC scope cl C X.env) fp) vx tv)
    (hs : ∀ x, foldedSetIterable iter X.env x = pure x) (h : tDcT wi g tt tk tv (own.map (·.2)) σ H Q)
    (fin : ∀ D C s' m H', Inv X pins σ H' s' → Q (.ref D) H' → s'.heap.Ns C m → FpOk X pins H' C → compPost (model X.prog X.w) X.A X.xe use Qf (.ref D) C (.ok .next) s') :
    wpAny (model X.prog X.w) X.A (comprehension (.DictComp kx vx [⟨tg, iter, ifs, 0⟩] scope pos) scope X.env pos' newDict false (eval iter X.env) use) Qf X.xe s := by
  have caps : ∀ y ∈ scope.names, y.2 = .free → ∃ c, X.env.cells.lookup y.1 = some c := fun y hy e => (ok.free y hy e).elim (fun k => I.ok.has _ (Or.inl k)) (fun k => I.ok.has _ (Or.inr k))
  have loc : ∀ y ∈ scope.names, y.2 = .local → scope.names.lookup y.1 = some .local := fun y hy e => e ▸ ok.uniq y hy
  refine wpAny_comprehension_free (use := use) rfl hs (closure_ok caps) ok.kind loc (thn (hi.run pins s σ H _ I h) fun xv s1 hx => ?_)
  refine thn hx fun itv s2 came => ?_
  obtain ⟨it, fp, tn, J, H2, rfl, I2, T, st2, f2, q⟩ := came
  refine wpAny_newObj_type (newEnv_comp ?_)
  have DN : H2 s2.heap.objs.size = none := I2.hok.fresh (Nat.le_refl _)
  obtain ⟨W, ⟨m0, w0⟩, turn⟩ := q _ DN
  have I3 : Inv X pins σ (upd H2 s2.heap.objs.size (.dT [])) { s2 with heap := s2.heap.push { cls := .type "dict", data := .dict #[] } } :=
    I2.laid (t' := s2.toks) (fun b o e => Heap.get?_push_of_some _ e) (Nat.le_refl _) (dt_empty s2.heap I2.big)
  have small : ∀ b ∈ fp, b < s2.heap.objs.size := fun b hb => (T.obj _ _ st2 b hb).elim fun o e => Heap.lt_size e.1
  have f3 : ∀ b ∈ fp, FpOk X pins (upd H2 s2.heap.objs.size (.dT [])) b ∧ b < (s2.heap.push { cls := .type "dict", data := .dict #[] }).objs.size := fun b hb =>
    ⟨⟨(upd_ne (Nat.ne_of_lt (small b hb))).trans (f2 b hb).1, (f2 b hb).2⟩, (Heap.size_push ..).symm ▸ Nat.lt_succ_of_lt (small b hb)⟩
  have st3 : tn 0 (s2.heap.push { cls := .type "dict", data := .dict #[] }) := T.keep _ _ _ st2 fun b _ o e => Heap.get?_push_of_some _ e
  generalize eD : s2.heap.objs.size = D at *
  generalize eH : upd H2 D (.dT []) = H3 at *
  generalize eS : ({ s2 with heap := s2.heap.push { cls := .type "dict", data := .dict #[] } } : Shared) = s3 at *
  have I4 := block_start I3 ok hN (fun b hb => by rw [← eS]; exact f3 b hb)
  have sh : s3.heap = s2.heap.push { cls := .type "dict", data := .dict #[] } := by rw [← eS]
  rw [← sh] at st3
  have st4 : tn 0 (pushCells (s3.heap.push { cls := .type "dict", data := .dict #[] }) scope.names) := T.keep _ _ _ st3 fun b _ o e => pushCells_keeps _ _ _ _ (Heap.get?_push_of_some _ e)
  have n3 : ∀ b ∈ fp, H3 b = none := fun b hb => (f3 b hb).1.1
  have pg := hg s3 H3 s3.heap.objs.size (cellsFrom (s3.heap.objs.size + 1) scope.names (cloFrom X.env.cells scope.names [])) fp
  have pt := ht s3 H3 s3.heap.objs.size (cellsFrom (s3.heap.objs.size + 1) scope.names (cloFrom X.env.cells scope.names [])) fp
  have pk := hk s3 H3 s3.heap.objs.size (cellsFrom (s3.heap.objs.size + 1) scope.names (cloFrom X.env.cells scope.names [])) fp
  have pv' := hv s3 H3 s3.heap.objs.size (cellsFrom (s3.heap.objs.size + 1) scope.names (cloFrom X.env.cells scope.names [])) fp
  have cL : (compEnvC scope (cellsFrom (s3.heap.objs.size + 1) scope.names (cloFrom X.env.cells scope.names [])) s3.heap.objs.size X.env).locals = s3.heap.objs.size := rfl
  change codeAny (model X.prog X.w) X.A (.compStart (.DictComp kx vx [⟨tg, iter, ifs, 0⟩] scope pos) 0 (.ref it) (.ref D) (compEnvC scope (cellsFrom (s3.heap.objs.size + 1) scope.names (cloFrom X.env.cells scope.names [])) s3.heap.objs.size X.env))
    (compPost (model X.prog X.w) X.A X.xe use Qf (.ref D) s3.heap.objs.size) { s3 with heap := pushCells (s3.heap.push { cls := .type "dict", data := .dict #[] }) scope.names }
  generalize compEnvC scope (cellsFrom (s3.heap.objs.size + 1) scope.names (cloFrom X.env.cells scope.names [])) s3.heap.objs.size X.env = ce at I4 pg pt pk pv' cL ⊢
  generalize e4 : ({ s3 with heap := pushCells (s3.heap.push { cls := .type "dict", data := .dict #[] }) scope.names } : Shared) = s4 at I4 ⊢
  replace st4 : tn 0 s4.heap := by
    rw [← e4]
    exact st4
  suffices loop : codeAny (model X.prog X.w) X.A (.compLoop (.DictComp kx vx [⟨tg, iter, ifs, 0⟩] scope pos) 0 (.ref it) (.ref D) ce) (compPost (model X.prog X.w) X.A X.xe use Qf (.ref D) s3.heap.objs.size) s4 from
    codeAny_compStart_dict loop (T.self X.A 0 _ _ _ st4 loop)
  refine compLoop_anyD (fun n t => ∃ i G, Inv (X.blk s3 H3 scope ce fp) [] (wipe σ (own.map (·.2))) G t ∧ tn i t.heap ∧ (∀ b ∈ fp, G b = none) ∧ W i n G) (fun n t inv => ?_) m0 ⟨0, H3, I4, st4, n3, w0⟩
  obtain ⟨i, G, IG, stG, nG, wG⟩ := inv
  rcases turn i n G wG with ⟨halt, qG⟩ | ⟨more, N, hN', body⟩
  · -- no more items
    refine thnF (T.done (X.blk s3 H3 scope ce fp) rfl rfl rfl hc i [] t _ G (fun _ _ => False) IG (foot IG (fun _ hb => hb) rfl nG) stG halt) fun r t1 both => ?_
    obtain ⟨rfl, I1⟩ := both
    have back : Inv X pins σ G t1 := I3.call' (ch := fp) I1.os I1.base I1.hok I1.bare fun b hb =>
      let ⟨_, u1, _, u2, u3, u4⟩ := (f3 b hb).1
      ⟨u2, u1, u3, u4⟩
    have freeC : G s3.heap.objs.size = none := cL ▸ (show G ce.locals = none from I1.free)
    obtain ⟨m, hn, _⟩ := I1.loc
    exact fin D s3.heap.objs.size t1 m G back qG (cL ▸ (show t1.heap.Ns ce.locals m from hn)) (I3.fpOk (Nat.le_refl _) freeC)
  · refine thnF (T.item (X.blk s3 H3 scope ce fp) rfl rfl rfl hc i [] t _ G (fun _ _ => False) IG (foot IG (fun _ hb => hb) rfl nG) stG more) fun r t1 got => ?_
    obtain ⟨u, rfl, got⟩ := got
    refine thnF got fun _ t2 ⟨x, G2, IG2, rx, yx, stx, nx⟩ => ?_
    have held := IG2.pinned (foot IG2 (fun _ hb => hb) rfl nx) (T.obj _ _ stx)
    refine thnF (pg.run _ t2 _ G2 x u _ held rx (body x G2 yx)) fun _ t3 ⟨τ, G3, IG3, weq, rest⟩ => ?_
    refine thnF (pt.run _ t3 τ G3 _ IG3 rest) fun b t4 ⟨G4, IG4, rest⟩ => ?_
    have close : ∀ {t' : Shared} {G' : Hp}, Inv (X.blk s3 H3 scope ce fp) ([] ++ pinsAt fp t2.heap) τ G' t' → N G' → ∃ m, m < n ∧ ∃ i G, Inv (X.blk s3 H3 scope ce fp) [] (wipe σ (own.map (·.2))) G t' ∧ tn i t'.heap ∧ (∀ b ∈ fp, G b = none) ∧ W i m G := by
      intro t' G' IG' nn
      obtain ⟨m', lt, w'⟩ := hN' G' nn
      have still : ∀ b ∈ fp, ∀ o, t2.heap.get? b = some o → t'.heap.get? b = some o ∧ G' b = none := by
        intro b hb o e
        have z := IG'.pin (b, o) (List.mem_append_right _ (List.mem_append_right _ (mem_pinsAt hb e)))
        exact ⟨z.1, z.2.1⟩
      have lens : (wipe σ (own.map (·.2))).length = τ.length := (congrArg List.length weq).symm.trans (wipe_length _ _)
      refine ⟨m', lt, i + 1, G', (IG'.unpinned (pins := [])).weak lens (fun j v e => (wipe_some (weq ▸ e)).1), T.keep _ _ _ stx fun b hb o e => (still b hb o e).1, ?_, w'⟩
      intro b hb
      obtain ⟨o, e, _⟩ := T.obj _ _ stx b hb
      exact (still b hb o e).2
    cases b with
    | false => exact close IG4 rest
    | true =>
      refine thnF (pk.run _ t4 τ G4 _ IG4 rest) fun uk t5 ⟨yk, G5, IG5, rk, rest⟩ => ?_
      refine thnF (pv'.run _ t5 τ G5 _ IG5 rest) fun uv t6 ⟨yv, G6, IG6, rv, put⟩ => ?_
      exact putT_set (X := X.blk s3 H3 scope ce fp) hu IG6 put rk rv fun G' t' I' nn => close I' nn
theorem ps_setDcT {i : Nat} {y : Str} {py : Pos} {kx vx tg iter : Expr} {ifs : List Expr} {scope : Scope} {own : List (Str × Nat)} {pos spos : Pos} {wi : TI} {g : TG} {tt : TT} {tk tv : TE} (hu : X.A.units < cLine) (hc : X.calm = true) (hN : X.N.Nodup) (hy : X.N[i]? = some y) (hyl : X.env.scope.names.lookup y = some .local)
    (hsw : swapsWith (.DictComp kx vx [⟨tg, iter, ifs, 0⟩] scope pos) (some (.Name y py)) spos.line X.env = pure true) (hi : PI X tg iter wi) (ok : BlkOk X.N X.env.scope scope own)
    (hg : ∀ (s : Shared) (H : Hp) (C : Addr) (cl : List (Str × Addr)) (fp : List Addr), PG (X.blk s H scope (compEnvC scope cl C X.env) fp) tg g)
    (ht : ∀ (s : Shared) (H : Hp) (C : Addr) (cl : List (Str × Addr)) (fp : List Addr), PTs (X.blk s H scope (compEnvC scope cl C X.env) fp) ifs tt)
    (hk : ∀ (s : Shared) (H : Hp) (C : Addr) (cl : List (Str × Addr)) (fp : List Addr), PE (X.blk s H scope (compEnvC scope cl C X.env) fp) kx tk)
    (hv : ∀ (s : Shared) (H : Hp) (C : Addr) (cl : List (Str × Addr)) (fp : List Addr), PE (X.blk s H scope (compEnvC scope cl C X.env) fp) vx tv)
    (hs : ∀ x, foldedSetIterable iter X.env x = pure x := by intro _; rfl) :
    PS X (.Assign [.Name y py] (.DictComp kx vx [⟨tg, iter, ifs, 0⟩] scope pos) spos) (tAsg (tDcT wi g tt tk tv (own.map (·.2))) (gName i)) := by
  refine ⟨fun pins s σ H D I h => ?_⟩
  rw [exec_Assign_Name_used _ _ _ _ hsw]
  refine wpAny_bind (wpAny_standAt (wpAny_bind ?_))
  show wpAny _ X.A (do let _ ← comprehension (.DictComp kx vx [⟨tg, iter, ifs, 0⟩] scope pos) scope X.env (firstIterPos [⟨tg, iter, ifs, 0⟩] pos) newDict false (eval iter X.env) (some (assign (.Name y py) X.env))) _ _ s
  have h : tDcT wi g tt tk tv (own.map (·.2)) σ H (fun x H1 => gName i x σ H1 D.nx) := h
  refine wpAny_bind (thn (dcT_core (Qf := fun _ s' => SP X pins D .next s') hu hc hN I hi ok hg ht hk hv hs h fun L C s' m H' I' q hn f => ?_) fun _ s' hq => wpAny_pure (wpAny_pure hq))
  show wpAny _ _ (assign (.Name y py) X.env (.ref L)) _ _ _
  refine wpAny_assign_Name (store_ok2 (v := V.ref L) I' hN hy (.inl hyl) rfl (fun s2 I2 ⟨a, sb, ha⟩ => ?_) (.inr hyl))
  obtain ⟨f0, f1, f2, f3, f4, f5⟩ := f
  have off : C ≠ a := ha.elim (fun z => z ▸ f1) (fun z e => f4 y a z e.symm)
  refine ⟨m, hn.sameBut sb off, fun h3 sb3 => ?_⟩
  exact ⟨_, H', I2.turned (t' := s2.toks) (fun b o hb e => (sb3.2 b hb).trans e) f0 f1 f3 f4 f5, q⟩
end
theorem sw_dict {kx vx : Expr} {gs : List Comprehension} {scope : Scope} {pos py : Pos} {y : Str} {l : Nat} {env : Env} (hk : env.scope.kind = .function) (hy : env.scope.names.lookup y = some .local) (hl : (py.line == pos.line) = true)
    (ha : (scope.names.any fun (n, k) => n == y && (k == .local || k == .cell)) = false) : swapsWith (.DictComp kx vx gs scope pos) (some (.Name y py)) l env = pure true := by
  have ky : env.kindOf y = some .local := hy
  have hb : env.blockKind = .function := by unfold Env.blockKind; rw [hk]; rfl
  unfold swapsWith
  simp only [hb, ky, ha, Expr.pos, hl]
  rfl
/-- a walk over two tuples side by side -/
theorem walk_zipT {K : PySem.W.Frag} {a b : Addr} {xs ys : List V} {n : Nat} (hx : xs.length = n) (hy : ys.length = n) : Walk (ItzT K a b) n (fun H => SqT K H a xs ∧ SqT K H b ys) (YPair (fun i => xs[i]?) (fun i => ys[i]?)) where
  goes := fun i H hi ⟨h1, h2⟩ => ⟨xs, ys, _, _, h1, h2, List.getElem?_eq_getElem (by omega), List.getElem?_eq_getElem (by omega)⟩
  stops := fun H ⟨h1, h2⟩ => ⟨xs, ys, h1, h2, Or.inl (by omega)⟩
  yields := fun i H x H' hi ⟨h1, h2⟩ ⟨T, x', y', e1, e2, e3, f1, f2⟩ => ⟨T, x', y', e1, e2, e3, f1 xs h1, f2 ys h2⟩
/-- such a comprehension over any walk -/
theorem dcT_it {J : It} {n : Nat} {Gd : Hp → Prop} {Y : Nat → Hp → V → Hp → Prop} (w : Walk J n Gd Y) {g : TG} {tt : TT} {tk tv : TE} {vs : List Nat} {σ : L2.St} {H1 : Hp} {D : Addr} {Qd : Hp → Prop} (Pv : Nat → Hp → Prop) (h0 : Pv 0 (upd H1 D (.dT []))) (hl : ∀ i H, i ≤ n → Pv i H → Gd H)
    (hs : ∀ i x G G1, i < n → Pv i G → Y i G x G1 → g x (wipe σ vs) G1 fun τ G2 => wipe τ vs = wipe σ vs ∧ tt τ G2 fun b G3 => if b = true then tk τ G3 (fun y G4 => tv τ G4 fun z G5 => PutT D y z G5 (Pv (i + 1))) else Pv (i + 1) G3)
    (hd : ∀ H, Pv n H → Qd H) :
    ∃ W : Nat → Nat → Hp → Prop, (∃ m, W 0 m (upd H1 D (.dT []))) ∧
      ∀ i m G, W i m G → (J.stop i G ∧ Qd G) ∨ (J.go i G ∧ ∃ N : Hp → Prop, (∀ G', N G' → ∃ m', m' < m ∧ W (i + 1) m' G') ∧ TurnDT J g tt tk tv vs σ D i G N) := by
  refine ⟨fun i m G => m + i = n ∧ Pv i G, ⟨n, rfl, h0⟩, ?_⟩
  rintro i m G ⟨e, p⟩
  have hi : i ≤ n := by omega
  have good := hl i G hi p
  rcases Nat.lt_or_ge i n with lt | ge
  · refine Or.inr ⟨w.goes i G lt good, Pv (i + 1), fun G' p' => ⟨m - 1, by omega, by omega, p'⟩, ?_⟩
    intro x G1 y
    exact hs i x G G1 lt p (w.yields i G x G1 lt good y)
  · have e2 : i = n := by omega
    subst e2
    exact Or.inl ⟨w.stops G good, hd G p⟩
end KS
namespace KS
open PySem PySem.Spec PyProof.Rows L2 RZ
/-! ### dict(zip(t1, t2)): both tuples, the keys tuples -/
section
variable {prog : Program} {w : World} {A : Around} {E : Value → Shared → Prop} {s : Shared} {z TI TO T i1 i2 l1 l2 : Addr} {f : Bool} {oT : Obj}
/-- zip's next, its last tuple still out: whatever the two walkers do -/
theorem zn_two {Q : Value → Shared → Prop} (hz : IsZipHeld s.heap z TI TO T f) (hT : s.heap.get? T = some oT) (hTI : IsPair s.heap TI (.ref i1) (.ref i2))
    (h : ∀ h₁, IsZipHeld h₁ z TI TO T true → Heap.SameBut z s.heap h₁ → wpAny (model prog w) A (Builtin.SmallTypes.nextOf (.ref i1)) (fun x s2 => wpAny (model prog w) A (Builtin.SmallTypes.nextOf (.ref i2)) (fun y s3 => Q (.ref s3.heap.objs.size) { s3 with heap := s3.heap.push { cls := .type "tuple", data := .seq #[x, y] } }) E s2) E { s with heap := h₁ }) :
    wpAny (model prog w) A (Builtin.«zip.__next__» ⟨[.ref z], []⟩) (fun fin s' => ∃ v, fin = .done (.ret v) ∧ Q v s') E s := by
  show wpAny _ _ (field (.ref z) 2 >>= _) _ _ _
  refine wpAny_bind (wpAny_field hz rfl (x := .bool false) rfl (show wpAny _ _ (field (.ref z) 3 >>= _) _ _ _ from ?_))
  refine wpAny_bind (wpAny_field hz rfl (x := .ref TI) rfl (wpAny_bind (wpAny_seqItems hTI rfl (show wpAny _ _ (Builtin.SmallTypes.ownedTupleIsFree (.ref z) >>= _) _ _ _ from ?_))))
  refine wpAny_bind (wpAny_tupleHeld_zip hz hT fun h₁ hz₁ hs₁ => ?_)
  simp only [Bool.false_eq_true, if_false]
  refine wpAny_bind ?_
  rw [← Array.forIn_toList]
  simp only [List.forIn_cons, List.forIn_nil]
  refine wpAny_bind (wpAny_bind (wpAny_holding (show wpAny _ _ (Builtin.SmallTypes.nextOf (.ref i1) >>= _) _ _ _ from ?_)))
  refine wpAny_bind (thn (h h₁ hz₁ hs₁) fun x s2 h2 => wpAny_pure (wpAny_pure ?_))
  refine wpAny_bind (wpAny_bind (wpAny_holding (show wpAny _ _ (Builtin.SmallTypes.nextOf (.ref i2) >>= _) _ _ _ from ?_)))
  refine wpAny_bind (thn h2 fun y s3 h3 => wpAny_pure (wpAny_pure (wpAny_pure ?_)))
  show wpAny _ _ (newTuple [x, y] >>= _) _ _ _
  exact wpAny_bind (wpAny_newTuple (wpAny_pure ⟨_, rfl, h3⟩))
theorem zn_py {Q : Option Value → Shared → Prop} (hz : ∃ o, s.heap.get? z = some o ∧ o.cls = .type "zip") 
    (h : wpAny (model prog w) A.in1 (Builtin.«zip.__next__» ⟨[.ref z], []⟩) (fun fin s' => ∃ v, fin = .done (.ret v) ∧ Q (some v) s') (fun e s' => ∃ b o, e = .ref b ∧ s'.heap.get? b = some o ∧ o.cls = .type "StopIteration" ∧ Q none s') s) :
    wpAny (model prog w) A (pyNext (.ref z)) Q E s := by
  have hTy : s.TypeIs (.ref z) "zip" := hz
  unfold pyNext
  refine wpAny_bind (wpAny_attempt (wpAny_callSpecial?_slot (name := Str.ofString "__next__") hTy F.slot_zip_next (wpAny_call_entry F.slot_zip_next hTy F.entry_zip_next (wpAny_mono h (fun fin s' ⟨v, e, q⟩ => ⟨v, e, wpAny_pure q⟩) fun e s' hq => ?_) (F.args_zip_next_1 _))))
  obtain ⟨b, o, rfl, ho, hc, q⟩ := hq
  exact wpAny_bind (wpAny_isInstance (T := "StopIteration") (b := true) ⟨o, ho, hc⟩ isSubtype_stop (wpAny_pure q))
end
/-- a zip of two tuples, i turns in: fresh, or its last tuple still out -/
structure ZTs (z TI TO i1 i2 l1 l2 d : Addr) (xs ys : Array Value) (i : Nat) (h : Heap) : Prop where
  hTI : IsPair h TI (.ref i1) (.ref i2)
  w1 : h.IsTupleIter i1 l1 i
  w2 : h.IsTupleIter i2 l2 i
  t1 : h.IsTuple l1 xs
  t2 : h.IsTuple l2 ys
  zz : (IsZip h z TI TO .none ∧ ∃ a b, IsPair h TO a b) ∨ ∃ T f oT, IsZipHeld h z TI TO T f ∧ h.get? T = some oT ∧ T ≠ z ∧ T ≠ i1 ∧ T ≠ i2 ∧ T ≠ d
section
variable {prog : Program} {w : World}
theorem src_zipT {A : Around} {z TI TO i1 i2 l1 l2 d : Addr} (hA : A.handled = none) (D : ZipApart z TI TO i1 i2 l1 l2) {xs ys : Array Value} {n : Nat} (hx : xs.size = n) (hy : ys.size = n) (off : d ∉ [z, TI, TO, i1, i2, l1, l2]) :
    PairSrc prog w A z d [z, TO, i1, i2] n (fun i k v => xs[i]? = some k ∧ ys[i]? = some v) (ZTs z TI TO i1 i2 l1 l2 d xs ys) := by
  simp only [List.mem_cons, List.not_mem_nil, or_false, not_or] at off
  obtain ⟨dz, dTI, dTO, di1, di2, dl1, dl2⟩ := off
  constructor
  · simp only [List.mem_cons, List.not_mem_nil, or_false, not_or]
    exact ⟨dz, dTO, di1, di2⟩
  · intro i h h' st k
    refine ⟨k _ _ (Ne.symm dTI) st.hTI, st.w1.at fun o e => k _ o (Ne.symm di1) e, st.w2.at fun o e => k _ o (Ne.symm di2) e, st.t1.at fun o e => k _ o (Ne.symm dl1) e, st.t2.at fun o e => k _ o (Ne.symm dl2) e, ?_⟩
    refine st.zz.imp (fun ⟨q, a, b, r⟩ => ⟨k _ _ (Ne.symm dz) q, a, b, k _ _ (Ne.symm dTO) r⟩) ?_
    rintro ⟨T, f, oT, q, hT, r1, r2, r3, r4⟩
    exact ⟨T, f, oT, k _ _ (Ne.symm dz) q, k _ _ r4 hT, r1, r2, r3, r4⟩
  · intro i s Q E hi st ds hQ
    have ex := Array.getElem?_eq_getElem (xs := xs) (i := i) (by omega)
    have ey := Array.getElem?_eq_getElem (xs := ys) (i := i) (by omega)
    have lt : ∀ {c o}, s.heap.get? c = some o → s.heap.objs.size ≠ c := fun e => Nat.ne_of_gt (Heap.lt_size e)
    have n1 : s.heap.objs.size ≠ i1 := st.w1.elim fun _ e => lt e.1
    have n2 : s.heap.objs.size ≠ i2 := st.w2.elim fun _ e => lt e.1
    have memo : ∀ {c : Addr}, c ∉ [z, TO, i1, i2] → c ≠ z ∧ c ≠ TO ∧ c ≠ i1 ∧ c ≠ i2 := by
      intro c hc
      simpa only [List.mem_cons, List.not_mem_nil, or_false, not_or] using hc
    rcases st.zz with ⟨q, a, b, r⟩ | ⟨T, f, oT, q, hT, r1, r2, r3, r4⟩
    · refine pyNext_zipT_item D q st.hTI r st.w1 st.w2 st.t1 st.t2 ex ey fun h' a1 a2 a3 a4 a5 a6 k => ?_
      refine hQ s.heap.objs.size _ _ h' s.toks ⟨ex, ey⟩ (Or.inl ⟨_, a5, rfl, _, rfl⟩) ?_ fun c o hc e => let ⟨c1, c2, c3, c4⟩ := memo hc; k c o c1 c2 c3 c4 e
      exact ⟨k _ _ D.TIz D.TITO D.TIi1 D.TIi2 st.hTI, a3, a4, st.t1.at fun o e => k _ o D.l1z D.l1TO D.l1i1 D.l1i2 e, st.t2.at fun o e => k _ o D.l2z D.l2TO D.l2i1 D.l2i2 e, Or.inr ⟨_, false, _, a1, a5, lt q, n1, n2, Nat.ne_of_gt ds⟩⟩
    · refine zn_py ⟨_, q, rfl⟩ (zn_two (Q := fun v s' => Q (some v) s') q hT st.hTI fun h₁ z₁ b₁ => ?_)
      refine nextOf_tuple_item (s := { s with heap := h₁ }) (st.w1.extBut b₁.extBut D.i1z) (st.t1.extBut b₁.extBut D.l1z) ex fun h₂ w₁ b₂ => ?_
      refine nextOf_tuple_item (s := { s with heap := h₂ }) ((st.w2.extBut b₁.extBut D.i2z).extBut b₂.extBut D.i12.symm) ((st.t2.extBut b₁.extBut D.l2z).extBut b₂.extBut D.l2i1) ey fun h₃ w₂ b₃ => ?_
      have k : ∀ c o, c ≠ z → c ≠ i1 → c ≠ i2 → s.heap.get? c = some o → (h₃.push { cls := .type "tuple", data := .seq #[xs[i], ys[i]] }).get? c = some o := fun c o c1 c2 c3 e => Heap.get?_push_of_some _ (b₃.extBut _ _ c3 (b₂.extBut _ _ c2 (b₁.extBut _ _ c1 e)))
      have sz : h₃.objs.size = s.heap.objs.size := (b₃.1.trans b₂.1).trans b₁.1
      show Q (some (.ref h₃.objs.size)) { s with heap := h₃.push { cls := .type "tuple", data := .seq #[xs[i], ys[i]] } }
      refine hQ h₃.objs.size _ _ _ s.toks ⟨ex, ey⟩ (Or.inl ⟨_, Heap.get?_push_size _ rfl, rfl, _, rfl⟩) ?_ fun c o hc e => let ⟨c1, _, c3, c4⟩ := memo hc; k c o c1 c3 c4 e
      refine ⟨k _ _ D.TIz D.TIi1 D.TIi2 st.hTI, (w₁.extBut b₃.extBut D.i12).at fun o e => Heap.get?_push_of_some _ e, w₂.at fun o e => Heap.get?_push_of_some _ e, st.t1.at fun o e => k _ o D.l1z D.l1i1 D.l1i2 e, st.t2.at fun o e => k _ o D.l2z D.l2i1 D.l2i2 e, Or.inr ⟨T, true, oT, ?_, k _ _ r1 r2 r3 hT, r1, r2, r3, r4⟩⟩
      exact Heap.get?_push_of_some _ (b₃.extBut _ _ D.i2z.symm (b₂.extBut _ _ D.i1z.symm z₁))
  · intro s Q E st hQ
    have ex : xs[n]? = none := Array.getElem?_eq_none (by omega)
    have memo : ∀ {c : Addr}, c ∉ [z, TO, i1, i2] → c ≠ z ∧ c ≠ TO ∧ c ≠ i1 ∧ c ≠ i2 := by
      intro c hc
      simpa only [List.mem_cons, List.not_mem_nil, or_false, not_or] using hc
    rcases st.zz with ⟨q, a, b, r⟩ | ⟨T, f, oT, q, hT, r1, r2, r3, r4⟩
    · exact pyNext_zipT_end hA D q st.hTI r st.w1 st.w2 st.t1 st.t2 (Or.inl ex) fun h' k => hQ h' s.toks fun c o hc e => let ⟨c1, c2, c3, c4⟩ := memo hc; k c o c1 c2 c3 c4 e
    · refine zn_py ⟨_, q, rfl⟩ (zn_two (Q := fun v s' => Q (some v) s') q hT st.hTI fun h₁ z₁ b₁ => ?_)
      refine nextOf_tuple_end (s := { s with heap := h₁ }) (show A.in1.handled = none from hA) (st.w1.extBut b₁.extBut D.i1z) (st.t1.extBut b₁.extBut D.l1z) ex fun h₂ e b₂ ⟨o, ho, hc⟩ => ?_
      exact ⟨e, o, rfl, ho, hc, hQ h₂ s.toks fun c o hc e => let ⟨c1, _, c3, c4⟩ := memo hc; b₂ c o c3 (b₁.extBut c o c1 e)⟩
theorem arg_zipT {z TI TO i1 i2 l1 l2 : Addr} (D : ZipApart z TI TO i1 i2 l1 l2) {xs ys : Array Value} {n : Nat} (hx : xs.size = n) (hy : ys.size = n) :
    PairArg prog w "zip" z [z, TI, TO, i1, i2, l1, l2] [z, TO, i1, i2] n (fun i k v => xs[i]? = some k ∧ ys[i]? = some v)
      (fun h => (IsZip h z TI TO .none ∧ ∃ a b, IsPair h TO a b) ∧ IsPair h TI (.ref i1) (.ref i2) ∧ (h.IsTupleIter i1 l1 0 ∧ h.IsTupleIter i2 l2 0) ∧ h.IsTuple l1 xs ∧ h.IsTuple l2 ys) := by
  constructor
  · exact fun s ok => ⟨_, ok.1.1, rfl⟩
  · decide
  · rintro h h' ⟨⟨q, a, b, r⟩, p, ⟨w1, w2⟩, t1, t2⟩ k
    exact ⟨⟨k _ _ q, a, b, k _ _ r⟩, k _ _ p, ⟨w1.at fun o e => k _ o e, w2.at fun o e => k _ o e⟩, t1.at fun o e => k _ o e, t2.at fun o e => k _ o e⟩
  · rintro h ⟨⟨q, a, b', r⟩, p, ⟨⟨o1, w1, _⟩, ⟨o2, w2, _⟩⟩, ⟨o3, t1, _⟩, ⟨o4, t2, _⟩⟩ b hb
    simp only [List.mem_cons, List.not_mem_nil, or_false] at hb
    rcases hb with e | e | e | e | e | e | e <;> subst e
    · exact ⟨_, q⟩
    · exact ⟨_, p⟩
    · exact ⟨_, r⟩
    · exact ⟨_, w1⟩
    · exact ⟨_, w2⟩
    · exact ⟨_, t1⟩
    · exact ⟨_, t2⟩
  · intro b hb
    simp only [List.mem_cons, List.not_mem_nil, or_false] at hb ⊢
    rcases hb with e | e | e | e <;> simp [e]
  · exact fun A s Q E hA ok h => getAttrOr_miss_zip ok.1.1 rfl rfl rfl zip_no_keys (by decide +kernel) hA h
  · rintro A s d Q E hA ⟨⟨q, a, b, r⟩, p, ⟨w1, w2⟩, t1, t2⟩ hd off h
    exact wpAny_pyIter_zip q (h z _ _ s.heap s.toks (src_zipT hA D hx hy off) ⟨p, w1, w2, t1, t2, Or.inl ⟨q, a, b, r⟩⟩ (fun _ _ e => e) fun b hb => Or.inl hb)
end
def mergeT (acc more : List (List L2.Key × V)) : List (List L2.Key × V) := more.foldl (fun a kv => putK a kv.1 kv.2) acc
theorem mergeT_len (more : List (List L2.Key × V)) : ∀ acc : List (List L2.Key × V), (mergeT acc more).length ≤ acc.length + more.length := by
  induction more with
  | nil => exact fun acc => Nat.le_refl _
  | cons p r ih =>
    intro acc
    have h1 := ih (putK acc p.1 p.2)
    have h2 := length_putK acc p.1 p.2
    show (mergeT (putK acc p.1 p.2) r).length ≤ acc.length + (r.length + 1)
    omega
/-- keys, their tuples, values as they stand -/
inductive Trip (H : Hp) : List Addr → List (List L2.Key) → List V → List Value → Prop
  | nil : Trip H [] [] [] []
  | cons {p : Addr} {k : List L2.Key} {y : V} {u : Value} {ps : List Addr} {ks : List (List L2.Key)} {ys : List V} {us : List Value} : H p = some (.tup (k.map kV)) → RelV y u → Trip H ps ks ys us → Trip H (p :: ps) (k :: ks) (y :: ys) (u :: us)
def tri : List Addr → List (List L2.Key) → List Value → List (List L2.Key × Addr × Value)
  | p :: ps, k :: ks, u :: us => (k, p, u) :: tri ps ks us
  | _, _, _ => []
theorem Trip.kt {H : Hp} {ps : List Addr} {ks : List (List L2.Key)} {ys : List V} {us : List Value} (t : Trip H ps ks ys us) : ∀ {acc : List (List L2.Key × V)} {xs : List (List L2.Key × Addr × Value)}, L2.KT H acc xs → L2.KT H (mergeT acc (ks.zip ys)) (storedAllH xs (tri ps ks us)) := by
  induction t with
  | nil => exact fun h => h
  | cons h1 h2 _ ih => exact fun h => ih (h.put _ h1 h2)
theorem Trip.at {H : Hp} {ps : List Addr} {ks : List (List L2.Key)} {ys : List V} {us : List Value} (t : Trip H ps ks ys us) : ∀ {i : Nat} {p : Addr} {u : Value}, ps[i]? = some p → us[i]? = some u → ∃ k, (tri ps ks us)[i]? = some (k, p, u) := by
  induction t with
  | nil => intro i p u h; cases h
  | cons h1 h2 _ ih =>
    intro i p u e1 e2
    cases i with
    | zero =>
      cases e1
      cases e2
      exact ⟨_, rfl⟩
    | succ i => exact ih e1 e2
theorem Trip.len {H : Hp} {ps : List Addr} {ks : List (List L2.Key)} {ys : List V} {us : List Value} (t : Trip H ps ks ys us) : (tri ps ks us).length = ps.length ∧ us.length = ps.length ∧ (ks.zip ys).length = ps.length := by
  induction t with
  | nil => exact ⟨rfl, rfl, rfl⟩
  | cons _ _ _ ih => exact ⟨congrArg (· + 1) ih.1, congrArg (· + 1) ih.2.1, congrArg (· + 1) ih.2.2⟩
theorem Trip.mem {H : Hp} {ps : List Addr} {ks : List (List L2.Key)} {ys : List V} {us : List Value} (t : Trip H ps ks ys us) : ∀ x ∈ tri ps ks us, H x.2.1 = some (.tup (x.1.map kV)) := by
  induction t with
  | nil => intro x hx; cases hx
  | cons h1 _ _ ih =>
    intro x hx
    rcases List.mem_cons.mp hx with e | hx
    · rw [e]
      exact h1
    · exact ih x hx
theorem Trip.of {H : Hp} : ∀ {ps : List Addr} {ks : List (List L2.Key)} {ys : List V} {us : List Value}, Paired (fun (p : Addr) (k : List L2.Key) => H p = some (.tup (k.map kV))) ps ks → Paired RelV ys us → ps.length = ys.length → Trip H ps ks ys us
  | _, _, _, _, .nil, .nil, _ => .nil
  | _, _, _, _, .cons h1 t, .cons h2 t', e => .cons h1 h2 (Trip.of t t' (Nat.succ.inj e))
  | _, _, _, _, .nil, .cons _ _, e => by cases e
  | _, _, _, _, .cons _ _, .nil, e => by cases e
/-- dict(zip(a, b)) as a value -/
def tDictZip (K : PySem.W.Frag) (t : TA) : TE := fun σ H Q => t σ H fun vs H1 => ∃ (a b : Addr) (ps : List Addr) (ks : List (List L2.Key)) (ys : List V), vs = [.ref a, .ref b] ∧ SqT K H1 a (ps.map V.ref) ∧ SqT K H1 b ys ∧
  Paired (fun (p : Addr) (k : List L2.Key) => H1 p = some (.tup (k.map kV))) ps ks ∧ ps.length = ys.length ∧ ∀ D, H1 D = none → Q (.ref D) (upd H1 D (.dT (mergeT [] (ks.zip ys))))
theorem refs_arr : ∀ {ps : List Addr} {us : List Value}, Paired RelV (ps.map V.ref) us → us = ps.map Value.ref
  | [], _, .nil => rfl
  | p :: ps, _, .cons r t => by
    cases r
    rw [refs_arr t]
    rfl
section
variable {X : Cx}
theorem pe_dictZip {ea eb : Expr} {t : TA} {p1 p2 pos zpos : Pos} (hu : X.A.units + 64 < cLine) (hc : X.calm = true) (gd : Gl X "dict") (md : X.mg "dict" = none) (gz : Gl X "zip") (mz : X.mg "zip" = none) (ha : PA X [ea, eb] t)
    (hs : starEach [ea, eb] X.env = (false, eval ea X.env) :: starEach [eb] X.env := by rfl) (hpl : (backTo zpos (starEach [eb] X.env)).any (·.1) = false := by rfl)
    (hs' : starEach [.Call (.Name "zip" p2) [ea, eb] [] zpos] X.env = (false, eval (.Call (.Name "zip" p2) [ea, eb] [] zpos) X.env) :: [] := by rfl) :
    PE X (.Call (.Name "dict" p1) [.Call (.Name "zip" p2) [ea, eb] [] zpos] [] pos) (tDictZip X.K t) := by
  refine ⟨fun pins s σ H Q I h => ?_⟩
  refine wpAny_Call_Name_kw (ld_blt I gd md (show bootBuiltins "dict" = some (.type "dict") by decide +kernel) ?_ (by decide) (by decide))
  refine PyProof.Rows.callWith_type1 (T := "dict") ?_ hs' rfl
  rw [hs']
  refine Calls.spliced_cons (?_ : wpAny _ _ (eval (.Call (.Name "zip" p2) [ea, eb] [] zpos) X.env) _ _ _)
  refine wpAny_Call_Name_kw (ld_blt I gz mz PyProof.Rows.boot_zip ?_ (by decide) (by decide))
  refine PyProof.Rows.callWith_type1 (thn (ha.run zpos pins s σ H _ I h) fun us s1 came => ?_) hs hpl
  obtain ⟨vs, H1, I1, r1, a, b, ps, ks, ys, rfl, qa, qb, pk, len, q⟩ := came
  obtain ⟨u1, u2, rfl, ru1, ru2⟩ : ∃ u1 u2, us = [u1, u2] ∧ RelV (.ref a) u1 ∧ RelV (.ref b) u2 := by
    cases r1 with
    | cons r rr =>
      cases rr with
      | cons r' rr =>
        cases rr
        exact ⟨_, _, rfl, r, r'⟩
  cases ru1
  cases ru2
  obtain ⟨its, rv, ta, _⟩ := I1.tuple qa
  obtain ⟨jts, rw', tb, small⟩ := I1.tuple qb
  have ei := refs_arr rv
  subst ei
  have tp := Trip.of pk rw' len
  obtain ⟨l1, l2, l3⟩ := tp.len
  obtain ⟨oa, ga, _⟩ := id ta
  obtain ⟨ob, gb, _⟩ := id tb
  have D := PySem.W.ktu_apart s1.heap.objs.size a b (Heap.lt_size ga) (Heap.lt_size gb)
  refine call_zipT (show s1.heap.IsTuple a (ps.map Value.ref).toArray from ta) (show s1.heap.IsTuple b jts.toArray from tb) fun h' hz hTI hTO w1 w2 hsz hk => Calls.spliced_nil ?_
  have apart : ∀ {c : Addr} {o : Obj} (j : Nat), s1.heap.get? c = some o → c ≠ s1.heap.objs.size + j := fun j e => Nat.ne_of_lt (Nat.lt_of_lt_of_le (Heap.lt_size e) (Nat.le_add_right _ _))
  have outs : ∀ {c : Addr} {o : Obj}, s1.heap.get? c = some o → c ∉ [s1.heap.objs.size + 4, s1.heap.objs.size + 3, s1.heap.objs.size, s1.heap.objs.size + 1] := by
    intro c o e
    simp only [List.mem_cons, List.not_mem_nil, or_false, not_or]
    exact ⟨apart 4 e, apart 3 e, apart 0 e, apart 1 e⟩
  have key : ∀ x ∈ tri ps ks jts, (tupleKind (mixKind X.prog X.w)).is s1.heap x.1 x.2.1 := fun x hx => key_of I1.hok (tp.mem x hx)
  refine call_dict_pairsH (s := { s1 with heap := h' }) (knd := tupleKind (mixKind X.prog X.w)) (ps := tri ps ks jts) (n := ps.length)
    (arg_zipT (prog := X.prog) (w := X.w) D (xs := (ps.map Value.ref).toArray) (ys := jts.toArray) (n := ps.length) ((List.size_toArray ..).trans (List.length_map ..)) ((List.size_toArray ..).trans l2)) (I.ok.hd hc) (show X.A.units + 1 + 1 < cLine by omega) ⟨⟨hz, _, _, hTO⟩, hTI, ⟨w1, w2⟩, Heap.IsTuple.at ta fun o e => hk _ o e, Heap.IsTuple.at tb fun o e => hk _ o e⟩ ⟨l1, ?_⟩ ?_ ?_ ?_
  · rintro i k v ⟨e1, e2⟩
    have e1 : (ps.map Value.ref)[i]? = some k := by simpa using e1
    have e2 : jts[i]? = some v := by simpa using e2
    rw [List.getElem?_map] at e1
    obtain ⟨p, ep, rfl⟩ := Option.map_eq_some_iff.mp e1
    obtain ⟨k, ek⟩ := tp.at ep e2
    exact ⟨k, p, ek, rfl⟩
  · intro h'' keep x hx
    obtain ⟨o, its, n, g, rest⟩ := key x hx
    refine ⟨o, its, n, keep _ _ ?_ (outs g) (hk _ _ g), rest⟩
    show x.2.1 ≠ h'.objs.size
    rw [hsz]
    exact apart 5 g
  · rw [len]
    exact small
  · intro h'' tk dd keep
    show ∃ _, _
    have kept : ∀ c o, s1.heap.get? c = some o → h''.get? c = some o := by
      intro c o e
      exact keep c o (outs e) (hk c o e)
    have big := I1.big
    have le : s1.heap.objs.size ≤ h'.objs.size := by omega
    have none' : H1 h'.objs.size = none := I1.hok.fresh le
    have few : (mergeT [] (ks.zip ys)).length ≤ sizeLine := by
      have := mergeT_len (ks.zip ys) []
      rw [l3, len] at this
      simp only [List.length_nil, Nat.zero_add] at this
      exact Nat.le_trans this small
    obtain ⟨oo, es, ep, hq, c2, c3, c4, _, c5⟩ := dd
    refine ⟨.ref h'.objs.size, upd H1 h'.objs.size (.dT (mergeT [] (ks.zip ys))), ?_, rfl, q _ none'⟩
    refine I1.laid (t' := tk) kept le ⟨few, beq_eq_false_iff_ne.mpr (Nat.ne_of_gt (Nat.lt_of_lt_of_le big le)), _, (tp.kt .nil).keeps (fun c zs ec => ?_), oo, es, ep, hq, c2, c3, c4, c5⟩
    rw [upd_ne (ne_of_none ec none')]
    exact ec
end
end KS
namespace KS
open PySem PySem.Spec PyProof.Rows L2 TL
/-! ### the written form of a table -/
instance (a b : Cell) : Decidable (lt2 a b) := by unfold lt2; exact inferInstance
def atC : List (Cell × Int) → Cell → Option Int
  | [], _ => none
  | z :: zs, x => if z.1 = x then some z.2 else atC zs x
def topI (l : List Int) : Int := l.foldr max 0
theorem topI_ge : ∀ (l : List Int) (x : Int), x ∈ l → x ≤ topI l
  | y :: l, x, h => by
    show x ≤ max y (topI l)
    rcases List.mem_cons.mp h with e | h
    · omega
    · have := topI_ge l x h
      omega
theorem topI_0 : ∀ l : List Int, 0 ≤ topI l
  | [] => Int.le_refl _
  | y :: l => by
    show 0 ≤ max y (topI l)
    have := topI_0 l
    omega
theorem topI_le : ∀ (l : List Int) (m : Int), 0 ≤ m → (∀ x ∈ l, x ≤ m) → topI l ≤ m
  | [], m, h, _ => h
  | y :: l, m, h, k => by
    show max y (topI l) ≤ m
    have h1 := k y (List.mem_cons_self ..)
    have h2 := topI_le l m h fun x hx => k x (List.mem_cons_of_mem _ hx)
    omega
theorem topI_is {l : List Int} {m : Int} (hm : m ∈ l) (h0 : 0 ≤ m) (h : ∀ x ∈ l, x ≤ m) : topI l = m :=
  Int.le_antisymm (topI_le l m h0 h) (topI_ge l m hm)
def hiN (cs : List Cell) : Nat := (topI (cs.map (·.1))).toNat + 1
def wiN (cs : List Cell) : Nat := (topI (cs.map (·.2))).toNat + 1
theorem hiN_le {cs : List Cell} (g : Good cs) : hiN cs ≤ 8 := by
  have := topI_le (cs.map (·.1)) 7 (by decide) (fun x hx => by
    obtain ⟨c, hc, rfl⟩ := List.mem_map.mp hx
    exact (g.grid c hc).2.1)
  unfold hiN
  omega
theorem wiN_le {cs : List Cell} (g : Good cs) : wiN cs ≤ 8 := by
  have := topI_le (cs.map (·.2)) 7 (by decide) (fun x hx => by
    obtain ⟨c, hc, rfl⟩ := List.mem_map.mp hx
    exact (g.grid c hc).2.2.2)
  unfold wiN
  omega
theorem in_wi {cs : List Cell} {c : Cell} (hc : c ∈ cs) : c.2 < wiN cs := by
  have := topI_ge (cs.map (·.2)) c.2 (List.mem_map.mpr ⟨c, hc, rfl⟩)
  unfold wiN
  have := topI_0 (cs.map (·.2))
  omega
theorem in_hi {cs : List Cell} {c : Cell} (hc : c ∈ cs) : c.1 < hiN cs := by
  have := topI_ge (cs.map (·.1)) c.1 (List.mem_map.mpr ⟨c, hc, rfl⟩)
  unfold hiN
  have := topI_0 (cs.map (·.1))
  omega
def dotS : Str := "."
def wdAt (zs : List (Cell × Int)) (c : Cell) : Str := match atC zs c with
  | some v => nmS v
  | none => dotS
def rowW (cs : List Cell) (vs : List Int) (r : Nat) : List Str := (List.range (wiN cs)).map fun j => wdAt (cs.zip vs) ((r : Int), ((j : Nat) : Int))
def pgR (cs : List Cell) (vs : List Int) : List Str := (List.range (hiN cs)).map fun r => jn (rowW cs vs r)
def jl (L : List Str) : Str := Txt.join ("\n" : Str) L
def page (cs : List Cell) (vs : List Int) : Str := jl (pgR cs vs)
theorem atC_ne {z : Cell × Int} {zs : List (Cell × Int)} {c : Cell} (h : z.1 ≠ c) : atC (z :: zs) c = atC zs c := if_neg h
theorem atC_eq {z : Cell × Int} {zs : List (Cell × Int)} {c : Cell} (h : z.1 = c) : atC (z :: zs) c = some z.2 := if_pos h
theorem atC_mem : ∀ {zs : List (Cell × Int)} {c : Cell} {v : Int}, atC zs c = some v → (c, v) ∈ zs
  | z :: zs, c, v, h => by
    unfold atC at h
    by_cases e : z.1 = c
    · rw [if_pos e] at h
      cases h
      rw [← e]
      exact List.mem_cons_self ..
    · rw [if_neg e] at h
      exact List.mem_cons_of_mem _ (atC_mem h)
/-! ### what comes before a cell -/
def Asc (zs : List (Cell × Int)) : Prop := zs.Pairwise fun a b => lt2 a.1 b.1
def bef (zs : List (Cell × Int)) (b : Cell) : List (Cell × Int) := zs.filter fun z => decide (lt2 z.1 b)
theorem asc_zip : ∀ {cs : List Cell} {vs : List Int}, cs.Pairwise lt2 → Asc (cs.zip vs)
  | [], _, _ => List.Pairwise.nil
  | c :: cs, [], _ => List.Pairwise.nil
  | c :: cs, v :: vs, h => by
    obtain ⟨h1, h2⟩ := List.pairwise_cons.mp h
    refine List.pairwise_cons.mpr ⟨fun z hz => ?_, asc_zip h2⟩
    exact h1 _ (List.of_mem_zip (show (z.1, z.2) ∈ _ from hz)).1
theorem lt2_irr {a : Cell} : ¬ lt2 a a := by unfold lt2; omega
theorem lt2_asym {a b : Cell} (h : lt2 a b) : ¬ lt2 b a := by unfold lt2 at *; omega
theorem lt2_tr {a b c : Cell} (h : lt2 a b) (k : lt2 b c) : lt2 a c := by unfold lt2 at *; omega
theorem lt2_3 (a b : Cell) : lt2 a b ∨ a = b ∨ lt2 b a := by
  obtain ⟨a1, a2⟩ := a
  obtain ⟨b1, b2⟩ := b
  unfold lt2
  show (a1 < b1 ∨ (a1 = b1 ∧ a2 < b2)) ∨ (a1, a2) = (b1, b2) ∨ (b1 < a1 ∨ (b1 = a1 ∧ b2 < a2))
  rw [Prod.mk.injEq]
  omega
theorem atC_none : ∀ {zs : List (Cell × Int)} {b : Cell}, (∀ z ∈ zs, z.1 ≠ b) → atC zs b = none
  | [], _, _ => rfl
  | z :: zs, b, h => by
    unfold atC
    rw [if_neg (h z (List.mem_cons_self ..))]
    exact atC_none fun x hx => h x (List.mem_cons_of_mem _ hx)
theorem bef_step {b b' : Cell} (hb : ∀ x : Cell, lt2 x b' ↔ lt2 x b ∨ x = b) : ∀ {zs : List (Cell × Int)}, Asc zs → bef zs b' = bef zs b ++ (match atC zs b with | some v => [(b, v)] | none => [])
  | [], _ => rfl
  | z :: zs, h => by
    obtain ⟨h1, h2⟩ := List.pairwise_cons.mp h
    have ih := bef_step hb h2
    have nil : ∀ {c : Cell}, (∀ x ∈ zs, ¬ lt2 x.1 c) → bef zs c = [] := by
      intro c hc
      exact List.filter_eq_nil_iff.mpr fun x hx e => hc x hx (of_decide_eq_true e)
    rcases lt2_3 z.1 b with l | e | g
    · have e1 : z.1 ≠ b := fun q => lt2_irr (q ▸ l)
      unfold bef at *
      rw [List.filter_cons_of_pos (by simpa using (hb z.1).mpr (.inl l)), List.filter_cons_of_pos (by simpa using l), ih]
      rw [atC_ne e1]
      rfl
    · have n1 : bef zs b = [] := nil fun x hx q => lt2_asym (h1 x hx) (e ▸ q)
      have n2 : bef zs b' = [] := nil fun x hx q => by
        rcases (hb x.1).mp q with q | q
        · exact lt2_asym (h1 x hx) (e ▸ q)
        · have := h1 x hx
          rw [e, q] at this
          exact lt2_irr this
      unfold bef at *
      rw [List.filter_cons_of_pos (by simpa using (hb z.1).mpr (.inr e)), List.filter_cons_of_neg (by simpa using (show ¬ lt2 z.1 b from e ▸ lt2_irr)), n1, n2]
      rw [atC_eq e, ← e]
      rfl
    · have n1 : bef zs b = [] := nil fun x hx q => lt2_asym (lt2_tr g (h1 x hx)) q
      have n2 : bef zs b' = [] := nil fun x hx q => by
        rcases (hb x.1).mp q with q | q
        · exact lt2_asym (lt2_tr g (h1 x hx)) q
        · have := lt2_tr g (h1 x hx)
          rw [q] at this
          exact lt2_irr this
      have n3 : ¬ lt2 z.1 b' := fun q => by
        rcases (hb z.1).mp q with q | q
        · exact lt2_asym g q
        · rw [q] at g
          exact lt2_irr g
      have n4 : atC zs b = none := atC_none fun x hx q => by
        have := lt2_tr g (h1 x hx)
        rw [q] at this
        exact lt2_irr this
      unfold bef at *
      rw [List.filter_cons_of_neg (by simpa using n3), List.filter_cons_of_neg (by simpa using lt2_asym g), n1, n2]
      rw [atC_ne (fun q => lt2_irr (a := b) (by rw [q] at g; exact g)), n4]
      rfl
theorem bef_next (zs : List (Cell × Int)) (h : Asc zs) (i j : Int) : bef zs (i, j + 1) = bef zs (i, j) ++ (match atC zs (i, j) with | some v => [((i, j), v)] | none => []) := by
  refine bef_step (fun x => ?_) h
  obtain ⟨x1, x2⟩ := x
  unfold lt2
  show (x1 < i ∨ (x1 = i ∧ x2 < j + 1)) ↔ (x1 < i ∨ (x1 = i ∧ x2 < j)) ∨ (x1, x2) = (i, j)
  rw [Prod.mk.injEq]
  omega
theorem bef_row {zs : List (Cell × Int)} {i w : Int} (h : ∀ z ∈ zs, 0 ≤ z.1.2 ∧ z.1.2 < w) : bef zs (i, w) = bef zs (i + 1, 0) := by
  unfold bef
  refine List.filter_congr fun z hz => ?_
  have := h z hz
  obtain ⟨⟨x1, x2⟩, v⟩ := z
  have e : lt2 (x1, x2) (i, w) ↔ lt2 (x1, x2) (i + 1, 0) := by
    unfold lt2
    show (x1 < i ∨ (x1 = i ∧ x2 < w)) ↔ (x1 < i + 1 ∨ (x1 = i + 1 ∧ x2 < 0))
    have h1 : 0 ≤ x2 := this.1
    have h2 : x2 < w := this.2
    omega
  exact decide_eq_decide.mpr e
theorem bef_all {zs : List (Cell × Int)} {n : Int} (h : ∀ z ∈ zs, z.1.1 < n) : bef zs (n, 0) = zs := by
  unfold bef
  refine List.filter_eq_self.mpr fun z hz => decide_eq_true ?_
  exact .inl (h z hz)
theorem bef_none {zs : List (Cell × Int)} (h : ∀ z ∈ zs, 0 ≤ z.1.1 ∧ 0 ≤ z.1.2) : bef zs (0, 0) = [] := by
  unfold bef
  refine List.filter_eq_nil_iff.mpr fun z hz e => ?_
  have := h z hz
  have e := of_decide_eq_true e
  unfold lt2 at e
  omega
theorem bef_len (zs : List (Cell × Int)) (b : Cell) : (bef zs b).length ≤ zs.length := List.length_filter_le _ _
/-! ### split again -/
theorem wd_cases (zs : List (Cell × Int)) (c : Cell) : (∃ v, atC zs c = some v ∧ wdAt zs c = nmS v) ∨ (atC zs c = none ∧ wdAt zs c = dotS) := by
  unfold wdAt
  cases e : atC zs c with
  | none => exact .inr ⟨rfl, rfl⟩
  | some v => exact .inl ⟨v, rfl, rfl⟩
theorem dot_tl : tl dotS = [46] := by decide +kernel
theorem nl_tl : tl ("\n" : Str) = [10] := by decide +kernel
theorem wd_free {zs : List (Cell × Int)} (hv : ∀ z ∈ zs, 1 ≤ z.2) (c : Cell) (s : Nat) (hs : s = 32 ∨ s = 10) : s ∉ tl (wdAt zs c) := by
  rcases wd_cases zs c with ⟨v, e, w⟩ | ⟨e, w⟩ <;> rw [w]
  · have := hv _ (atC_mem e)
    rw [nm_tl (show 0 ≤ v by have : 1 ≤ v := this; omega)]
    exact numL_free (by rcases hs with h | h <;> subst h <;> exact .inl (by decide))
  · rw [dot_tl]
    rcases hs with h | h <;> subst h <;> decide
theorem wd_sm {zs : List (Cell × Int)} (hv : ∀ z ∈ zs, 1 ≤ z.2) (c : Cell) : ∀ x ∈ tl (wdAt zs c), x < 128 := by
  rcases wd_cases zs c with ⟨v, e, w⟩ | ⟨e, w⟩ <;> rw [w]
  · have := hv _ (atC_mem e)
    rw [nm_tl (show 0 ≤ v by have : 1 ≤ v := this; omega)]
    intro x hx
    have := numL_digits v.toNat x hx
    omega
  · rw [dot_tl]
    intro x hx
    rw [List.mem_singleton.mp hx]
    decide
theorem nm4 {v : Int} (h1 : 1 ≤ v) (h2 : v ≤ 9999) : (nmS v).length ≤ 4 := by
  rw [len_tl, nm_tl (by omega)]
  exact numL_len (by decide) (by omega)
theorem wd_len {zs : List (Cell × Int)} (hv : ∀ z ∈ zs, 1 ≤ z.2 ∧ z.2 ≤ 9999) (c : Cell) : (wdAt zs c).length ≤ 4 := by
  rcases wd_cases zs c with ⟨v, e, w⟩ | ⟨e, w⟩ <;> rw [w]
  · have := hv _ (atC_mem e)
    exact nm4 this.1 this.2
  · decide +kernel
theorem zip_vals {cs : List Cell} {vs : List Int} (h : Vals9 cs.length vs) : ∀ z ∈ cs.zip vs, 1 ≤ z.2 ∧ z.2 ≤ 9999 := fun z hz => by
  have := h.bd z.2 (List.of_mem_zip (show (z.1, z.2) ∈ _ from hz)).2
  omega
theorem zip_cell {cs : List Cell} {vs : List Int} {z : Cell × Int} (hz : z ∈ cs.zip vs) : z.1 ∈ cs := (List.of_mem_zip (show (z.1, z.2) ∈ _ from hz)).1
theorem row_ne (cs : List Cell) (vs : List Int) (r : Nat) : rowW cs vs r ≠ [] := by
  intro e
  have := congrArg List.length e
  unfold rowW at this
  rw [List.length_map, List.length_range] at this
  unfold wiN at this
  cases this
theorem row_wt {cs : List Cell} {vs : List Int} (g : Good cs) (h : Vals9 cs.length vs) (r : Nat) : wtS (rowW cs vs r) ≤ 40 := by
  have hw := wiN_le g
  unfold rowW
  generalize wiN cs = n at *
  suffices ∀ n : Nat, wtS ((List.range n).map fun j => wdAt (cs.zip vs) ((r : Int), ((j : Nat) : Int))) ≤ 5 * n by
    have := this n
    omega
  intro n
  induction n with
  | zero => exact Nat.le_refl _
  | succ n ih =>
    rw [List.range_succ, List.map_append, wtS_app]
    have := wd_len (zip_vals h) ((r : Int), ((n : Nat) : Int))
    show _ + wtS [wdAt (cs.zip vs) ((r : Int), ((n : Nat) : Int))] ≤ _
    rw [wtS_cons, wtS_nil]
    omega
theorem row_len {cs : List Cell} {vs : List Int} (g : Good cs) (h : Vals9 cs.length vs) (r : Nat) : (jn (rowW cs vs r)).length ≤ 40 := Nat.le_trans (jn_len _) (row_wt g h r)
theorem row_split {cs : List Cell} {vs : List Int} (h : Vals9 cs.length vs) (r : Nat) : Txt.split (jn (rowW cs vs r)) " " = rowW cs vs r := by
  refine split_jn (row_ne cs vs r) fun p hp => ?_
  obtain ⟨j, _, rfl⟩ := List.mem_map.mp hp
  exact wd_free (fun z hz => (zip_vals h z hz).1) _ 32 (.inl rfl)
theorem mem_joinS (S : List Nat) : ∀ (L : List (List Nat)) (c : Nat), c ∈ joinL S L → c ∈ S ∨ ∃ p ∈ L, c ∈ p
  | [], c, h => by cases h
  | [p], c, h => .inr ⟨p, List.mem_singleton.mpr rfl, h⟩
  | p :: q :: r, c, h => by
    have h : c ∈ p ++ (S ++ joinL S (q :: r)) := h
    rcases List.mem_append.mp h with h | h
    · exact .inr ⟨p, List.mem_cons_self .., h⟩
    · rcases List.mem_append.mp h with h | h
      · exact .inl h
      · rcases mem_joinS S (q :: r) c h with z | ⟨x, hx, z⟩
        · exact .inl z
        · exact .inr ⟨x, List.mem_cons_of_mem _ hx, z⟩
theorem row_mem {cs : List Cell} {vs : List Int} {r c : Nat} (hc : c ∈ tl (jn (rowW cs vs r))) : c = 32 ∨ ∃ x, c ∈ tl (wdAt (cs.zip vs) x) := by
  rw [tl_jn] at hc
  rcases mem_joinS _ _ c hc with z | ⟨p, hp, z⟩
  · exact .inl (List.mem_singleton.mp z)
  · obtain ⟨x, hx, rfl⟩ := List.mem_map.mp hp
    obtain ⟨j, _, rfl⟩ := List.mem_map.mp hx
    exact .inr ⟨_, z⟩
theorem tl_jl (L : List Str) : tl (jl L) = joinL [10] (L.map tl) := by
  unfold jl
  rw [join_eq, tl_join, nl_tl]
theorem page_split {cs : List Cell} {vs : List Int} (h : Vals9 cs.length vs) : Txt.split (page cs vs) "\n" = pgR cs vs := by
  refine split_join nl_tl (by decide +kernel) (fun e => ?_) fun p hp hm => ?_
  · have := congrArg List.length e
    unfold pgR at this
    rw [List.length_map, List.length_range] at this
    unfold hiN at this
    cases this
  · obtain ⟨r, _, rfl⟩ := List.mem_map.mp hp
    rcases row_mem hm with z | ⟨x, z⟩
    · exact absurd z (by decide)
    · exact wd_free (fun z hz => (zip_vals h z hz).1) _ 10 (.inr rfl) z
theorem joinS_len (s : Nat) : ∀ L : List (List Nat), (joinL [s] L).length ≤ (L.map List.length).sum + L.length
  | [] => Nat.le_refl _
  | [p] => by
    show p.length ≤ _
    rw [List.map_cons, List.sum_cons]
    omega
  | p :: q :: r => by
    have ih := joinS_len s (q :: r)
    show (p ++ ([s] ++ joinL [s] (q :: r))).length ≤ _
    rw [List.length_append, List.length_append, List.map_cons, List.sum_cons, List.length_cons (a := p)]
    show p.length + (1 + (joinL [s] (q :: r)).length) ≤ _
    omega
theorem jl_len (L : List Str) : (jl L).length ≤ wtS L := by
  have := joinS_len 10 (L.map tl)
  rw [len_tl, tl_jl]
  unfold wtS
  rw [List.map_map, List.length_map] at this
  have e : L.map (List.length ∘ tl) = L.map (·.length) := List.map_congr_left fun x _ => (len_tl x).symm
  rw [e] at this
  exact this
theorem pg_wt {cs : List Cell} {vs : List Int} (g : Good cs) (h : Vals9 cs.length vs) (n : Nat) : wtS ((List.range n).map fun r => jn (rowW cs vs r)) ≤ 41 * n := by
  induction n with
  | zero => exact Nat.le_refl _
  | succ n ih =>
    rw [List.range_succ, List.map_append, wtS_app]
    have := row_len g h n
    show _ + wtS [jn (rowW cs vs n)] ≤ _
    rw [wtS_cons, wtS_nil]
    omega
theorem page_len {cs : List Cell} {vs : List Int} (g : Good cs) (h : Vals9 cs.length vs) : (page cs vs).length ≤ 328 := by
  have h1 := jl_len (pgR cs vs)
  have h2 := pg_wt g h (hiN cs)
  have h3 := hiN_le g
  show (jl (pgR cs vs)).length ≤ _
  have : wtS (pgR cs vs) ≤ 41 * hiN cs := h2
  omega
theorem page_sm {cs : List Cell} {vs : List Int} (h : Vals9 cs.length vs) : ∀ c ∈ (page cs vs).cps.toList, c < 16 ^ 8 := by
  intro c hc
  have hc : c ∈ tl (jl (pgR cs vs)) := hc
  rw [tl_jl] at hc
  have e : (128 : Nat) < 16 ^ 8 := by decide
  have : c < 128 := by
    rcases mem_joinS _ _ c hc with z | ⟨p, hp, z⟩
    · rw [List.mem_singleton.mp z]
      decide
    · obtain ⟨x, hx, rfl⟩ := List.mem_map.mp hp
      obtain ⟨r, _, rfl⟩ := List.mem_map.mp hx
      rcases row_mem z with z | ⟨x, z⟩
      · rw [z]
        decide
      · exact wd_sm (fun z hz => (zip_vals h z hz).1) _ c z
  omega
theorem last_row {cs : List Cell} (g : Good cs) {c : Cell} (hl : cs.getLast? = some c) : hiN cs = c.1.toNat + 1 := by
  have hm : c ∈ cs := List.mem_of_getLast? hl
  have h0 := (g.grid c hm).1
  have e : topI (cs.map (·.1)) = c.1 := by
    refine topI_is (List.mem_map.mpr ⟨c, hm, rfl⟩) h0 fun x hx => ?_
    obtain ⟨d, hd, rfl⟩ := List.mem_map.mp hx
    obtain ⟨ys, rfl⟩ : ∃ ys, cs = ys ++ [c] := List.getLast?_eq_some_iff.mp hl
    rcases List.mem_append.mp hd with hd | hd
    · have := (List.pairwise_append.mp g.asc).2.2 d hd c (List.mem_singleton.mpr rfl)
      unfold lt2 at this
      omega
    · rw [List.mem_singleton.mp hd]
      exact Int.le_refl _
  unfold hiN
  rw [e]
/-! ### the dict of a table -/
def keyC (c : Cell) : List L2.Key := [.inl c.1, .inl c.2]
theorem keyC_inj {a b : Cell} : keyC a = keyC b ↔ a = b := by
  obtain ⟨a1, a2⟩ := a
  obtain ⟨b1, b2⟩ := b
  unfold keyC
  simp
/-- the dict holds f of each value, by the cells -/
def DictT (f : Int → V) (zs : List (Cell × Int)) (kvs : List (List L2.Key × V)) : Prop := kvs.length ≤ zs.length ∧ ∀ c, valV kvs (keyC c) = (atC zs c).map f
theorem atC_snoc : ∀ (zs : List (Cell × Int)) (c x : Cell) (v : Int), (∀ z ∈ zs, z.1 ≠ c) → atC (zs ++ [(c, v)]) x = if c = x then some v else atC zs x
  | [], c, x, v, _ => rfl
  | z :: zs, c, x, v, h => by
    have ih := atC_snoc zs c x v fun y hy => h y (List.mem_cons_of_mem _ hy)
    show atC (z :: (zs ++ [(c, v)])) x = _
    by_cases e : z.1 = x
    · rw [atC_eq e, atC_eq e, if_neg (fun q => h z (List.mem_cons_self ..) (e.trans q.symm))]
    · rw [atC_ne e, atC_ne e, ih]
theorem DictT.put {f : Int → V} {zs : List (Cell × Int)} {kvs : List (List L2.Key × V)} {c : Cell} {v : Int} (h : DictT f zs kvs) (nc : ∀ z ∈ zs, z.1 ≠ c) : DictT f (zs ++ [(c, v)]) (putK kvs (keyC c) (f v)) := by
  refine ⟨?_, fun x => ?_⟩
  · have h1 := length_putK kvs (keyC c) (f v)
    have h2 := h.1
    rw [List.length_append]
    show _ ≤ zs.length + 1
    omega
  · rw [valV_put, h.2 x, atC_snoc zs c x v nc]
    by_cases e : c = x
    · rw [if_pos e, if_pos (keyC_inj.mpr e.symm)]
      rfl
    · rw [if_neg e, if_neg (fun q => e (keyC_inj.mp q).symm)]
theorem DictT.nil {f : Int → V} : DictT f [] [] := ⟨Nat.le_refl _, fun c => rfl⟩
theorem dictT_merge {f : Int → V} : ∀ (cs : List Cell) (vs : List Int) (zs : List (Cell × Int)) (kvs : List (List L2.Key × V)), DictT f zs kvs → cs.Nodup → (∀ z ∈ zs, z.1 ∉ cs) → DictT f (zs ++ cs.zip vs) (mergeT kvs ((cs.map keyC).zip (vs.map f)))
  | [], vs, zs, kvs, h, _, _ => by
    rw [List.zip_nil_left, List.append_nil]
    exact h
  | c :: cs, [], zs, kvs, h, _, _ => by
    rw [List.zip_nil_right, List.append_nil]
    exact h
  | c :: cs, v :: vs, zs, kvs, h, nd, ni => by
    have ih := dictT_merge cs vs (zs ++ [(c, v)]) (putK kvs (keyC c) (f v)) (h.put fun z hz e => ni z hz (by rw [e]; exact List.mem_cons_self ..)) (List.nodup_cons.mp nd).2 (fun z hz => by
      rcases List.mem_append.mp hz with hz | hz
      · exact fun q => ni z hz (List.mem_cons_of_mem _ q)
      · rw [List.mem_singleton.mp hz]
        exact (List.nodup_cons.mp nd).1)
    rw [List.append_assoc] at ih
    exact ih
end KS
namespace KS
open PySem PySem.Spec PyProof.Rows L2
/-! ### what the program's own helpers keep, for good values -/
def spFF (K : PySem.W.Frag) : Sp := fun xs H Q _ => ∃ (t : Addr) (m : Int) (vs : List Int), xs = [.ref t, .int m] ∧ SqT K H t (vs.map V.int) ∧ vs.Nodup ∧ (∀ v ∈ vs, 1 ≤ v ∧ v ≤ m) ∧ ∀ H', Same H H' → Q .non H'
def spCheckF (K : PySem.W.Frag) : Sp := fun xs H Q _ => ∃ (n : Nat) (t : Addr) (vs : List Int), xs = [.int n, .ref t] ∧ SqT K H t (vs.map V.int) ∧ Vals9 n vs ∧ n ≤ 24 ∧ ∀ H', Same H H' → Q .non H'
def spAlong (K : PySem.W.Frag) : Sp := fun xs H Q _ => ∃ (g t : Addr) (gs : List V) (ls : List (List Int)) (vs : List Int), xs = [.ref g, .ref t] ∧ SqT K H g gs ∧ Paired (TupI K H) gs ls ∧
  (∀ l ∈ ls, (∀ k ∈ l, ∃ j : Nat, k = (j : Int) ∧ j < vs.length) ∧ l.length ≤ 24) ∧ SqT K H t (vs.map V.int) ∧ ∀ H' u, Same H H' → SqT K H' u ((srtTo vs ls).map V.int) → H u = none → Q (.ref u) H'
theorem inV_take {vs : List Int} (nd : vs.Nodup) {i : Nat} {v : Int} (h : vs[i]? = some v) : inV (.int v) ((vs.take i).map V.int) = false := by
  unfold inV
  rw [List.any_eq_false]
  intro x hx
  obtain ⟨y, hy, rfl⟩ := List.mem_map.mp hx
  obtain ⟨j, hj⟩ := List.mem_iff_getElem?.mp hy
  rw [List.getElem?_take] at hj
  split at hj
  · rename_i hlt
    show ¬ ((y == v) = true)
    intro e
    have e' : y = v := by simpa using e
    subst e'
    obtain ⟨l1, e1⟩ := List.getElem?_eq_some_iff.mp h
    obtain ⟨l2, e2⟩ := List.getElem?_eq_some_iff.mp hj
    have := (List.pairwise_iff_getElem.mp nd) j i l2 l1 hlt
    rw [e1, e2] at this
    exact this rfl
  · cases hj
theorem flat_ints (l : List Int) : (l.map V.int).all flatV = true := by
  rw [List.all_eq_true]
  intro x hx
  obtain ⟨y, _, rfl⟩ := List.mem_map.mp hx
  rfl
theorem cut_take {l : List V} {i : Nat} (h : i ≤ l.length) : cutV l none (some (i : Int)) = l.take i := by
  unfold cutV
  have e0 : HT.sIx l.length 0 none = 0 := rfl
  have e1 : HT.sIx l.length l.length (some (i : Int)) = i := by
    rw [HT.sIx_nat]
    omega
  rw [e0, e1]
  simp
theorem cut_not {l : List V} {i : Nat} (h : i < l.length) : ¬ (HT.sIx l.length 0 none = 0 ∧ HT.sIx l.length l.length (some (i : Int)) = l.length) := by
  intro z
  have e1 : HT.sIx l.length l.length (some (i : Int)) = i := by
    rw [HT.sIx_nat]
    omega
  omega
theorem lns_ok {b : Bool} {cs : List Cell} {vs : List Int} (hl : cs.length ≤ 24) (hv : vs.length = cs.length) : ∀ l ∈ lnsOf b cs, (∀ k ∈ l, ∃ j : Nat, k = (j : Int) ∧ j < vs.length) ∧ l.length ≤ 24 := fun l h => by
  have := lns_mem h
  rw [hv]
  exact ⟨this.1, by omega⟩
end KS
namespace KS
open PySem PySem.Spec PyProof.Rows L2
/-! ### sorted(t), t a tuple of whole numbers -/
def rSortedTI (K : PySem.W.Frag) : List V → Hp → VK → Prop := fun vs H Q => ∃ (a : Addr) (ns : List Int), vs = [V.ref a] ∧ SqT K H a (ns.map V.int) ∧
  ∀ (ns' : List Int) (p : Addr) (H' : Hp), ns'.Perm ns → ns'.Pairwise (· ≤ ·) → H p = none → H' = upd H p (.lst (ns'.map V.int)) → Q (.ref p) H'
theorem cr_sortedTI {X : Cx} : CallR X (.builtin "sorted") (rSortedTI X.K) := by
  intro pins s σ H vs us Q I r h
  obtain ⟨a, ns, rfl, ht, q⟩ := h
  obtain ⟨its, rv, ⟨o, ho, hc, n, hd⟩, hz⟩ := I.tuple ht
  rw [Vals.ref1 r]
  have hi := rv.ints
  have hl := rv.length
  have hzz : its.length ≤ sizeLine := by rw [← hl]; exact hz
  refine Calls.call_function_entry kind_sorted plain_sorted entry_sorted (args_sorted1 _) ?_
  unfold Builtin.«sorted»
  refine wpAny_bind (m := checkCount "sorted" 1 1 _) (wpAny_pure ?_)
  refine wpAny_bind (wpAny_collect_seq a (T := "tuple") (.inr rfl) ho hc hd (fun h1 hk => ?_) (by rw [List.size_toArray]; exact hzz))
  rw [List.toList_toArray]
  have I1 : Inv X pins σ H { s with heap := h1 } := I.kept (t' := s.toks) hk
  refine wpAny_bind (wpAny_newList ?_ hzz)
  have hoL : (h1.push (seqObj "list" its.toArray 0)).get? h1.objs.size = some (seqObj "list" its.toArray 0) := Heap.get?_push_size _ rfl
  show wpAny _ _ _ _ _ { s with heap := h1.push (seqObj "list" its.toArray 0) }
  refine wpAny_bind (wpAny_holding (wpAny_call_entry slot_list_sort ⟨_, hoL, rfl⟩ entry_list_sort (SrtO.list_sort_ord (s := { s with heap := h1.push (seqObj "list" its.toArray 0) }) SrtO.swo_int hoL hzz (fun h2 => SrtO.ints_sortable hi h2) fun out g1 g2 => ⟨_, rfl, ?_⟩) (args_list_sort _)))
  obtain ⟨k1, k2, k3⟩ := SrtO.ints_out hi g1 g2
  obtain ⟨ep, he⟩ := sortedHeap_at (vs := its) (out := out.toArray) hoL
  have hlen : ((out.map SrtO.iv).map V.int).length ≤ sizeLine := by
    rw [List.length_map, k2.length_eq]
    rw [List.length_map] at hz
    exact hz
  refine wpAny_pure ⟨_, rfl, .ref h1.objs.size, upd H h1.objs.size (.lst ((out.map SrtO.iv).map V.int)), I1.laid (t' := s.toks) (fun b u e => ?_) (Nat.le_refl _) ⟨hlen, out, ep, vals_of_ints k1, he⟩, rfl, q _ _ _ k2 k3 (I1.hok.fresh (Nat.le_refl _)) rfl⟩
  have hb : b < h1.objs.size := Heap.lt_size e
  rw [sortedHeap_old (Nat.ne_of_lt hb) (by rw [size_push']; exact Nat.lt_succ_of_lt hb)]
  exact Heap.get?_push_of_some _ e
/-! ### ranks -/
def rkI (vs : List Int) (v : Int) : Int := 1 + ((vs.filter fun u => decide (u < v)).length : Int)
def rks (vs : List Int) : List Int := vs.map (rkI vs)
theorem rkI_perm {vs us : List Int} (p : vs.Perm us) : rkI vs = rkI us := by
  funext v
  unfold rkI
  rw [(p.filter _).length_eq]
theorem rkI_mono {vs : List Int} {v w : Int} (h : v ≤ w) : rkI vs v ≤ rkI vs w := by
  unfold rkI
  have : (vs.filter fun u => decide (u < v)).length ≤ (vs.filter fun u => decide (u < w)).length := by
    rw [← List.countP_eq_length_filter, ← List.countP_eq_length_filter]
    exact List.countP_mono_left fun u _ hu => decide_eq_true (by have := of_decide_eq_true hu; omega)
  omega
theorem filter_lt_len : ∀ {vs : List Int} {v w : Int}, v < w → v ∈ vs → (vs.filter fun u => decide (u < v)).length < (vs.filter fun u => decide (u < w)).length
  | [], _, _, _, m => by cases m
  | u :: us, v, w, h, m => by
    have le : (us.filter fun u => decide (u < v)).length ≤ (us.filter fun u => decide (u < w)).length := by
      rw [← List.countP_eq_length_filter, ← List.countP_eq_length_filter]
      exact List.countP_mono_left fun u _ hu => decide_eq_true (by have := of_decide_eq_true hu; omega)
    by_cases e : u = v
    · subst e
      rw [List.filter_cons_of_neg (by simp), List.filter_cons_of_pos (by simpa using h), List.length_cons]
      omega
    · have m' : v ∈ us := by
        rcases List.mem_cons.mp m with z | z
        · exact absurd z.symm e
        · exact z
      have ih := filter_lt_len h m'
      by_cases c1 : u < v
      · rw [List.filter_cons_of_pos (by simpa using c1), List.filter_cons_of_pos (by simp; omega), List.length_cons, List.length_cons]
        omega
      · rw [List.filter_cons_of_neg (by simpa using c1)]
        by_cases c2 : u < w
        · rw [List.filter_cons_of_pos (by simpa using c2), List.length_cons]
          omega
        · rw [List.filter_cons_of_neg (by simpa using c2)]
          exact ih
theorem rkI_lt {vs : List Int} {v w : Int} (h : v < w) (m : v ∈ vs) : rkI vs v < rkI vs w := by
  have := filter_lt_len h m
  unfold rkI
  omega
theorem rkI_inj {vs : List Int} {v w : Int} (hv : v ∈ vs) (hw : w ∈ vs) (e : rkI vs v = rkI vs w) : v = w := by
  rcases Int.lt_trichotomy v w with c | c | c
  · have := rkI_lt c hv
    omega
  · exact c
  · have := rkI_lt c hw
    omega
theorem rkI_bd {vs : List Int} {v : Int} (hv : v ∈ vs) : 1 ≤ rkI vs v ∧ rkI vs v ≤ (vs.length : Int) := by
  have a : (vs.filter fun u => decide (u < v)).length < vs.length := by
    have le := List.length_filter_le (fun u => decide (u < v)) vs
    rcases Nat.lt_or_ge (vs.filter fun u => decide (u < v)).length vs.length with c | c
    · exact c
    · have e : (vs.filter fun u => decide (u < v)).length = vs.length := by omega
      have := List.length_filter_eq_length_iff.mp e v hv
      simp at this
  unfold rkI
  omega
theorem rks9 {n : Nat} {vs : List Int} (h : Vals9 n vs) (hn : n ≤ 24) : Vals9 n (rks vs) := by
  refine ⟨by unfold rks; rw [List.length_map, h.len], ?_, fun v hv => ?_⟩
  · unfold rks
    rw [List.nodup_iff_pairwise_ne, List.pairwise_map]
    have nd := List.nodup_iff_pairwise_ne.mp h.nd
    refine nd.imp_of_mem fun {a b} ha hb q e => q (rkI_inj ha hb e)
  · obtain ⟨u, hu, rfl⟩ := List.mem_map.mp hv
    have := rkI_bd hu
    have := h.len
    omega
/-! ### a rising map goes through a sort -/
theorem sortI_map {f : Int → Int} (hf : ∀ a b, a ≤ b → f a ≤ f b) (l : List Int) : sortI (l.map f) = (sortI l).map f := by
  refine (sortI_eq ((sortI_perm l).map f) ?_).symm
  rw [List.pairwise_map]
  exact (sortI_asc l).imp fun h => hf _ _ h
theorem putZ_map (f : Int → Int) : ∀ (zs : List (Int × Int)) (acc : List Int), (putZ acc zs).map f = putZ (acc.map f) (zs.map fun z => (z.1, f z.2))
  | [], _ => rfl
  | z :: zs, acc => by
    show (putZ (acc.set z.1.toNat z.2) zs).map f = putZ ((acc.map f).set z.1.toNat (f z.2)) (zs.map fun z => (z.1, f z.2))
    rw [putZ_map f zs, List.map_set]
theorem zip_map_r (f : Int → Int) : ∀ (l m : List Int), l.zip (m.map f) = (l.zip m).map fun z => (z.1, f z.2)
  | [], _ => by simp
  | _ :: _, [] => by simp
  | a :: l, b :: m => by
    simp only [List.map_cons, List.zip_cons_cons]
    rw [zip_map_r f l m]
theorem getI_map {f : Int → Int} {vs : List Int} {k : Int} (h : ∃ j : Nat, k = (j : Int) ∧ j < vs.length) : getI (vs.map f) k = f (getI vs k) := by
  obtain ⟨j, rfl, hj⟩ := h
  unfold getI
  rw [List.getD_eq_getElem?_getD, List.getD_eq_getElem?_getD, List.getElem?_map, Int.toNat_natCast, List.getElem?_eq_getElem hj]
  rfl
theorem srtL_map {f : Int → Int} (hf : ∀ a b, a ≤ b → f a ≤ f b) {vs acc l : List Int} (hl : ∀ k ∈ l, ∃ j : Nat, k = (j : Int) ∧ j < vs.length) : srtL (vs.map f) (acc.map f) l = (srtL vs acc l).map f := by
  unfold srtL
  have e : l.map (getI (vs.map f)) = (l.map (getI vs)).map f := by
    rw [List.map_map]
    exact List.map_congr_left fun k hk => getI_map (hl k hk)
  rw [e, sortI_map hf, zip_map_r, putZ_map]
theorem srtTo_map {f : Int → Int} (hf : ∀ a b, a ≤ b → f a ≤ f b) {vs : List Int} : ∀ {ls : List (List Int)} {acc : List Int}, (∀ l ∈ ls, ∀ k ∈ l, ∃ j : Nat, k = (j : Int) ∧ j < vs.length) →
    ls.foldl (srtL (vs.map f)) (acc.map f) = (ls.foldl (srtL vs) acc).map f
  | [], _, _ => rfl
  | l :: ls, acc, h => by
    show ls.foldl (srtL (vs.map f)) (srtL (vs.map f) (acc.map f) l) = _
    rw [srtL_map hf (h l List.mem_cons_self)]
    exact srtTo_map hf fun m hm => h m (List.mem_cons_of_mem _ hm)
theorem srt_map {f : Int → Int} (hf : ∀ a b, a ≤ b → f a ≤ f b) {b : Bool} {cs : List Cell} {vs : List Int} (hv : vs.length = cs.length) : srt b cs (vs.map f) = (srt b cs vs).map f := by
  unfold srt srtTo
  refine srtTo_map hf fun l hl k hk => ?_
  rw [hv]
  exact (lns_mem hl).1 k hk
theorem aft_map {f : Int → Int} (hf : ∀ a b, a ≤ b → f a ≤ f b) {cs : List Cell} : ∀ (w : List Bool) {vs : List Int}, vs.length = cs.length → aft cs w (vs.map f) = (aft cs w vs).map f
  | [], _, _ => rfl
  | b :: w, vs, hv => by
    show aft cs w (srt b cs (vs.map f)) = (aft cs w (srt b cs vs)).map f
    rw [srt_map hf hv]
    exact aft_map hf w (by rw [srt_len]; exact hv)
theorem rks_aft {cs : List Cell} (w : List Bool) {vs : List Int} (hv : vs.length = cs.length) : rks (aft cs w vs) = aft cs w (rks vs) := by
  unfold rks
  rw [aft_map (fun a b h => rkI_mono h) w hv, rkI_perm (aft_perm w hv)]
theorem rks_srt {b : Bool} {cs : List Cell} {vs : List Int} (hv : vs.length = cs.length) : rks (srt b cs vs) = srt b cs (rks vs) := rks_aft [b] hv
theorem map_inj_on {f : Int → Int} : ∀ {l m : List Int}, (∀ a ∈ l, ∀ b ∈ m, f a = f b → a = b) → l.map f = m.map f → l = m
  | [], [], _, _ => rfl
  | [], _ :: _, _, h => by simp at h
  | _ :: _, [], _, h => by simp at h
  | a :: l, b :: m, hi, h => by
    simp only [List.map_cons, List.cons.injEq] at h
    rw [hi a List.mem_cons_self b List.mem_cons_self h.1, map_inj_on (fun x hx y hy => hi x (List.mem_cons_of_mem _ hx) y (List.mem_cons_of_mem _ hy)) h.2]
theorem rises_rks {b : Bool} {cs : List Cell} {vs : List Int} (hv : vs.length = cs.length) : rises b cs (rks vs) = rises b cs vs := by
  have hr : (rks vs).length = cs.length := by
    unfold rks
    rw [List.length_map, hv]
  rw [← fix_rises hr, ← fix_rises hv, ← rks_srt hv]
  by_cases e : srt b cs vs = vs
  · rw [e, decide_eq_true rfl, decide_eq_true rfl]
  · rw [decide_eq_false e]
    refine decide_eq_false fun z => e ?_
    unfold rks at z
    rw [rkI_perm (srt_perm hv)] at z
    exact map_inj_on (fun a ha c hc => rkI_inj ((srt_perm hv).mem_iff.mp ha) hc) z
theorem settled_rks {cs : List Cell} {vs : List Int} (hv : vs.length = cs.length) : settled cs (rks vs) = settled cs vs := by
  unfold settled
  rw [rises_rks hv, rises_rks hv]
theorem rest_rks {cs : List Cell} {b : Bool} {vs : List Int} {n : Nat} (hv : vs.length = cs.length) (h : RestIs cs b vs n) : RestIs cs b (rks vs) n := by
  have e : ∀ m, settled cs (stat cs b (rks vs) m) = settled cs (stat cs b vs m) := fun m => by
    unfold stat
    rw [← rks_aft _ hv, settled_rks (by rw [aft_len, hv])]
  exact ⟨by rw [e]; exact h.end_, fun m hm => by rw [e]; exact h.least m hm⟩
/-- the place of a value in a rising list -/
theorem idx_asc : ∀ {l : List Int} {j : Nat} {v : Int}, l.Pairwise (· < ·) → l[j]? = some v → ((l.filter fun u => decide (u < v)).length) = j
  | [], j, v, _, h => by simp at h
  | a :: l, 0, v, p, h => by
    simp at h
    subst h
    rw [List.filter_cons_of_neg (by simp)]
    have : l.filter (fun u => decide (u < a)) = [] := List.filter_eq_nil_iff.mpr fun x hx => by
      have := (List.pairwise_cons.mp p).1 x hx
      simp
      omega
    rw [this]
    rfl
  | a :: l, j + 1, v, p, h => by
    have h' : l[j]? = some v := by simpa using h
    have ih := idx_asc (List.pairwise_cons.mp p).2 h'
    have := (List.pairwise_cons.mp p).1 v (List.mem_of_getElem? h')
    rw [List.filter_cons_of_pos (by simpa using this), List.length_cons, ih]
/-- a method's call inside a comprehension, where the written part is named by hand -/
theorem pe_bmK {X : Cx} {K : PySem.W.Frag} {o e : Expr} {es : List Expr} {to : TE} {t : TA} {name : Str} {apos cpos : Pos} {T id : String} {r : V → List V → Hp → VK → Prop} (hK : X.K = K) (pa : PlainAttrs T) (slot : Slot T name id)
    (hty : typeOf (.builtin id) = pure (.type "method_descriptor")) (hm : MtR X id r) (ho : PE X o to) (ha : PA X (e :: es) t)
    (hbase : attributeBase o name X.env (eval o X.env) = eval o X.env := by rfl)
    (hfew : ((backTo cpos (starEach (e :: es) X.env)).all (fun x => !x.1) && (backToKw cpos (keywordEach [] X.env)).all (fun x => x.1.isSome) && decide ((e :: es).length + ([] : List Keyword).length + (if ([] : List Keyword).isEmpty then 0 else 1) < 30)) = true := by rfl)
    (hline : (apos.endLine == cpos.line) = true := by rfl) (hs : starEach (e :: es) X.env = (false, eval e X.env) :: starEach es X.env := by rfl) (hplain : (backTo cpos (starEach es X.env)).any (·.1) = false := by rfl) :
    PE X (.Call (.Attribute o name apos) (e :: es) [] cpos) (tBM K T r to t) := by
  subst hK
  exact pe_bm pa slot hty hm ho ha hbase hfew hline hs hplain
theorem pg_tupK {X : Cx} {K : PySem.W.Frag} {es : List Expr} {k n : Nat} {pos : Pos} {t : TGs} (hK : X.K = K) (hc : X.calm = true) (h : PGs X es t) (hn : (assignEach es X.env).length = n := by rfl) (hst : (assignEach es X.env).findIdx? (·.1) = none := by rfl) : PG X (.Tuple es k pos) (gTup K n t) := by
  subst hK
  exact pg_tup hc h hn hst
end KS
namespace KS
open PySem PySem.Spec PyProof.Rows L2
/-- for comprehensions within comprehensions -/
def rLenSeq (K : PySem.W.Frag) : List V → Hp → VK → Prop := fun xs H Q => ∃ p ys, xs = [.ref p] ∧ (SqL K H p ys ∨ SqT K H p ys) ∧ Q (.int ys.length) H
theorem call_lenK {X : Cx} {K : PySem.W.Frag} (hK : X.K = K) : CallR X (.builtin "len") (rLenSeq K) := by
  subst hK
  exact call_len_seq
theorem pi_tupK {X : Cx} {K : PySem.W.Frag} {tg l : Expr} {tl : TE} (hK : X.K = K) (hl : PE X l tl) : PI X tg l (iTup K tl) := by
  subst hK
  exact pi_tup hl
theorem pi_listK {X : Cx} {K : PySem.W.Frag} {tg l : Expr} {tl : TE} (hK : X.K = K) (hl : PE X l tl) : PI X tg l (iList K tl) := by
  subst hK
  exact pi_list hl
end KS
namespace KS
open PySem PySem.Spec PyProof.Rows L2
open PySem.W (AlikeAll dataLt minD min_list_default readsAll_atA reads_keeps alike_unique)
/-! ### x not in t -/
def rNotInT (K : PySem.W.Frag) : V → V → Hp → VK → Prop := fun x y H Q => ∃ d ds, Dp K H x d ∧ Dp K H y (.tuple ds) ∧ SeqAt.shaped d = true ∧ SeqAt.shaped (.tuple ds) = true ∧ Q (.bl (!ds.any fun z => PyData.eqv z d)) H
theorem op_notInT {X : Cx} (hu : X.A.units + 65 < cLine) : OpR X (compareOp .NotIn) (rNotInT X.K) := by
  intro pins s σ H x y v u Q I rx ry h
  obtain ⟨d, ds, hd, he, sd, se, q⟩ := h
  obtain ⟨as, r1⟩ := Dp.reads I d x v hd rx
  obtain ⟨bs, r2⟩ := Dp.reads I (.tuple ds) y u he ry
  refine SeqAt.notIn_tuple_reads r2 r1 (SeqAt.canLay_of_shaped se) (SeqAt.canLay_of_shaped sd) ?_ ⟨.bl _, H, I, rfl, q⟩
  have := SeqAt.depth_of_shaped sd
  have h2 : min (PyData.depthAll ds) d.depth ≤ d.depth := Nat.min_le_right _ _
  omega
/-! ### repr(x), x None or plain data -/
def rReprN (K : PySem.W.Frag) : List V → Hp → VK → Prop := fun xs H Q => (xs = [.non] ∧ Q (.str "None") H) ∨ ∃ (a : Addr) (d : PyData), xs = [.ref a] ∧ Dp K H (.ref a) d ∧ d.showable = true ∧ d.hasDict = false ∧ d.shown.length ≤ sizeLine ∧ d.depth ≤ 64 ∧ Q (.str d.shown) H
theorem call_reprN {X : Cx} (hgd : X.A.guards = some []) (hu : X.A.units + 100 < cLine) : CallR X (.builtin "repr") (rReprN X.K) := by
  intro pins s σ H xs us Q I r h
  rcases h with ⟨rfl, q⟩ | h
  · cases r with
    | cons r rr =>
      cases rr
      cases r
      exact P.repr_of_none ⟨.str "None", H, I.tok _, ⟨_, rfl⟩, q⟩
  · exact call_reprD hgd hu pins s σ H xs us Q I r h
/-! ### min(l, default=None), l a list of plain data, whose first is least -/
def rMinF (K : PySem.W.Frag) : List V → List V → Hp → VK → Prop := fun xs zs H Q => ∃ (l : Addr) (ys : List V) (ds : List PyData), xs = [.ref l] ∧ zs = [.non] ∧ SqL K H l ys ∧ DpAll K H ys ds ∧ AlikeAll ds ∧ PyData.depthAll ds ≤ 64 ∧
  ds.Pairwise (fun a b => dataLt b a = false) ∧ ds.Nodup ∧ (ds = [] → Q .non H) ∧ (∀ y d, ys.head? = some y → ds.head? = some d → Q y H)
theorem minD_first {x : PyData} : ∀ {xs : List PyData}, (∀ y ∈ xs, dataLt y x = false) → minD x xs = x
  | [], _ => rfl
  | y :: ys, h => by
    show ys.foldl _ (if dataLt y x then y else x) = x
    rw [h y List.mem_cons_self]
    exact minD_first fun z hz => h z (List.mem_cons_of_mem _ hz)
theorem cr_minF {X : Cx} (hc : X.calm = true) (hu : X.A.units + 100 < cLine) : CallRK X (.builtin "min") [Str.ofString "default"] (rMinF X.K) := by
  intro pins s σ H xs zs us ws Q I rx rz h
  obtain ⟨l, ys, ds, rfl, rfl, hl, hd, al, dp, pw, nd, q0, q1⟩ := h
  rw [Vals.ref1 rx]
  cases rz with
  | cons r rr =>
    cases rr
    cases r
    obtain ⟨its, rv, p, _⟩ := I.list hl
    obtain ⟨as, hr⟩ := Dp.readsAll I ds ys its hd rv
    refine min_list_default (I.ok.hd hc) p.isList (by simpa using hr) al (by omega) (fun e h' tk hk => ⟨.non, H, I.kept hk, rfl, q0 e⟩) fun y zs i v h' tk bs e hv rd hk => ?_
    subst e
    have hv' : its[i]? = some v := by simpa using hv
    have hm : minD y zs = y := minD_first fun z hz => (List.pairwise_cons.mp pw).1 z hz
    rw [hm] at rd
    -- the item is the first one
    obtain ⟨bs2, r2, hlt, hmem, _⟩ := readsAll_atA (vs := its.toArray) (xs := y :: zs) (by simpa using hr) i v (by simpa using hv)
    have r2' := reads_keeps hk r2
    have eq : (y :: zs).getD i .none = y := alike_unique _ _ v _ _ (al.1 _ hmem _ List.mem_cons_self) r2' rd
    have i0 : i = 0 := by
      cases i with
      | zero => rfl
      | succ j =>
        have hj : (y :: zs).getD (j + 1) .none = zs.getD j .none := rfl
        rw [hj] at eq
        have hjl : j < zs.length := by simpa using hlt
        have em : zs.getD j .none ∈ zs := by
          rw [List.getD_eq_getElem?_getD, List.getElem?_eq_getElem hjl]
          exact List.getElem_mem hjl
        rw [eq] at em
        exact absurd em (List.nodup_cons.mp nd).1
    subst i0
    cases rv with
    | nil => cases hv'
    | cons ra rb =>
      have ev := Option.some.inj hv'
      subst ev
      exact ⟨_, H, I.kept hk, ra, q1 _ y rfl rfl⟩
end KS
namespace KS
open PySem PySem.Spec PyProof.Rows L2
/-! ### obstacles, as mathematics -/
abbrev Quad := Nat × Nat × Nat × Nat
def inC (cs : List Cell) (r c : Nat) : Bool := decide (((r : Int), (c : Int)) ∈ cs)
def obs (cs : List Cell) (u l a b : Nat) : Bool := inC cs u a && inC cs l b && (inC cs u b != inC cs l a)
def obsQ (cs : List Cell) (q : Quad) : Bool := obs cs q.1 q.2.1 q.2.2.1 q.2.2.2
def qlt (p q : Quad) : Prop := p.1 < q.1 ∨ (p.1 = q.1 ∧ (p.2.1 < q.2.1 ∨ (p.2.1 = q.2.1 ∧ (p.2.2.1 < q.2.2.1 ∨ (p.2.2.1 = q.2.2.1 ∧ p.2.2.2 < q.2.2.2)))))
def okQ (q : Quad) : Prop := q.1 < q.2.1 ∧ q.2.1 ≤ 7 ∧ q.2.2.1 < q.2.2.2 ∧ q.2.2.2 ≤ 7
theorem qlt_tri (p q : Quad) : qlt p q ∨ p = q ∨ qlt q p := by
  obtain ⟨p1, p2, p3, p4⟩ := p
  obtain ⟨q1, q2, q3, q4⟩ := q
  unfold qlt
  simp only [Prod.mk.injEq]
  omega
def NoObs (cs : List Cell) : Prop := ∀ q, okQ q → obsQ cs q = false
structure First (cs : List Cell) (q : Quad) : Prop where
  ok : okQ q
  hit : obsQ cs q = true
  none : ∀ p, okQ p → qlt p q → obsQ cs p = false
/-- what obstacle is to tell -/
def Ans (cs : List Cell) : Option Quad → Prop
  | none => NoObs cs
  | some q => First cs q
theorem Ans.uniq {cs : List Cell} : ∀ {o o' : Option Quad}, Ans cs o → Ans cs o' → o = o'
  | none, none, _, _ => rfl
  | none, some q, h, k => by
    have h1 := h q k.ok
    rw [k.hit] at h1
    cases h1
  | some q, none, h, k => by
    have h1 := k q h.ok
    rw [h.hit] at h1
    cases h1
  | some q, some q', h, k => by
    rcases qlt_tri q q' with e | e | e
    · have h1 := k.none q h.ok e
      rw [h.hit] at h1
      cases h1
    · rw [e]
    · have h1 := h.none q' k.ok e
      rw [k.hit] at h1
      cases h1
def quadV (q : Quad) : List V := [.int (q.1 : Nat), .int (q.2.1 : Nat), .int (q.2.2.1 : Nat), .int (q.2.2.2 : Nat)]
def quadD (q : Quad) : PyData := .tuple [.int (q.1 : Nat), .int (q.2.1 : Nat), .int (q.2.2.1 : Nat), .int (q.2.2.2 : Nat)]
def QuadAt (K : PySem.W.Frag) (H : Hp) (v : V) : Option Quad → Prop
  | none => v = .non
  | some q => ∃ t, v = .ref t ∧ SqT K H t (quadV q)
theorem QuadAt.kt {K : PySem.W.Frag} {H H' : Hp} {v : V} : ∀ {o : Option Quad}, KT K H H' → QuadAt K H v o → QuadAt K H' v o
  | none, _, h => h
  | some q, k, ⟨t, e, h⟩ => ⟨t, e, k _ _ h⟩
def spIsObs (K : PySem.W.Frag) : Sp := fun xs H Q _ => ∃ (p : Addr) (cs : List Cell) (u l a b : Nat), xs = [.ref p, .int (u : Nat), .int (l : Nat), .int (a : Nat), .int (b : Nat)] ∧ PlanAt K H p cs ∧ ∀ H', Same H H' → Q (.bl (obs cs u l a b)) H'
def spObs (K : PySem.W.Frag) : Sp := fun xs H Q _ => ∃ (p : Addr) (cs : List Cell), xs = [.ref p] ∧ PlanAt K H p cs ∧ Good cs ∧ cs.length ≤ 24 ∧ ∀ H' v o, Same H H' → Ans cs o → QuadAt K H' v o → Q v H'
def spKeeps (K : PySem.W.Frag) : Sp := fun xs H Q _ => ∃ (p : Addr) (cs : List Cell), xs = [.ref p] ∧ PlanAt K H p cs ∧ Good cs ∧ cs.length ≤ 24 ∧ ∀ H' o, Same H H' → Ans cs o → Q (.bl (decide (o = none))) H'
theorem dp_quad {K : PySem.W.Frag} {H : Hp} {t : Addr} {q : Quad} (h : SqT K H t (quadV q)) : Dp K H (.ref t) (quadD q) := .tup h (.cons (.int _) (.cons (.int _) (.cons (.int _) (.cons (.int _) .nil))))
theorem quad_small {q : Quad} (h : okQ q) : Shows (quadD q) 960 ∧ (quadD q).depth ≤ 64 := by
  obtain ⟨h1, h2, h3, h4⟩ := h
  have := shows_line (l := [(q.1 : Int), (q.2.1 : Int), (q.2.2.1 : Int), (q.2.2.2 : Int)]) (by
    intro x hx
    rcases (by simpa using hx : x = (q.1 : Int) ∨ x = (q.2.1 : Int) ∨ x = (q.2.2.1 : Int) ∨ x = (q.2.2.2 : Int)) with e | e | e | e <;> subst e <;> omega) (by show 4 ≤ 64; decide)
  exact ⟨this, by show (lineD [(q.1 : Int), (q.2.1 : Int), (q.2.2.1 : Int), (q.2.2.2 : Int)]).depth ≤ 64; rw [depth_line]; decide⟩
theorem in_cell {K : PySem.W.Frag} {H : Hp} {T p : Addr} {cs : List Cell} {r c : Nat} (hT : SqT K H T [.int (r : Nat), .int (c : Nat)]) (hp : PlanAt K H p cs) {Q : VK} (k : Q (.bl (inC cs r c)) H) : rInT K (.ref T) (.ref p) H Q := by
  refine ⟨cellD ((r : Int), (c : Int)), cs.map cellD, dp_cell hT, hp.dp, cell_shaped _, plan_shaped _, ?_⟩
  rw [in_plan]
  exact k
theorem notin_cell {K : PySem.W.Frag} {H : Hp} {T p : Addr} {cs : List Cell} {r c : Nat} (hT : SqT K H T [.int (r : Nat), .int (c : Nat)]) (hp : PlanAt K H p cs) {Q : VK} (k : Q (.bl (!inC cs r c)) H) : rNotInT K (.ref T) (.ref p) H Q := by
  refine ⟨cellD ((r : Int), (c : Int)), cs.map cellD, dp_cell hT, hp.dp, cell_shaped _, plan_shaped _, ?_⟩
  rw [in_plan]
  exact k
/-! ### the quads in their order -/
def inner4 (u l a : Nat) : List Quad := (List.range (7 - a)).map fun k => (u, l, a, a + 1 + k)
def mid4 (u l : Nat) : List Quad := (List.range 7).flatMap fun a => inner4 u l a
def two4 (u : Nat) : List Quad := (List.range (7 - u)).flatMap fun k => mid4 u (u + 1 + k)
def all4 : List Quad := (List.range 7).flatMap two4
theorem mem_inner4 {u l a : Nat} {q : Quad} : q ∈ inner4 u l a ↔ q.1 = u ∧ q.2.1 = l ∧ q.2.2.1 = a ∧ a < q.2.2.2 ∧ q.2.2.2 ≤ 7 := by
  unfold inner4
  rw [List.mem_map]
  constructor
  · rintro ⟨k, hk, rfl⟩
    have := List.mem_range.mp hk
    exact ⟨rfl, rfl, rfl, by show a < a + 1 + k; omega, by show a + 1 + k ≤ 7; omega⟩
  · rintro ⟨h1, h2, h3, h4, h5⟩
    obtain ⟨q1, q2, q3, q4⟩ := q
    dsimp only at h1 h2 h3 h4 h5
    refine ⟨q4 - (a + 1), List.mem_range.mpr (by omega), ?_⟩
    simp only [Prod.mk.injEq]
    omega
theorem mem_mid4 {u l : Nat} {q : Quad} : q ∈ mid4 u l ↔ q.1 = u ∧ q.2.1 = l ∧ q.2.2.1 < q.2.2.2 ∧ q.2.2.2 ≤ 7 := by
  unfold mid4
  rw [List.mem_flatMap]
  constructor
  · rintro ⟨a, ha, h⟩
    obtain ⟨h1, h2, h3, h4, h5⟩ := mem_inner4.mp h
    exact ⟨h1, h2, by omega, h5⟩
  · rintro ⟨h1, h2, h3, h4⟩
    exact ⟨q.2.2.1, List.mem_range.mpr (by omega), mem_inner4.mpr ⟨h1, h2, rfl, h3, h4⟩⟩
theorem mem_two4 {u : Nat} {q : Quad} : q ∈ two4 u ↔ q.1 = u ∧ u < q.2.1 ∧ q.2.1 ≤ 7 ∧ q.2.2.1 < q.2.2.2 ∧ q.2.2.2 ≤ 7 := by
  unfold two4
  rw [List.mem_flatMap]
  constructor
  · rintro ⟨k, hk, h⟩
    have := List.mem_range.mp hk
    obtain ⟨h1, h2, h3, h4⟩ := mem_mid4.mp h
    exact ⟨h1, by omega, by omega, h3, h4⟩
  · rintro ⟨h1, h2, h3, h4, h5⟩
    exact ⟨q.2.1 - (u + 1), List.mem_range.mpr (by omega), mem_mid4.mpr ⟨h1, by omega, h4, h5⟩⟩
theorem mem_all4 {q : Quad} : q ∈ all4 ↔ okQ q := by
  unfold all4 okQ
  rw [List.mem_flatMap]
  constructor
  · rintro ⟨u, hu, h⟩
    obtain ⟨h1, h2, h3, h4, h5⟩ := mem_two4.mp h
    exact ⟨by omega, h3, h4, h5⟩
  · rintro ⟨h1, h2, h3, h4⟩
    exact ⟨q.1, List.mem_range.mpr (by omega), mem_two4.mpr ⟨rfl, h1, h2, h3, h4⟩⟩
theorem asc_all4 : all4.Pairwise qlt := by
  have i4 : ∀ u l a, (inner4 u l a).Pairwise qlt := fun u l a => by
    unfold inner4
    rw [List.pairwise_map]
    refine List.pairwise_lt_range.imp fun {x y} h => ?_
    exact .inr ⟨rfl, .inr ⟨rfl, .inr ⟨rfl, by show a + 1 + x < a + 1 + y; omega⟩⟩⟩
  have m4 : ∀ u l, (mid4 u l).Pairwise qlt := fun u l => by
    unfold mid4
    rw [List.pairwise_flatMap]
    refine ⟨fun a _ => i4 u l a, List.pairwise_lt_range.imp fun {x y} h p hp q hq => ?_⟩
    obtain ⟨a1, a2, a3, _⟩ := mem_inner4.mp hp
    obtain ⟨b1, b2, b3, _⟩ := mem_inner4.mp hq
    exact .inr ⟨by omega, .inr ⟨by omega, .inl (by omega)⟩⟩
  have t4 : ∀ u, (two4 u).Pairwise qlt := fun u => by
    unfold two4
    rw [List.pairwise_flatMap]
    refine ⟨fun k _ => m4 _ _, List.pairwise_lt_range.imp fun {x y} h p hp q hq => ?_⟩
    obtain ⟨a1, a2, _⟩ := mem_mid4.mp hp
    obtain ⟨b1, b2, _⟩ := mem_mid4.mp hq
    exact .inr ⟨by omega, .inl (by omega)⟩
  unfold all4
  rw [List.pairwise_flatMap]
  refine ⟨fun u _ => t4 u, List.pairwise_lt_range.imp fun {x y} h p hp q hq => ?_⟩
  obtain ⟨a1, _⟩ := mem_two4.mp hp
  obtain ⟨b1, _⟩ := mem_two4.mp hq
  exact .inl (by omega)
theorem len_all4 : all4.length = 784 := by decide +kernel
theorem qlt_irr (p : Quad) : ¬ qlt p p := by
  unfold qlt
  omega
theorem qlt_asym {p q : Quad} (h : qlt p q) : ¬ qlt q p := by
  unfold qlt at *
  omega
/-- the first of those that are left -/
theorem ans_of_filter (cs : List Cell) : Ans cs (all4.filter (obsQ cs)).head? := by
  have pw : (all4.filter (obsQ cs)).Pairwise qlt := asc_all4.sublist List.filter_sublist
  have mm : ∀ q, q ∈ all4.filter (obsQ cs) ↔ okQ q ∧ obsQ cs q = true := fun q => by rw [List.mem_filter, mem_all4]
  generalize all4.filter (obsQ cs) = L at pw mm
  cases L with
  | nil =>
    intro q hq
    cases e : obsQ cs q with
    | false => rfl
    | true => exact absurd ((mm q).mpr ⟨hq, e⟩) (by simp)
  | cons q L =>
    obtain ⟨h1, h2⟩ := (mm q).mp List.mem_cons_self
    refine ⟨h1, h2, fun p hp hlt => ?_⟩
    cases e : obsQ cs p with
    | false => rfl
    | true =>
      rcases List.mem_cons.mp ((mm p).mpr ⟨hp, e⟩) with z | z
      · rw [z] at hlt
        exact absurd hlt (qlt_irr q)
      · exact absurd hlt (qlt_asym ((List.pairwise_cons.mp pw).1 p z))
open PySem.W (AlikeAll dataLt dataLt_tuple dataLt_cons dataLt_int alike)
theorem lt_quad {p q : Quad} (h : qlt p q) : dataLt (quadD q) (quadD p) = false := by
  unfold quadD
  rw [dataLt_tuple, dataLt_cons (by simp [alike]), dataLt_cons (by simp [alike]), dataLt_cons (by simp [alike]), dataLt_cons (by simp [alike])]
  rw [dataLt_int, dataLt_int, dataLt_int, dataLt_int]
  simp only [PyData.eqv, beq_iff_eq]
  unfold qlt at h
  by_cases e1 : (q.1 : Int) = (p.1 : Int)
  · rw [if_pos e1]
    by_cases e2 : (q.2.1 : Int) = (p.2.1 : Int)
    · rw [if_pos e2]
      by_cases e3 : (q.2.2.1 : Int) = (p.2.2.1 : Int)
      · rw [if_pos e3, if_neg (by omega)]
        exact decide_eq_false (by omega)
      · rw [if_neg e3]
        exact decide_eq_false (by omega)
    · rw [if_neg e2]
      exact decide_eq_false (by omega)
  · rw [if_neg e1]
    exact decide_eq_false (by omega)
theorem quads_alike (L : List Quad) : AlikeAll (L.map quadD) := by
  refine ⟨fun x hx y hy => ?_, fun x hx => ?_⟩
  · obtain ⟨p, _, rfl⟩ := List.mem_map.mp hx
    obtain ⟨q, _, rfl⟩ := List.mem_map.mp hy
    simp [quadD, alike, PySem.W.alikeAll]
  · obtain ⟨p, _, rfl⟩ := List.mem_map.mp hx
    unfold quadD
    intro e
    cases e
theorem quads_depth : ∀ L : List Quad, PyData.depthAll (L.map quadD) ≤ 1
  | [] => by simp [PyData.depthAll]
  | q :: L => by
    have a := quads_depth L
    have b : (quadD q).depth = 1 := depth_line [(q.1 : Int), (q.2.1 : Int), (q.2.2.1 : Int), (q.2.2.2 : Int)]
    simp only [List.map_cons, PyData.depthAll]
    omega
theorem quad_inj {p q : Quad} (h : quadD p = quadD q) : p = q := by
  unfold quadD at h
  obtain ⟨p1, p2, p3, p4⟩ := p
  obtain ⟨q1, q2, q3, q4⟩ := q
  injection h with h
  simp only [List.cons.injEq, PyData.int.injEq, and_true] at h
  simp only [Prod.mk.injEq]
  omega
def shownO : Option Quad → Str
  | none => "None"
  | some q => (quadD q).shown
theorem if_reprN {K : PySem.W.Frag} {t : TS} {D : Ends} {σ : L2.St} {H : Hp} {i j : Nat} {x y : V} {o : Option Quad} {cs : List Cell} (h1 : σ[i]? = some (some x)) (h2 : σ[j]? = some (some y)) (an : Ans cs o) (hx : QuadAt K H x o) (hy : QuadAt K H y o) (k : D.nx σ H) :
    tIfS (tTest (tOp rNe (tCB (rReprN K) (tCons (tVar i) tNil)) (tCB (rReprN K) (tCons (tVar j) tNil)))) t tNext D σ H := by
  cases o with
  | none =>
    have hx : x = .non := hx
    have hy : y = .non := hy
    subst hx hy
    refine ⟨_, h1, .inl ⟨rfl, _, h2, .inl ⟨rfl, ?_⟩⟩⟩
    generalize Str.ofString "None" = z
    exact ⟨rfl, _, rfl, iteNS rfl k⟩
  | some q =>
    obtain ⟨u, rfl, hu⟩ := hx
    obtain ⟨v, rfl, hv⟩ := hy
    obtain ⟨sh, dp⟩ := quad_small an.ok
    have hd := dp_quad hu
    have he := dp_quad hv
    have hl : (quadD q).shown.length ≤ sizeLine := sh.len (by decide)
    have h3 := sh.show_
    have h4 := sh.nod
    clear sh
    generalize quadD q = d at hd he hl h3 h4 dp
    refine ⟨_, h1, .inr ⟨u, d, rfl, hd, h3, h4, hl, dp, ?_⟩⟩
    refine ⟨_, h2, .inr ⟨v, d, rfl, he, h3, h4, hl, dp, ?_⟩⟩
    generalize d.shown = z
    exact ⟨rfl, _, rfl, iteNS rfl k⟩
end KS
namespace KS
open PySem PySem.Spec PyProof.Rows L2 RZ TL
section
variable {X : Cx}
/-- {k: v for ..} as a value, the keys tuples -/
theorem pe_dcT {kx vx tg iter : Expr} {ifs : List Expr} {scope : Scope} {own : List (Str × Nat)} {pos : Pos} {wi : TI} {g : TG} {tt : TT} {tk tv : TE} (hu : X.A.units < cLine) (hc : X.calm = true) (hN : X.N.Nodup) (hi : PI X tg iter wi) (ok : BlkOk X.N X.env.scope scope own)
    (hg : ∀ (s : Shared) (H : Hp) (C : Addr) (cl : List (Str × Addr)) (fp : List Addr), PG (X.blk s H scope (compEnvC scope cl C X.env) fp) tg g)
    (ht : ∀ (s : Shared) (H : Hp) (C : Addr) (cl : List (Str × Addr)) (fp : List Addr), PTs (X.blk s H scope (compEnvC scope cl C X.env) fp) ifs tt)
    (hk : ∀ (s : Shared) (H : Hp) (C : Addr) (cl : List (Str × Addr)) (fp : List Addr), PE (X.blk s H scope (compEnvC scope cl C X.env) fp) kx tk)
    (hv : ∀ (s : Shared) (H : Hp) (C : Addr) (cl : List (Str × Addr)) (fp : List Addr), PE (X.blk s H scope (compEnvC scope cl C X.env) fp) vx tv)
    (hs : ∀ x, foldedSetIterable iter X.env x = pure x := by intro _; rfl) :
    PE X (.DictComp kx vx [⟨tg, iter, ifs, 0⟩] scope pos) (tDcT wi g tt tk tv (own.map (·.2))) := by
  refine ⟨fun pins s σ H Q I h => ?_⟩
  rw [arm_eval_DictComp]
  refine dcT_core hu hc hN I hi ok hg ht hk hv hs h fun D C s' m H' I' q hn f => ⟨m, hn, fun h'' sb => ?_⟩
  obtain ⟨g0, g1, g2, g3, g4, g5⟩ := f
  exact ⟨.ref D, H', I'.turned (t' := s'.toks) (fun b o hb e => (sb.2 b hb).trans e) g0 g1 g3 g4 g5, rfl, q⟩
end
/-- max of a list of whole numbers, for use anywhere -/
theorem cr_maxK {X : Cx} {K : PySem.W.Frag} (hc : X.calm = true) (hK : X.K = K) : CallR X (.builtin "max") (rMax K) := by
  subst hK
  exact cr_max hc
def rJoinK (K : PySem.W.Frag) : V → List V → Hp → VK → Prop := fun x xs H Q => ∃ a p, ∃ ys : List Str, x = .str a ∧ xs = [.ref p] ∧ (SqL K H p (ys.map V.str) ∨ SqT K H p (ys.map V.str)) ∧ (ys.map (·.length)).sum + ys.length * a.length ≤ 16777216 ∧ Q (.str (Txt.join a ys)) H
theorem mt_joinK {X : Cx} {K : PySem.W.Frag} (hK : X.K = K) : MtR X "str.join" (rJoinK K) := by
  subst hK
  exact mt_join
def spFmtT (K : PySem.W.Frag) : Sp := fun xs H Q _ => ∃ (a t : Addr) (cs : List Cell) (vs : List Int), xs = [.ref a, .ref t] ∧ PlanT K H a cs ∧ Good cs ∧ cs.length ≤ 24 ∧ SqT K H t (vs.map V.int) ∧ Vals9 cs.length vs ∧ ∀ H', Same H H' → Q (.str (page cs vs)) H'
end KS
namespace KS
open PySem PySem.Spec PyProof.Rows L2
def topS (i : Nat) : Stmt := PySem.Challenge.pw_keepsort_k25_table_texts.main.body.getD i (.Pass ⟨0, 0, 0, 0⟩)
abbrev sCell : Stmt := topS 25
abbrev sPool : Stmt := topS 26
abbrev sDraw : Stmt := topS 27
theorem scCell : FnScope ["_law_script", "_law_k", "_law_state", "_law_number"] ["_law_script", "_law_k"] (defScope sCell) := ⟨rfl, rfl, rfl, by decide +kernel, rfl, by decide +kernel, by decide +kernel⟩
theorem scPool : FnScope ["_law_number", "_law_digits"] ["_law_number"] (defScope sPool) := ⟨rfl, rfl, rfl, by decide +kernel, rfl, by decide +kernel, by decide +kernel⟩
theorem scDraw : FnScope ["_law_pool_here", "_law_most", "_law_state", "_law_digit"] ["_law_pool_here", "_law_most"] (defScope sDraw) := ⟨rfl, rfl, rfl, by decide +kernel, rfl, by decide +kernel, by decide +kernel⟩
section
variable {P : Program} {w : World} {K : PySem.W.Frag} {mg : Str → Option Value} {base : Heap}
theorem ok_cell {f : Addr} {fd : FuncData} (F : Fun K "_law_cell" "_law_cell" sCell f fd) (ml : mg "len" = none) : FnOk P w K mg base CX0 1 f fd ["_law_script", "_law_k"] (spCell K) := by
  refine F.ok scCell (fun vs H Q E h => ?_) (fun cdv A outer s H vs Q E hr h => ?_)
  · obtain ⟨a, ns, k, rfl, _⟩ := h
    rfl
  · obtain ⟨a, ns, k, rfl, hS, hk, q⟩ := h
    refine ⟨_, pss_cons (ps_if (pt_cmpR op_lt (pv 1) (pe_callB call_len_seq (by rfl) ml PySem.boot_len (pa_cons (pv 0) pa_nil)) (nomark _))
        (pss_one (ps_ret (pe_ix ix_list (pv 0) (pv 1) (fun _ _ => rfl)))) pss_nil)
      (pss_cons (ps_set (i := 2) scCell.nd rfl (.inl rfl) (pe_op op_mod (pe_op op_mul pe_int (pe_op op_add (pe_op op_add (pe_op op_mul (pv 1) (pv 1)) (pe_op op_mul pe_int (pv 1))) pe_int)) pe_int))
      (pss_cons (ps_for PassesOwn.never rfl (pi_list (pe_slice sl_list (pv 0) po_none (po_some pe_int))) (pg_name (i := 3) scCell.nd rfl (.inl rfl))
        (pss_one (ps_set (i := 2) scCell.nd rfl (.inl rfl) (pe_op op_mod (pe_op op_add (pe_op op_mul (pv 2) pe_int) (pv 3)) pe_int))))
      (pss_one (ps_ret (pv 2))))), ?_⟩
    refine ⟨_, rfl, _, rfl, a, ns.map V.int, rfl, .inl hS, _, _, rfl, rfl, _, rfl, ite2 (fun e => ?_) (fun e => ?_)⟩
    · have e0 : (k : Int) < ((ns.map V.int).length : Int) := of_decide_eq_true e
      rw [List.length_map] at e0
      have hj : k < ns.length := by omega
      refine ⟨_, rfl, _, rfl, a, _, _, .int ns[k], rfl, rfl, hS, atI_nat (j := k) ?_, q H _ (Same.refl H)⟩
      rw [List.getElem?_map, List.getElem?_eq_getElem hj]
      rfl
    · refine ⟨_, rfl, _, rfl, _, _, rfl, rfl, .inl ⟨by omega, by omega⟩, _, rfl, _, _, rfl, rfl, .inl ⟨by omega, by omega⟩, _, _, rfl, rfl, _, _, rfl, rfl, _, _, rfl, rfl, .inl ⟨by omega, by omega⟩, _, _, rfl, rfl, by show (0 : Int) < 2147483249; decide, ?_⟩
      refine ⟨_, rfl, 3, rfl, a, _, rfl, hS, fun c nc => ?_⟩
      have s1 := same_new (o := .lst (cutV (ns.map V.int) none (some 3))) nc
      have hc : SqL K (upd H c (.lst (cutV (ns.map V.int) none (some 3)))) c (cutV (ns.map V.int) none (some 3)) := SqL.of upd_same
      refine ⟨c, rfl, ⟨_, hc⟩, for_list (K := K) (a := c) (xs := cutV (ns.map V.int) none (some 3)) (fun i σ H' => ∃ (st : Int) (y : Option V), σ = [some (.ref a), some (.int k), some (.int st), y] ∧ 0 ≤ st ∧ st < 2147483249 ∧ H' = upd H c (.lst (cutV (ns.map V.int) none (some 3)))) ?_ ?_ ?_ ?_⟩
      · have b := int_mod_bd (60013 * ((k : Int) * k + 5 * k + 3)) (m := 2147483249) (by decide)
        exact ⟨_, none, rfl, b.1, b.2, rfl⟩
      · rintro i σ H' _ ⟨st, y, rfl, _, _, rfl⟩
        exact hc
      · rintro i x σ H' hi ⟨st, y, rfl, h0, h1, rfl⟩
        have hm : x ∈ ns.map V.int := by
          have := List.mem_of_getElem? hi
          unfold cutV at this
          exact List.mem_of_mem_drop (List.mem_of_mem_take this)
        obtain ⟨n, _, rfl⟩ := List.mem_map.mp hm
        have b := int_mod_bd (st * 41221 + n) (m := 2147483249) (by decide)
        refine ⟨_, rfl, _, _, rfl, rfl, .inl ⟨by omega, by omega⟩, _, rfl, _, _, rfl, rfl, _, _, rfl, rfl, by show (0 : Int) < 2147483249; decide, ?_⟩
        exact ⟨_, some (.int n), rfl, b.1, b.2, rfl⟩
      · rintro σ H' ⟨st, y, rfl, h0, h1, rfl⟩
        exact ⟨_, rfl, q _ _ s1⟩
theorem ok_pool {f : Addr} {fd : FuncData} (F : Fun K "_law_pool" "_law_pool" sPool f fd) (ma : mg "abs" = none) : FnOk P w K mg base CX0 1 f fd ["_law_number"] spPool := by
  refine F.ok scPool (fun vs H Q E h => ?_) (fun cdv A outer s H vs Q E hr h => ?_)
  · obtain ⟨n, rfl, _⟩ := h
    rfl
  · obtain ⟨n, rfl, q⟩ := h
    refine ⟨_, pss_cons (ps_set (i := 1) scPool.nd rfl (.inl rfl) (pe_ifExp (PW.pt (pw_or (pt_cmpR op_lt (pv 0) pe_int (nomark _)) (pw_or1 (pt_cmpR op_ge (pv 0) (pe_op op_pow pe_int pe_int) (nomark _)))))
        (pe_callB call_abs (by rfl) ma (by decide +kernel) (pa_cons (pv 0) pa_nil)) pe_int))
      (pss_one (ps_ret (pe_lst (pa_cons (pe_op op_mod (pv 0) pe_int) (pa_cons (pv 1) (pa_cons pe_int pa_nil)))))), ?_⟩
    have b := int_mod_bd n (m := 2147483249) (by decide)
    have fin : ∀ d : Int, 0 ≤ d → tRet (tLst (tCons (tOp (rI (fun _ j => 0 < j) fun i j => .int (i % j)) (tVar 0) (tC (.int 2147483249))) (tCons (tVar 1) (tCons (tC (.int 0)) tNil)))) { nx := fun _ H' => Q .non H', rt := Q } [some (.int n), some (.int d)] H := fun d hd => by
      refine ⟨_, rfl, _, _, rfl, rfl, by show (0 : Int) < 2147483249; decide, _, rfl, (by show 3 ≤ sizeLine; decide), fun p np => ?_⟩
      exact q _ _ (same_new np) np ⟨_, _, _, upd_same, b.1, b.2, hd⟩
    refine ⟨_, rfl, _, _, rfl, rfl, _, rfl, ite2 (fun e => ?_) (fun e => ?_)⟩
    · have e0 : n < 0 := of_decide_eq_true e
      refine iteT ⟨_, rfl, n, rfl, ?_⟩
      rw [if_pos e0]
      exact fin _ (by omega)
    · refine ⟨_, rfl, _, _, rfl, rfl, ⟨by decide, by decide, by decide⟩, _, _, rfl, rfl, _, rfl, ite2 (fun e1 => ?_) (fun e1 => ?_)⟩
      · have e0 : ¬ n < 0 := fun z => e (decide_eq_true z)
        refine ⟨_, rfl, n, rfl, ?_⟩
        rw [if_neg e0]
        exact fin _ (by omega)
      · exact fin _ (by omega)
theorem ok_draw {f : Addr} {fd : FuncData} (F : Fun K "_law_draw" "_law_draw" sDraw f fd) (md : mg "divmod" = none) : FnOk P w K mg base CX0 1 f fd ["_law_pool_here", "_law_most"] spDraw := by
  refine F.ok scDraw (fun vs H Q E h => ?_) (fun cdv A outer s H vs Q E hr h => ?_)
  · obtain ⟨p, m, rfl, _⟩ := h
    rfl
  · obtain ⟨p, m, rfl, ⟨a, b, c, hp, a0, a1, b0⟩, m0, m1, q⟩ := h
    refine ⟨_, pss_cons (ps_asg (pe_op op_add (pe_ix ix_list (pv 0) pe_int (fun _ _ => rfl)) pe_int) (pg_sub (pv 0) pe_int set_list))
      (pss_cons (ps_set (i := 2) scDraw.nd rfl (.inl rfl) (pe_ix ix_list (pv 0) pe_int (fun _ _ => rfl)))
      (pss_cons (ps_asg (pe_op op_mod (pe_op op_add (pe_op op_mul (pv 2) (pe_op op_add (pe_op op_mod (pv 2) pe_int) pe_int)) (pe_op op_mul pe_int (pe_ix ix_list (pv 0) pe_int (fun _ _ => rfl)))) pe_int) (pg_sub (pv 0) pe_int set_list))
      (pss_cons (ps_if (pt_cmpR op_gt (pe_ix ix_list (pv 0) pe_int (fun _ _ => rfl)) pe_int (nomark _))
        (pss_cons (ps_asg (pe_callB call_divmod (by rfl) md (by decide +kernel) (pa_cons (pe_ix ix_list (pv 0) pe_int (fun _ _ => rfl)) (pa_cons (pv 1) pa_nil)))
            (pg_tup (by rfl) (pgs_cons (pg_sub (pv 0) pe_int set_list) (pgs_cons (pg_name (i := 3) scDraw.nd rfl (.inl rfl)) pgs_nil))))
          (pss_one (ps_ret (pv 3)))) pss_nil)
      (pss_one (ps_ret (pe_op op_mod (pe_op op_fdiv (pe_ix ix_list (pv 0) pe_int (fun _ _ => rfl)) pe_int) (pv 1))))))), ?_⟩
    -- pool[2] = pool[2] + 1
    refine ⟨_, rfl, p, _, 2, .int c, rfl, rfl, SqL.of hp, rfl, _, _, rfl, rfl, _, rfl, p, _, 2, 2, rfl, rfl, hp, rfl, ?_⟩
    refine ⟨_, rfl, p, _, 0, .int a, rfl, rfl, SqL.of upd_same, rfl, ?_⟩
    have bm := int_mod_bd a (m := 50021) (by decide)
    refine ⟨_, rfl, _, rfl, _, _, rfl, rfl, by show (0 : Int) < 50021; decide, _, _, rfl, rfl, _, _, rfl, rfl, .inl ⟨by omega, by omega⟩, _, rfl, p, _, 2, .int (c + 1), rfl, rfl, SqL.of upd_same, rfl, _, _, rfl, rfl, .inl ⟨by decide, by decide⟩, _, _, rfl, rfl, _, _, rfl, rfl, by show (0 : Int) < 2147483249; decide, ?_⟩
    refine ⟨_, rfl, p, _, 0, 0, rfl, rfl, upd_same, rfl, ?_⟩
    have bz := int_mod_bd (a * (a % 50021 + 30011) + 80021 * (c + 1)) (m := 2147483249) (by decide)
    rw [upd_upd]
    show _
    refine ⟨_, rfl, p, _, 1, .int b, rfl, rfl, SqL.of upd_same, rfl, _, _, rfl, rfl, _, rfl, ite2 (fun e => ?_) (fun e => ?_)⟩
    · refine ⟨_, rfl, p, _, 1, .int b, rfl, rfl, SqL.of upd_same, rfl, _, rfl, b, m, rfl, ⟨m0, m1⟩, fun t nt => ?_⟩
      have npt : p ≠ t := ne_of_none upd_same nt
      refine ⟨t, _, rfl, SqT.of upd_same, rfl, _, _, rfl, ?_⟩
      refine ⟨_, rfl, p, _, 1, 1, rfl, rfl, by rw [upd_ne npt]; exact upd_same, rfl, _, [], rfl, rfl, ?_⟩
      have br := int_mod_bd b m0
      refine ⟨_, rfl, q _ _ (fun x o n e => ?_) ⟨_, _, _, upd_same, bz.1, bz.2, Int.ediv_nonneg b0 (by omega)⟩ br.1 br.2⟩
      rw [upd_ne n, upd_ne, upd_ne n]
      · exact e
      · intro z
        rw [z] at e
        rw [upd_ne (Ne.symm npt)] at nt
        rw [nt] at e
        cases e
    · refine ⟨_, rfl, p, _, 0, .int ((a * (a % 50021 + 30011) + 80021 * (c + 1)) % 2147483249), rfl, rfl, SqL.of upd_same, rfl, _, _, rfl, rfl, ⟨by decide, by decide⟩, _, rfl, _, _, rfl, rfl, m0, ?_⟩
      have br := int_mod_bd ((a * (a % 50021 + 30011) + 80021 * (c + 1)) % 2147483249 / 64) m0
      exact q _ _ keepX_upd ⟨_, _, _, upd_same, bz.1, bz.2, b0⟩ br.1 br.2
end
end KS
namespace KS
open PySem PySem.Spec PyProof.Rows L2
abbrev sWhole : Stmt := topS 9
abbrev sBetween : Stmt := topS 10
abbrev sPlace : Stmt := topS 11
abbrev sIsCell : Stmt := topS 12
abbrev sCheck : Stmt := topS 13
theorem scWhole : FnScope ["value"] ["value"] (defScope sWhole) := ⟨rfl, rfl, rfl, by decide +kernel, rfl, by decide +kernel, by decide +kernel⟩
theorem scBetween : FnScope ["value", "least", "most"] ["value", "least", "most"] (defScope sBetween) := ⟨rfl, rfl, rfl, by decide +kernel, rfl, by decide +kernel, by decide +kernel⟩
theorem scPlace : FnScope ["value"] ["value"] (defScope sPlace) := ⟨rfl, rfl, rfl, by decide +kernel, rfl, by decide +kernel, by decide +kernel⟩
theorem scIsCell : FnScope ["value"] ["value"] (defScope sIsCell) := ⟨rfl, rfl, rfl, by decide +kernel, rfl, by decide +kernel, by decide +kernel⟩
theorem scCheck : FnScope ["plan", "index", "cell"] ["plan"] (defScope sCheck) := ⟨rfl, rfl, rfl, by decide +kernel, rfl, by decide +kernel, by decide +kernel⟩
section
variable {P : Program} {w : World} {K : PySem.W.Frag} {mg : Str → Option Value} {base : Heap}
theorem ok_whole {f : Addr} {fd : FuncData} (F : Fun K "is_whole" "is_whole" sWhole f fd) (mi : mg "isinstance" = none) (mI : mg "int" = none) (mB : mg "bool" = none) : FnOk P w K mg base CX0 1 f fd ["value"] spWhole := by
  refine F.ok scWhole (fun vs H Q E h => ?_) (fun cdv A outer s H vs Q E hr h => ?_)
  · obtain ⟨i, rfl, _⟩ := h
    rfl
  · obtain ⟨i, rfl, q⟩ := h
    refine ⟨_, pss_one (ps_ret (pe_and (pe_callB call_isi (by rfl) mi (by decide +kernel) (pa_cons (pv 0) (pa_cons (pe_bltn (v := .ty "int") (by rfl) mI (by decide +kernel) rfl) pa_nil)))
      (pe_one (pe_not (pe_callB call_isi (by rfl) mi (by decide +kernel) (pa_cons (pv 0) (pa_cons (pe_bltn (v := .ty "bool") (by rfl) mB (by decide +kernel) rfl) pa_nil))))))), ?_⟩
    refine ⟨_, rfl, _, _, _, _, true, rfl, .ty "int", .base (.int i), kit_ty (by decide +kernel), true, rfl, ?_⟩
    refine ⟨_, rfl, _, _, _, _, false, rfl, .ty "bool", .base (.int i), kit_ty (by decide +kernel), false, rfl, ?_⟩
    exact q
theorem ok_between {f fW : Addr} {fd fdW : FuncData} (F : Fun K "is_between" "is_between" sBetween f fd) (GW : FnOk P w K mg base CX0 1 fW fdW ["value"] spWhole) (bW : Binds K fdW ["value"] []) (gW : mg "is_whole" = some (.ref fW)) (kW : PySem.W.keepIn K (.ref fW) = true) :
    FnOk P w K mg base CX0 2 f fd ["value", "least", "most"] spBetween := by
  refine F.ok scBetween (fun vs H Q E h => ?_) (fun cdv A outer s H vs Q E hr h => ?_)
  · obtain ⟨i, lo, hi, rfl, _⟩ := h
    rfl
  · obtain ⟨i, lo, hi, rfl, h1, h2, q⟩ := h
    refine ⟨_, pss_one (ps_ret (pe_and (pe_call GW hr (by rfl) gW kW bW .nil pass0 (pa_cons (pv 0) pa_nil)) (pe_one (pe_chain op_le op_le (pv 1) (pv 0) (pv 2))))), ?_⟩
    refine ⟨_, rfl, i, rfl, true, rfl, ?_⟩
    refine ⟨_, rfl, _, rfl, _, _, rfl, rfl, true, bl_true h1, ?_⟩
    refine ⟨_, rfl, _, _, rfl, rfl, ?_⟩
    show Q (V.bl (decide (i ≤ hi))) H
    rw [bl_true h2]
    exact q
theorem ok_place {f fB : Addr} {fd fdB : FuncData} {t : Tok} (F : Fun K "is_place" "is_place" sPlace f fd) (GB : FnOk P w K mg base CX0 2 fB fdB ["value", "least", "most"] spBetween) (bB : Binds K fdB ["value", "least", "most"] []) (gB : mg "is_between" = some (.ref fB)) (kB : PySem.W.keepIn K (.ref fB) = true)
    (mM : mg "MOST_INDEX" = some (.int 7 t)) : FnOk P w K mg base CX0 3 f fd ["value"] spPlace := by
  refine F.ok scPlace (fun vs H Q E h => ?_) (fun cdv A outer s H vs Q E hr h => ?_)
  · obtain ⟨i, rfl, _⟩ := h
    rfl
  · obtain ⟨i, rfl, hp, q⟩ := h
    refine ⟨_, pss_one (ps_ret (pe_call GB hr (by rfl) gB kB bB .nil pass0 (pa_cons (pv 0) (pa_cons pe_int (pa_cons (pe_glob (v := .int 7) (by rfl) mM ⟨_, rfl⟩) pa_nil))))), ?_⟩
    exact ⟨_, rfl, i, 0, 7, rfl, hp.1, hp.2, q⟩
theorem ok_isCell {f fP : Addr} {fd fdP : FuncData} (F : Fun K "is_cell" "is_cell" sIsCell f fd) (GP : FnOk P w K mg base CX0 3 fP fdP ["value"] spPlace) (bP : Binds K fdP ["value"] []) (gP : mg "is_place" = some (.ref fP)) (kP : PySem.W.keepIn K (.ref fP) = true)
    (mi : mg "isinstance" = none) (mT : mg "tuple" = none) (ml : mg "len" = none) : FnOk P w K mg base CX0 4 f fd ["value"] (spIsCell K) := by
  refine F.ok scIsCell (fun vs H Q E h => ?_) (fun cdv A outer s H vs Q E hr h => ?_)
  · obtain ⟨a, c, rfl, _⟩ := h
    rfl
  · obtain ⟨a, c, rfl, ht, hg, q⟩ := h
    refine ⟨_, pss_one (ps_ret (pe_and (pe_callB call_isi (by rfl) mi (by decide +kernel) (pa_cons (pv 0) (pa_cons (pe_bltn (v := .ty "tuple") (by rfl) mT (by decide +kernel) rfl) pa_nil)))
      (pe_and (pe_cmpR op_eq (pe_callB call_len_seq (by rfl) ml PySem.boot_len (pa_cons (pv 0) pa_nil)) pe_int (nomark _))
      (pe_and (pe_call GP hr (by rfl) gP kP bP .nil pass0 (pa_cons (pe_ix ix_tup (pv 0) pe_int (fun _ _ => rfl)) pa_nil))
      (pe_one (pe_call GP hr (by rfl) gP kP bP .nil pass0 (pa_cons (pe_ix ix_tup (pv 0) pe_int (fun _ _ => rfl)) pa_nil))))))), ?_⟩
    refine ⟨_, rfl, _, _, _, _, true, rfl, .ty "tuple", tyx_tup ht, kit_ty (by decide +kernel), true, rfl, ?_⟩
    refine ⟨_, rfl, a, _, rfl, .inr ht, rfl, true, rfl, ?_⟩
    refine ⟨_, rfl, a, _, 0, .int c.1, rfl, rfl, ht, rfl, c.1, rfl, ⟨hg.1, hg.2.1⟩, true, rfl, ?_⟩
    exact ⟨_, rfl, a, _, 1, .int c.2, rfl, rfl, ht, rfl, c.2, rfl, ⟨hg.2.2.1, hg.2.2.2⟩, q⟩
theorem ok_check {f fI : Addr} {fd fdI : FuncData} {t : Tok} (F : Fun K "check_plan" "check_plan" sCheck f fd) (GI : FnOk P w K mg base CX0 4 fI fdI ["value"] (spIsCell K)) (bI : Binds K fdI ["value"] []) (gI : mg "is_cell" = some (.ref fI)) (kI : PySem.W.keepIn K (.ref fI) = true)
    (mi : mg "isinstance" = none) (mT : mg "tuple" = none) (ml : mg "len" = none) (me : mg "enumerate" = none) (mM : mg "MOST_CELLS" = some (.int 24 t)) : FnOk P w K mg base CX0 5 f fd ["plan"] (spCheck K) := by
  refine F.ok scCheck (fun vs H Q E h => ?_) (fun cdv A outer s H vs Q E hr h => ?_)
  · obtain ⟨a, c, rfl, _⟩ := h
    rfl
  · obtain ⟨a, cs, rfl, ⟨xs, hx, hc⟩, gd, hl, q⟩ := h
    have nd := scCheck.nd
    refine ⟨_, pss_cons (ps_if (PW.pt (pw_or (pt_not (pt_val (pe_callB call_isi (by rfl) mi (by decide +kernel) (pa_cons (pv 0) (pa_cons (pe_bltn (v := .ty "tuple") (by rfl) mT (by decide +kernel) rfl) pa_nil)))))
          (pw_or1 (pt_not (pt_chain op_le op_le pe_int (pe_callB call_len_seq (by rfl) ml PySem.boot_len (pa_cons (pv 0) pa_nil)) (pe_glob (v := .int 24) (by rfl) mM ⟨_, rfl⟩))))))
        (pss_one ps_never) pss_nil)
      (pss_one (ps_for PassesOwn.never rfl (pi_enumT (by rfl) me (pa_cons (pv 0) pa_nil)) (pg_tup (by rfl) (pgs_cons (pg_name (i := 1) nd rfl (.inl rfl)) (pgs_cons (pg_name (i := 2) nd rfl (.inl rfl)) pgs_nil)))
        (pss_cons (ps_if (pt_not (pt_val (pe_call GI hr (by rfl) gI kI bI .nil pass0 (pa_cons (pv 2) pa_nil)))) (pss_one ps_never) pss_nil)
        (pss_one (ps_if (PW.pt (pw_and (pt_cmpR op_gt (pv 1) pe_int (nomark _)) (pw_and1 (pt_cmpR (op_leT hr.units0) (pv 2) (pe_ix ix_tup (pv 0) (pe_op op_sub (pv 1) pe_int) (fun _ _ => rfl)) (nomark _))))) (pss_one ps_never) pss_nil))))), ?_⟩
    have hlen := Paired.length hc
    have h1 : 1 ≤ xs.length := by
      rcases Nat.eq_zero_or_pos cs.length with z | z
      · exact absurd (List.eq_nil_of_length_eq_zero z) gd.ne
      · omega
    refine ⟨_, rfl, _, _, _, _, true, rfl, .ty "tuple", tyx_tup hx, kit_ty (by decide +kernel), true, rfl, ?_⟩
    refine ⟨_, rfl, a, _, rfl, .inr hx, _, _, rfl, rfl, true, bl_true (show (1 : Int) ≤ (xs.length : Int) by omega), ?_⟩
    refine ⟨_, _, rfl, rfl, true, bl_true (show (xs.length : Int) ≤ 24 by omega), ?_⟩
    refine ⟨_, rfl, a, xs, rfl, hx, for_enumT (K := K) (a := a) (xs := xs) (fun i σ H' => Same H H' ∧ ∃ y1 y2, σ = [some (.ref a), y1, y2]) ?_ ?_ ?_ ?_⟩
    · exact ⟨Same.refl _, none, none, rfl⟩
    · rintro i σ H' _ ⟨sm, _⟩
      exact same_seqT sm hx
    · rintro i x σ H' T hi ⟨sm, y1, y2, rfl⟩ nT
      obtain ⟨c, hci, tt, rfl, ht⟩ := paired_get hc hi
      have sT := same_new (o := .tup [.int (i : Nat), .ref tt]) nT
      have s2 := sm.trans sT
      refine ⟨T, _, rfl, SqT.of upd_same, rfl, _, _, rfl, _, _, rfl, rfl, ?_⟩
      refine ⟨_, rfl, tt, c, rfl, same_seqT s2 ht, gd.grid c (List.mem_of_getElem? hci), true, rfl, ?_⟩
      refine ⟨_, rfl, _, _, rfl, rfl, _, rfl, ite2 (fun e => ?_) (fun e => ?_)⟩
      · have e' : (0 : Int) < (i : Int) := of_decide_eq_true e
        obtain ⟨j, rfl⟩ : ∃ j, i = j + 1 := ⟨i - 1, by omega⟩
        have hj : j < xs.length := by
          have := (List.getElem?_eq_some_iff.mp hi).1
          omega
        obtain ⟨c0, hc0, t0, e0, ht0⟩ := paired_get hc (List.getElem?_eq_getElem hj)
        have gx : xs[j]? = some (.ref t0) := by rw [List.getElem?_eq_getElem hj, e0]
        have ej : ((j + 1 : Nat) : Int) - 1 = ((j : Nat) : Int) := by omega
        refine ⟨_, rfl, _, rfl, _, rfl, _, _, rfl, rfl, a, xs, _, .ref t0, rfl, rfl, same_seqT s2 hx, ?_, tt, t0, [c.1, c.2], [c0.1, c0.2], rfl, rfl, same_seqT s2 ht, same_seqT s2 ht0, false, ?_, ?_⟩
        · show atI xs (((j + 1 : Nat) : Int) - 1) = _
          rw [ej]
          exact atI_nat gx
        · rw [not_le2 (good_step gd.asc hc0 hci)]
        · exact ⟨s2, _, _, rfl⟩
      · exact ⟨s2, _, _, rfl⟩
    · rintro σ H' ⟨sm, _⟩
      exact q H' sm
end
end KS
namespace KS
open PySem PySem.Spec PyProof.Rows L2
section
variable {P : Program} {w : World} {K : PySem.W.Frag} {mg : Str → Option Value} {base : Heap}
end
end KS
namespace KS
open PySem PySem.Spec PyProof.Rows L2
abbrev nLines : List Str := ["plan", "kind", "side", "found", "index", "cell", "place"]
section
variable {P : Program} {w : World} {K : PySem.W.Frag} {mg : Str → Option Value} {base : Heap}
end
end KS
namespace KS
open PySem PySem.Spec PyProof.Rows L2 RZ
abbrev sFF : Stmt := topS 16
abbrev sCheckF : Stmt := topS 17
theorem scFF : FnScope ["values", "most", "index", "value"] ["values", "most"] (defScope sFF) := ⟨rfl, rfl, rfl, by decide +kernel, rfl, by decide +kernel, by decide +kernel⟩
theorem scCheckF : FnScope ["size", "filling", "index"] ["size", "filling"] (defScope sCheckF) := ⟨rfl, rfl, rfl, by decide +kernel, rfl, by decide +kernel, by decide +kernel⟩
abbrev nAlong : List Str := ["groups", "filling", "result", "line", "index", "values", "value"]
section
variable {P : Program} {w : World} {K : PySem.W.Frag} {mg : Str → Option Value} {base : Heap}
theorem ok_ff {f fI : Addr} {fd fdI : FuncData} (F : Fun K "first_fault" "first_fault" sFF f fd) (GI : FnOk P w K mg base CX0 2 fI fdI ["value", "least", "most"] spBetween) (bI : Binds K fdI ["value", "least", "most"] []) (gI : mg "is_between" = some (.ref fI)) (kI : PySem.W.keepIn K (.ref fI) = true)
    (me : mg "enumerate" = none) : FnOk P w K mg base CX0 3 f fd ["values", "most"] (spFF K) := by
  refine F.ok scFF (fun vs H Q E h => ?_) (fun cdv A outer s H vs Q E hr h => ?_)
  · obtain ⟨a, t, vs, rfl, _⟩ := h
    rfl
  · obtain ⟨a, m, vs, rfl, hx, vn, vb, q⟩ := h
    have nd := scFF.nd
    refine ⟨_, pss_cons (ps_for PassesOwn.never rfl (pi_enumT (by rfl) me (pa_cons (pv 0) pa_nil)) (pg_tup (by rfl) (pgs_cons (pg_name (i := 2) nd rfl (.inl rfl)) (pgs_cons (pg_name (i := 3) nd rfl (.inl rfl)) pgs_nil)))
        (pss_one (ps_if (PW.pt (pw_or (pt_not (pt_val (pe_call GI hr (by rfl) gI kI bI .nil pass0 (pa_cons (pv 3) (pa_cons pe_int (pa_cons (pv 1) pa_nil))))))
          (pw_or1 (pt_cmpR op_in_seq (pv 3) (pe_slice sl_tup (pv 0) po_none (po_some (pv 2))) (by rfl))))) (pss_one (ps_ret (pv 2))) pss_nil)))
      (pss_one (ps_ret pe_non)), ?_⟩
    refine ⟨_, rfl, a, _, rfl, hx, for_enumT (K := K) (a := a) (xs := vs.map V.int) (fun i σ H' => Same H H' ∧ ∃ y1 y2, σ = [some (.ref a), some (.int m), y1, y2]) ?_ ?_ ?_ ?_⟩
    · exact ⟨Same.refl _, none, none, rfl⟩
    · rintro i σ H' _ ⟨sm, _⟩
      exact same_seqT sm hx
    · rintro i x σ H' T hi ⟨sm, y1, y2, rfl⟩ nT
      have hil : i < (vs.map V.int).length := (List.getElem?_eq_some_iff.mp hi).1
      rw [List.getElem?_map] at hi
      cases ev : vs[i]? with
      | none =>
        rw [ev] at hi
        cases hi
      | some v =>
        rw [ev] at hi
        cases hi
        have sT := same_new (o := .tup [.int (i : Nat), .int v]) nT
        have s2 := sm.trans sT
        have bd := vb v (List.mem_of_getElem? ev)
        refine ⟨T, _, rfl, SqT.of upd_same, rfl, _, _, rfl, _, _, rfl, rfl, ?_⟩
        refine ⟨_, rfl, _, rfl, v, 1, m, rfl, bd.1, bd.2, true, rfl, ?_⟩
        refine ⟨_, rfl, _, rfl, _, rfl, _, rfl, a, _, rfl, same_seqT s2 hx, cut_not hil, fun S nS => ?_⟩
        have sS := same_new (o := .tup (cutV (vs.map V.int) none (some (i : Int)))) nS
        refine ⟨S, _, rfl, .inr (SqT.of upd_same), rfl, ?_, false, ?_, ?_⟩
        · rw [cut_take (by omega), ← List.map_take]
          exact flat_ints _
        · show V.bl (inV (.int v) (cutV (vs.map V.int) none (some (i : Int)))) = V.bl false
          rw [cut_take (by omega), ← List.map_take, inV_take vn ev]
        · exact ⟨s2.trans sS, _, _, rfl⟩
    · rintro σ H' ⟨sm, _⟩
      exact q H' sm
theorem ok_checkF {f fI : Addr} {fd fdI : FuncData} {tk : Tok} (F : Fun K "check_filling" "check_filling" sCheckF f fd) (GI : FnOk P w K mg base CX0 3 fI fdI ["values", "most"] (spFF K)) (bI : Binds K fdI ["values", "most"] []) (gI : mg "first_fault" = some (.ref fI)) (kI : PySem.W.keepIn K (.ref fI) = true)
    (mi : mg "isinstance" = none) (mT : mg "tuple" = none) (ml : mg "len" = none) (mM : mg "MOST_VALUE" = some (.int 9999 tk)) : FnOk P w K mg base CX0 4 f fd ["size", "filling"] (spCheckF K) := by
  refine F.ok scCheckF (fun vs H Q E h => ?_) (fun cdv A outer s H vs Q E hr h => ?_)
  · obtain ⟨a, t, vs, rfl, _⟩ := h
    rfl
  · obtain ⟨n, a, vs, rfl, hx, v9, hn, q⟩ := h
    have nd := scCheckF.nd
    refine ⟨_, pss_cons (ps_if (PW.pt (pw_or (pt_not (pt_val (pe_callB call_isi (by rfl) mi (by decide +kernel) (pa_cons (pv 1) (pa_cons (pe_bltn (v := .ty "tuple") (by rfl) mT (by decide +kernel) rfl) pa_nil)))))
          (pw_or1 (pt_cmpR op_ne (pe_callB call_len_seq (by rfl) ml PySem.boot_len (pa_cons (pv 1) pa_nil)) (pv 0) (nomark _)))))
        (pss_one ps_never) pss_nil)
      (pss_cons (ps_set (i := 2) nd rfl (.inl rfl) (pe_call GI hr (by rfl) gI kI bI .nil pass0 (pa_cons (pv 1) (pa_cons (pe_glob (v := .int 9999) (by rfl) mM ⟨_, rfl⟩) pa_nil))))
      (pss_one (ps_if (pt_cmpR op_notN (pv 2) pe_non (nomark _)) (pss_one ps_never) pss_nil))), ?_⟩
    have hlen : (vs.map V.int).length = n := by rw [List.length_map, v9.len]
    refine ⟨_, rfl, _, _, _, _, true, rfl, .ty "tuple", tyx_tup hx, kit_ty (by decide +kernel), true, rfl, ?_⟩
    refine ⟨_, rfl, a, _, rfl, .inr hx, _, rfl, rfl, false, ?_, ?_⟩
    · rw [hlen]
      simp
    refine ⟨_, rfl, a, 9999, vs, rfl, hx, v9.nd, v9.bd, fun H1 s1 => ?_⟩
    exact ⟨_, rfl, rfl, false, rfl, q H1 s1⟩
end
end KS
namespace KS
open PySem PySem.Spec PyProof.Rows L2 RZ TL
abbrev sFmtT : Stmt := topS 21
abbrev nFmtT : List Str := ["plan", "filling", "values", "height", "width", "rows", "cell", "value", "row", "column", "words"]
theorem scFmtT : FnScope nFmtT ["plan", "filling"] (defScope sFmtT) := ⟨rfl, rfl, rfl, by decide +kernel, rfl, by decide +kernel, by decide +kernel⟩
def strV (v : Int) : V := .str (nmS v)
section
variable {P : Program} {w : World} {K : PySem.W.Frag} {mg : Str → Option Value} {base : Heap}
theorem log4 {v : Int} (h1 : 1 ≤ v) (h2 : v ≤ 9999) : v.natAbs.log2 < 1920 := by
  obtain ⟨k, rfl⟩ := Int.eq_ofNat_of_zero_le (show 0 ≤ v by omega)
  have hk : k < 2 ^ 14 := by omega
  rw [Int.natAbs_natCast]
  exact Nat.lt_of_lt_of_le ((Nat.log2_lt (by omega)).mpr hk) (by decide)
theorem take_asc {zs : List (Cell × Int)} (h : Asc zs) {j : Nat} {z : Cell × Int} (e : zs[j]? = some z) : ∀ x ∈ zs.take j, x.1 ≠ z.1 := by
  intro x hx q
  have hl := (List.getElem?_eq_some_iff.mp e).1
  have t1 : zs.take (j + 1) = zs.take j ++ [z] := by
    rw [List.take_add_one, e]
    rfl
  have p : Asc (zs.take (j + 1)) := List.Pairwise.sublist (List.take_sublist _ _) h
  rw [t1] at p
  have := (List.pairwise_append.mp p).2.2 x hx z (List.mem_singleton.mpr rfl)
  rw [q] at this
  exact lt2_irr this
theorem wdAt_get (zs : List (Cell × Int)) (c : Cell) : ((atC zs c).map strV).getD (V.str ".") = V.str (wdAt zs c) := by
  unfold wdAt
  cases atC zs c <;> rfl
theorem ok_fmtT {f fC fF : Addr} {fd fdC fdF : FuncData} (F : Fun K "format_table" "format_table" sFmtT f fd) (GC : FnOk P w K mg base CX0 5 fC fdC ["plan"] (spCheck K)) (bC : Binds K fdC ["plan"] []) (gC : mg "check_plan" = some (.ref fC)) (kC : PySem.W.keepIn K (.ref fC) = true)
    (GF : FnOk P w K mg base CX0 4 fF fdF ["size", "filling"] (spCheckF K)) (bF : Binds K fdF ["size", "filling"] []) (gF : mg "check_filling" = some (.ref fF)) (kF : PySem.W.keepIn K (.ref fF) = true)
    (ml : mg "len" = none) (mz : mg "zip" = none) (mx : mg "max" = none) (mr : mg "range" = none) (mS : mg "str" = none) : FnOk P w K mg base CX0 6 f fd ["plan", "filling"] (spFmtT K) := by
  refine F.ok scFmtT (fun vs H Q E h => ?_) (fun cdv A outer s H vs Q E hr h => ?_)
  · obtain ⟨a, t, cs, vs, rfl, _⟩ := h
    rfl
  · obtain ⟨a, t, cs, vs, rfl, hp, gd, h24, ht, v9, q⟩ := h
    have nd := scFmtT.nd
    have hr4 : Room 4 _ := hr.mono (by decide)
    refine ⟨_, pss_cons (ps_expr (pe_call GC hr (by rfl) gC kC bC .nil pass0 (pa_cons (pv 0) pa_nil)))
      (pss_cons (ps_expr (pe_call GF hr4 (by rfl) gF kF bF .nil pass0 (pa_cons (pe_callB call_len_seq (by rfl) ml PySem.boot_len (pa_cons (pv 0) pa_nil)) (pa_cons (pv 1) pa_nil))))
      (pss_cons (ps_set (i := 2) nd rfl (.inr rfl) (pe_dcT (own := [("cell", 6), ("value", 7)]) (tt := tYes) (Nat.lt_of_le_of_lt (Nat.le_add_right _ _) hr.units) rfl nd (pi_zipA (by rfl) mz (pa_cons (pv 0) (pa_cons (pv 1) pa_nil))) (blkOk_by (N := nFmtT) (sc := defScope sFmtT) (by decide +kernel))
          (fun _ _ _ _ _ => pg_tupK (K := K) (n := 2) rfl (by rfl) (pgs_cons (pg_name (i := 6) nd rfl (Or.inl rfl)) (pgs_cons (pg_name (i := 7) nd rfl (Or.inl rfl)) pgs_nil))) (fun _ _ _ _ _ => pts_nil)
          (fun _ _ _ _ _ => pv 6) (fun _ _ _ _ _ => pe_callTy call_str_int (by rfl) mS (by decide +kernel) (pa_cons (pv 7) pa_nil))))
      (pss_cons (ps_set (i := 3) nd rfl (.inl rfl) (pe_op op_add (pe_callB (id := "max") (r := rMax K) (cr_maxK rfl rfl) (by rfl) mx (by decide +kernel) (pa_cons
          (pe_lc (own := [("row", 8), ("column", 9)]) (tt := tYes) rfl nd (pi_tup (pv 0)) (blkOk_by (N := nFmtT) (sc := defScope sFmtT) (by decide +kernel))
            (fun _ _ _ _ _ => pg_tupK (K := K) (n := 2) rfl (by rfl) (pgs_cons (pg_name (i := 8) nd rfl (Or.inl rfl)) (pgs_cons (pg_name (i := 9) nd rfl (Or.inl rfl)) pgs_nil))) (fun _ _ _ _ _ => pts_nil)
            (fun _ _ _ _ _ => pv 8)) pa_nil)) pe_int))
      (pss_cons (ps_set (i := 4) nd rfl (.inr rfl) (pe_op op_add (pe_callB (id := "max") (r := rMax K) (cr_maxK rfl rfl) (by rfl) mx (by decide +kernel) (pa_cons
          (pe_lc (own := [("row", 8), ("column", 9)]) (tt := tYes) rfl nd (pi_tup (pv 0)) (blkOk_by (N := nFmtT) (sc := defScope sFmtT) (by decide +kernel))
            (fun _ _ _ _ _ => pg_tupK (K := K) (n := 2) rfl (by rfl) (pgs_cons (pg_name (i := 8) nd rfl (Or.inl rfl)) (pgs_cons (pg_name (i := 9) nd rfl (Or.inl rfl)) pgs_nil))) (fun _ _ _ _ _ => pts_nil)
            (fun _ _ _ _ _ => pv 9)) pa_nil)) pe_int))
      (pss_cons (ps_setLc (i := 5) (own := [("row", 8)]) (g := gName 8) (tt := tYes) rfl nd rfl rfl (sw_true rfl rfl rfl (by decide +kernel)) (pi_range1 (by rfl) mr (pa_cons (pv 3) pa_nil)) (blkOk_by (N := nFmtT) (sc := defScope sFmtT) (by decide +kernel))
          (fun _ _ _ _ _ => pg_name (i := 8) nd rfl (Or.inr rfl)) (fun _ _ _ _ _ => pts_nil)
          (fun _ _ _ _ _ => pe_lc (own := [("column", 9)]) (g := gName 9) (tt := tYes) rfl nd (pi_range1 (by rfl) mr (pa_cons (pv 4) pa_nil))
            (blkOk_by (N := nFmtT) (sc := { kind := .function, names := [(".0", .local), ("row", .cell), ("range", .globalImplicit), ("values", .cell), ("width", .cell)], isGenerator := false, isCoroutine := false }) (by decide +kernel))
            (fun _ _ _ _ _ => pg_name (i := 9) nd rfl (Or.inl rfl)) (fun _ _ _ _ _ => pts_nil)
            (fun _ _ _ _ _ => pe_dget2 (Nat.lt_of_le_of_lt (Nat.add_le_add_left (by decide) _) hr.units) (pv 2) (pe_tup (pa_cons (pv 8) (pa_cons (pv 9) pa_nil))) pe_str ⟨rfl, rfl, rfl, rfl⟩)))
      (pss_one (ps_ret (pe_m1 PySem.F.slot_str_join PySem.F.type_str_join mt_join pe_str
        (pe_lc (own := [("words", 10)]) (g := gName 10) (tt := tYes) rfl nd (pi_list (pv 5)) (blkOk_by (N := nFmtT) (sc := defScope sFmtT) (by decide +kernel))
          (fun _ _ _ _ _ => pg_name (i := 10) nd rfl (Or.inl rfl)) (fun _ _ _ _ _ => pts_nil)
          (fun _ _ _ _ _ => pe_m1 (r := rJoinK K) PySem.F.slot_str_join PySem.F.type_str_join (mt_joinK rfl) pe_str (pv 10))))))))))), ?_⟩
    refine ⟨_, rfl, a, cs, rfl, hp.at, gd, h24, fun H1 s1 => ?_⟩
    have hp1 := hp.same s1
    have ht1 := same_seqT s1 ht
    obtain ⟨xs, hx, hc⟩ := hp1
    have hxl : xs.length = cs.length := Paired.length hc
    have hvl := v9.len
    refine ⟨_, rfl, a, _, rfl, .inr hx, _, rfl, cs.length, t, vs, by rw [hxl]; rfl, ht1, v9, h24, fun H2 s2 => ?_⟩
    have hx2 := same_seqT s2 hx
    have ht2 := same_seqT s2 ht1
    have hc2 := cellsT_kt (.of_same s2) hc
    have asc := asc_zip (vs := vs) gd.asc
    -- the dict
    refine ⟨_, rfl, _, rfl, a, t, xs, vs.map V.int, rfl, .inr ⟨hx2, ht2, fun D nD => ?_⟩⟩
    refine dcT_it (walk_zipT (K := K) (a := a) (b := t) (xs := xs) (ys := vs.map V.int) (n := cs.length) hxl (by rw [List.length_map, hvl])) (fun j G => ∃ kvs, G D = some (.dT kvs) ∧ DictT strV ((cs.zip vs).take j) kvs ∧ (∀ b o, b ≠ D → H2 b = some o → G b = some o)) ?_ ?_ ?_ ?_
    · exact ⟨[], upd_same, .nil, fun b o n e => by rw [upd_ne n]; exact e⟩
    · rintro j G _ ⟨kvs, a1, a2, a3⟩
      have sG : Same H2 G := fun b o e => a3 b o (ne_of_none e nD) e
      exact ⟨same_seqT sG hx2, same_seqT sG ht2⟩
    · rintro j x G G1 hj ⟨kvs, a1, a2, a3⟩ ⟨T, y, z, rfl, nT, rfl, ey, ez⟩
      have sG : Same H2 G := fun b o e => a3 b o (ne_of_none e nD) e
      have sT := same_new (o := .tup [y, z]) nT
      obtain ⟨c, ec, b, rfl, hb⟩ := paired_get hc2 ey
      have evj : vs[j]? = some vs[j] := List.getElem?_eq_getElem (by omega)
      have ez : (vs.map V.int)[j]? = some z := ez
      rw [List.getElem?_map, evj] at ez
      cases ez
      have ezip : (cs.zip vs)[j]? = some (c, vs[j]) := by
        rw [List.getElem?_zip_eq_some]
        exact ⟨ec, evj⟩
      have bd := v9.bd vs[j] (List.mem_of_getElem? evj)
      refine ⟨T, _, rfl, SqT.of upd_same, rfl, _, _, rfl, _, _, rfl, rfl, rfl, ?_⟩
      refine ⟨_, rfl, _, rfl, vs[j], rfl, ?_, kvs, keyC c, b, rfl, sT _ _ (sG _ _ hb), sT _ _ a1, ?_, _, upd_same, ?_, fun b' o n e => ?_⟩
      · exact log4 bd.1 bd.2
      · have := a2.1
        rw [List.length_take] at this
        exact small64 (by omega)
      · have e := a2.put (c := c) (v := vs[j]) (take_asc asc ezip)
        rw [List.take_add_one, ezip]
        exact e
      · rw [upd_ne n]
        exact sT _ _ (a3 b' o n e)
    rintro G ⟨kvs, a1, a2, a3⟩
    have sG : Same H2 G := fun b o e => a3 b o (ne_of_none e nD) e
    have zl : (cs.zip vs).length = cs.length := by rw [List.length_zip, hvl, Nat.min_self]
    rw [← zl, List.take_length] at a2
    -- the largest row
    refine ⟨_, rfl, a, rfl, ⟨_, same_seqT sG hx2⟩, fun D1 nD1 => ?_⟩
    refine lc_tup (K := K) (a := a) (xs := xs) (fun j G' => G' D1 = some (.lst (((cs.take j).map (·.1)).map V.int)) ∧ (∀ b o, b ≠ D1 → G b = some o → G' b = some o)) ?_ ?_ ?_ ?_
    · exact ⟨upd_same, fun b o n e => by rw [upd_ne n]; exact e⟩
    · rintro j G' _ ⟨b1, b2⟩
      exact same_seqT (fun b o e => b2 b o (ne_of_none e nD1) e) (same_seqT sG hx2)
    · rintro j x G' hj ⟨b1, b2⟩
      have sG' : Same G G' := fun b o e => b2 b o (ne_of_none e nD1) e
      obtain ⟨c, ec, b, rfl, hb⟩ := paired_get hc2 hj
      have jl := (List.getElem?_eq_some_iff.mp ec).1
      refine ⟨b, _, rfl, SqT.of ((sG.trans sG') _ _ hb), rfl, _, _, rfl, _, _, rfl, rfl, rfl, ?_⟩
      refine ⟨_, rfl, _, b1, ?_, ?_, fun b o n e => ?_⟩
      · rw [List.length_map, List.length_map, List.length_take]
        exact small64 (by omega)
      · rw [upd_same, List.take_add_one, ec, List.map_append, List.map_append]
        rfl
      · rw [upd_ne n]
        exact b2 b o n e
    rintro G1 ⟨b11, b21⟩
    have sG1 : Same G G1 := fun b o e => b21 b o (ne_of_none e nD1) e
    rw [hxl, List.take_length] at b11
    refine ⟨D1, cs.map (·.1), rfl, SqL.of b11, ?_, fun m1 hm hle => ?_⟩
    · rw [List.length_map]
      exact List.length_pos_iff.mpr gd.ne
    have m01 : 0 ≤ m1 := by
      obtain ⟨c, hc', rfl⟩ := List.mem_map.mp hm
      have := gd.grid c hc'
      unfold InGrid at this
      show 0 ≤ c.1
      omega
    have em1 : m1 + 1 = ((hiN cs : Nat) : Int) := by
      have := topI_is hm m01 hle
      unfold hiN
      rw [this]
      omega
    refine ⟨_, _, rfl, rfl, ?_⟩
    dsimp only []
    rw [em1]
    have sA := sG.trans sG1
    -- the largest column
    refine ⟨_, rfl, a, rfl, ⟨_, same_seqT sA hx2⟩, fun D2 nD2 => ?_⟩
    refine lc_tup (K := K) (a := a) (xs := xs) (fun j G' => G' D2 = some (.lst (((cs.take j).map (·.2)).map V.int)) ∧ (∀ b o, b ≠ D2 → G1 b = some o → G' b = some o)) ?_ ?_ ?_ ?_
    · exact ⟨upd_same, fun b o n e => by rw [upd_ne n]; exact e⟩
    · rintro j G' _ ⟨b1, b2⟩
      exact same_seqT (fun b o e => b2 b o (ne_of_none e nD2) e) (same_seqT sA hx2)
    · rintro j x G' hj ⟨b1, b2⟩
      have sG' : Same G1 G' := fun b o e => b2 b o (ne_of_none e nD2) e
      obtain ⟨c, ec, b, rfl, hb⟩ := paired_get hc2 hj
      have jl := (List.getElem?_eq_some_iff.mp ec).1
      refine ⟨b, _, rfl, SqT.of ((sA.trans sG') _ _ hb), rfl, _, _, rfl, _, _, rfl, rfl, rfl, ?_⟩
      refine ⟨_, rfl, _, b1, ?_, ?_, fun b o n e => ?_⟩
      · rw [List.length_map, List.length_map, List.length_take]
        exact small64 (by omega)
      · rw [upd_same, List.take_add_one, ec, List.map_append, List.map_append]
        rfl
      · rw [upd_ne n]
        exact b2 b o n e
    rintro G2 ⟨b12, b22⟩
    have sG2 : Same G1 G2 := fun b o e => b22 b o (ne_of_none e nD2) e
    rw [hxl, List.take_length] at b12
    refine ⟨D2, cs.map (·.2), rfl, SqL.of b12, ?_, fun m2 hm hle => ?_⟩
    · rw [List.length_map]
      exact List.length_pos_iff.mpr gd.ne
    have m02 : 0 ≤ m2 := by
      obtain ⟨c, hc', rfl⟩ := List.mem_map.mp hm
      have := gd.grid c hc'
      unfold InGrid at this
      show 0 ≤ c.2
      omega
    have em2 : m2 + 1 = ((wiN cs : Nat) : Int) := by
      have := topI_is hm m02 hle
      unfold wiN
      rw [this]
      omega
    refine ⟨_, _, rfl, rfl, ?_⟩
    dsimp only []
    rw [em2]
    have sB := sA.trans sG2
    have hw := wiN_le gd
    have hh := hiN_le gd
    have aD := sG2 _ _ (sG1 _ _ a1)
    clear b11 b12 b21 b22
    -- the rows
    refine ⟨_, rfl, ((hiN cs : Nat) : Int), rfl, by omega, by omega, fun DR nR => ?_⟩
    refine lc_range (lo := 0) (n := hiN cs) (fun j J => ∃ gs : List V, J DR = some (.lst gs) ∧ Paired (fun x ws => ∃ t', x = .ref t' ∧ J t' = some (.lst (ws.map V.str)) ∧ t' ≠ DR) gs ((List.range j).map (rowW cs vs)) ∧ (∀ b o, b ≠ DR → G2 b = some o → J b = some o)) ?_ ?_ ?_
    · exact ⟨[], upd_same, .nil, fun b o n e => by rw [upd_ne n]; exact e⟩
    · rintro j J hj ⟨gs, c1, c2, c3⟩
      have sJ : Same G2 J := fun b o e => c3 b o (ne_of_none e nR) e
      refine ⟨rfl, _, rfl, ((wiN cs : Nat) : Int), rfl, by omega, by omega, fun D3 nD3 => ?_⟩
      refine lc_range (lo := 0) (n := wiN cs) (fun k J3 => J3 D3 = some (.lst (((List.range k).map fun z => wdAt (cs.zip vs) ((j : Int), ((z : Nat) : Int))).map V.str)) ∧ (∀ b o, b ≠ D3 → J b = some o → J3 b = some o)) ?_ ?_ ?_
      · exact ⟨upd_same, fun b o n e => by rw [upd_ne n]; exact e⟩
      · rintro k J3 hk ⟨d1, d2⟩
        have sJ3 : Same J J3 := fun b o e => d2 b o (ne_of_none e nD3) e
        have dD := sJ3 _ _ (sJ _ _ aD)
        refine ⟨rfl, _, rfl, D, rfl, .inr ⟨kvs, .inl dD⟩, _, rfl, _, rfl, by show 2 ≤ sizeLine; decide, fun T nT => ?_⟩
        have sT := same_new (o := .tup [.int (0 + (j : Int)), .int (0 + (k : Int))]) nT
        refine ⟨_, DGet.t (k := keyC ((j : Int), (k : Int))) (sT _ _ dD) (by
          rw [upd_same, Int.zero_add, Int.zero_add]
          rfl), ?_⟩
        rw [a2.2, wdAt_get]
        refine ⟨_, sT _ _ d1, ?_, ?_, fun b o n e => ?_⟩
        · rw [List.length_map, List.length_map, List.length_range]
          exact small64 (by omega)
        · rw [upd_same, List.range_succ, List.map_append, List.map_append]
          rfl
        · rw [upd_ne n]
          exact sT _ _ (d2 b o n e)
      · rintro J3 ⟨d1, d2⟩
        have sJ3 : Same J J3 := fun b o e => d2 b o (ne_of_none e nD3) e
        have n3 : D3 ≠ DR := Ne.symm (ne_of_none c1 nD3)
        have hgl := Paired.length c2
        rw [List.length_map, List.length_range] at hgl
        refine ⟨gs, sJ3 _ _ c1, small64 (by omega), gs ++ [.ref D3], upd_same, ?_, fun b o n e => ?_⟩
        · rw [List.range_succ, List.map_append]
          refine paired_append (Paired.mono (fun x ws ⟨t', e1, e2, e3⟩ => ⟨t', e1, ?_, e3⟩) c2) (.cons ⟨D3, rfl, ?_, n3⟩ .nil)
          · rw [upd_ne n3]
            exact d1
          · rw [upd_ne e3]
            exact sJ3 _ _ e2
        · rw [upd_ne n]
          exact sJ3 _ _ (c3 b o n e)
    rintro J ⟨gs, c1, c2, c3⟩
    have sJ : Same G2 J := fun b o e => c3 b o (ne_of_none e nR) e
    have c2 : Paired (fun x ws => ∃ t', x = .ref t' ∧ J t' = some (.lst (ws.map V.str)) ∧ t' ≠ DR) gs ((List.range (hiN cs)).map (rowW cs vs)) := c2
    have hgl := Paired.length c2
    rw [List.length_map, List.length_range] at hgl
    -- joined
    refine ⟨⟨_, rfl⟩, _, rfl, DR, rfl, ⟨_, SqL.of c1⟩, fun D4 nD4 => ?_⟩
    refine lc_list (K := K) (a := DR) (xs := gs) (fun j J4 => J4 D4 = some (.lst ((((List.range (hiN cs)).take j).map fun r => jn (rowW cs vs r)).map V.str)) ∧ (∀ b o, b ≠ D4 → J b = some o → J4 b = some o)) ?_ ?_ ?_ ?_
    · exact ⟨upd_same, fun b o n e => by rw [upd_ne n]; exact e⟩
    · rintro j J4 _ ⟨d1, d2⟩
      exact SqL.of (d2 _ _ (ne_of_none c1 nD4) c1)
    · rintro j x J4 hj ⟨d1, d2⟩
      have sJ4 : Same J J4 := fun b o e => d2 b o (ne_of_none e nD4) e
      obtain ⟨ws, ew, t', rfl, ht', _⟩ := paired_get c2 hj
      rw [List.getElem?_map] at ew
      cases er : (List.range (hiN cs))[j]? with
      | none =>
        rw [er] at ew
        cases ew
      | some r =>
        rw [er] at ew
        cases ew
        have jl := (List.getElem?_eq_some_iff.mp er).1
        rw [List.length_range] at jl
        have wt := row_wt gd v9 r
        refine ⟨rfl, ⟨_, rfl⟩, _, rfl, _, t', rowW cs vs r, rfl, rfl, .inl (SqL.of (sJ4 _ _ ht')), ?_, ?_⟩
        · have e6 : (" " : Str).length = 1 := by decide +kernel
          rw [e6]
          rw [Nat.mul_one]
          exact Nat.le_trans wt (by decide)
        · refine ⟨_, d1, ?_, ?_, fun b o n e => ?_⟩
          · rw [List.length_map, List.length_map, List.length_take, List.length_range]
            exact small64 (by omega)
          · rw [upd_same, List.take_add_one, er, List.map_append, List.map_append]
            rfl
          · rw [upd_ne n]
            exact d2 b o n e
    · rintro J4 ⟨d1, d2⟩
      have sJ4 : Same J J4 := fun b o e => d2 b o (ne_of_none e nD4) e
      have et : (List.range (hiN cs)).take gs.length = List.range (hiN cs) := List.take_of_length_le (by rw [List.length_range]; omega)
      rw [et] at d1
      refine ⟨_, D4, pgR cs vs, rfl, rfl, .inl (SqL.of d1), ?_, ?_⟩
      · have e6 : ("\n" : Str).length = 1 := by decide +kernel
        rw [e6, Nat.mul_one]
        have w1 : wtS (pgR cs vs) ≤ 41 * hiN cs := pg_wt gd v9 (hiN cs)
        exact Nat.le_trans w1 (by omega)
      · exact q _ ((((s1.trans s2).trans sB).trans sJ).trans sJ4)
end
end KS
namespace KS
open PySem PySem.Spec PyProof.Rows L2
/-! ### enumerate(z), z a text -/
def IteS (z : Str) : It where
  go := fun i _ => i < z.cps.size
  yld := fun i H v H' => ∃ (T : Addr) (c : Nat), v = .ref T ∧ H T = none ∧ z.cps[i]? = some c ∧ H' = upd H T (.tup [.int (i : Nat), .str ⟨#[c]⟩])
  stop := fun i _ => i = z.cps.size
def EnS (z : Str) (t : Tok) (e it : Addr) (i : Nat) (h : Heap) : Prop := (∃ old, IsEnum h e it ((i : Nat) : Int) old) ∧ h.IsStrIter it (strIterType z) z t i ∧ e ≠ it
theorem mem2 {b e it : Addr} (h : b ∈ [e, it]) : b = e ∨ b = it := by simpa using h
theorem strIter_at {h h' : Heap} {a : Addr} {ty : String} {x : Str} {t : Tok} {i : Nat} (y : h.IsStrIter a ty x t i) (k : ∀ o, h.get? a = some o → h'.get? a = some o) : h'.IsStrIter a ty x t i := by
  obtain ⟨o, ho, r⟩ := y
  exact ⟨o, k o ho, r⟩
theorem ens_obj {z : Str} {t : Tok} {e it b : Addr} {i : Nat} {h : Heap} (st : EnS z t e it i h) (hb : b ∈ [e, it]) : ∃ o, h.get? b = some o ∧ ∀ v, o.data ≠ .cell v := by
  obtain ⟨⟨old, q1⟩, ⟨o, q2, _, d⟩, _⟩ := st
  rcases mem2 hb with r | r <;> subst r
  · exact ⟨_, q1, fun v w => nomatch w⟩
  · exact ⟨o, q2, fun v w => by rw [d] at w; cases w⟩
theorem turn_enumS {P : Program} {w : World} {K : PySem.W.Frag} {elts : List Expr} {kk : Nat} {tpos : Pos} (z : Str) (t : Tok) (e it : Addr) : Turn P w K (.Tuple elts kk tpos) (IteS z) [e, it] e (EnS z t e it) where
  mem := List.mem_cons_self
  obj := fun i h st b hb => ens_obj st hb
  keep := fun i h h' st k => ⟨st.1.elim fun old q => ⟨old, k e (by simp) _ q⟩, strIter_at st.2.1 fun o q => k it (by simp) o q, st.2.2⟩
  self := fun A i s Q E st h => st.1.elim fun old q => wpAny_pyIter_enum q h
  item := by
    intro X hP hw hK hc i pins s σ H E I hf st hg
    subst hP hw hK
    have st0 := st
    obtain ⟨⟨old, q1⟩, q2, ne⟩ := st
    have hh : X.A.in1.handled = none := I.ok.hd hc
    have el : e < s.heap.objs.size := Heap.lt_size q1
    refine wpAny_pyNext_enum_itemD (Draws.text hh it z t) q1 q2 hg ne (by simp [ne]) fun u h1 tk hu ho hst hT sz kp => ?_
    obtain ⟨c, tu, hcx, rfl⟩ := hu
    refine ⟨_, rfl, wpAny_letOwnedTupleGo_enum (s := { s with heap := h1, toks := tk + 1 }) ho fun h2 e2 sb => ?_⟩
    have hT2 : h2.get? s.heap.objs.size = some { cls := .type "tuple", data := .seq #[.int i tk, .str ⟨#[c]⟩ tu] } := (sb.2 _ (Nat.ne_of_gt el)).trans hT
    have nw : ObjOk X.prog X.w (upd H s.heap.objs.size (.tup [.int (i : Nat), .str ⟨#[c]⟩])) h2 s.heap.objs.size (.tup [.int (i : Nat), .str ⟨#[c]⟩]) :=
      ⟨by show 2 ≤ sizeLine; decide, [.int i tk, .str ⟨#[c]⟩ tu], .cons ⟨_, rfl⟩ (.cons ⟨_, rfl⟩ .nil), ⟨_, hT2, rfl, _, rfl⟩⟩
    have I1 : Inv X pins σ (upd H s.heap.objs.size (.tup [.int (i : Nat), .str ⟨#[c]⟩])) { s with heap := h2, toks := tk + 1 } := by
      refine I.turnedNew (ch := [e, it]) (fun b o n q => ?_) hf (Nat.le_refl _) nw
      have n1 : b ≠ e := fun r => n (by simp [r])
      have n2 : b ≠ it := fun r => n (by simp [r])
      exact (sb.2 b n1).trans (kp b o n1 n2 q)
    refine ⟨.ref s.heap.objs.size, _, I1, rfl, ⟨_, c, rfl, I.hok.fresh (Nat.le_refl _), hcx, rfl⟩, ⟨⟨.str ⟨#[c]⟩ tu, ?_⟩, strIter_at hst fun o q => (sb.2 it (Ne.symm ne)).trans q, ne⟩, fun b hb => ?_⟩
    · have r : ((i + 1 : Nat) : Int) = (i : Int) + 1 := by omega
      rw [r]
      exact e2
    · obtain ⟨o, ho, _⟩ := ens_obj st0 hb
      rw [upd_ne (Nat.ne_of_lt (Heap.lt_size ho))]
      exact (hf b hb).1
  done := by
    intro X hP hw hK hc i pins s σ H E I hf st hg
    subst hP hw hK
    obtain ⟨⟨old, q1⟩, q2, ne⟩ := st
    have hh : X.A.in1.handled = none := I.ok.hd hc
    have hg' : i = z.cps.size := hg
    subst hg'
    obtain ⟨f0, f1, f2, f3, f4, f5⟩ := hf it (by simp)
    exact wpAny_pyNext_enum_endD (Draws.text hh it z t) q1 q2 fun h1 eb => ⟨rfl, I.turned (t' := s.toks) (fun b o hb q => eb b o hb q) f0 f1 f3 f4 f5⟩
def iEnumS (ta : TA) : TI := fun σ H R => ta σ H fun vs H1 => ∃ z, vs = [.str z] ∧ R (IteS z) H1
theorem pi_enumS {X : Cx} {e : Expr} {ta : TA} {p pos tpos : Pos} {elts : List Expr} {kk : Nat} (hg : Gl X "enumerate") (hm : X.mg "enumerate" = none) (ha : PA X [e] ta)
    (hs : starEach [e] X.env = [(false, eval e X.env)] := by rfl) : PI X (.Tuple elts kk tpos) (.Call (.Name "enumerate" p) [e] [] pos) (iEnumS ta) := by
  refine ⟨fun pins s σ H R I h => Call_ (ld_blt I hg hm boot_enumerate (PyProof.Rows.callWith_type1 (thn (ha.run pos pins s σ H _ I h) fun us s1 hh => ?_) hs rfl))⟩
  obtain ⟨vs, H1, I1, r1, z, ex, q⟩ := hh
  subst ex
  cases r1 with
  | cons r rr =>
    cases rr
    obtain ⟨t, rfl⟩ := r
    refine call_enumerate_str fun h1 he hit sz kp => wpAny_pyIter_enum he ?_
    have I2 : Inv X pins σ H1 { s1 with heap := h1 } := I1.kept (t' := s1.toks) kp
    refine ⟨s1.heap.objs.size + 1, [s1.heap.objs.size + 1, s1.heap.objs.size], _, _, H1, rfl, I2, turn_enumS z t (s1.heap.objs.size + 1) s1.heap.objs.size, ⟨⟨.none, he⟩, hit, Nat.succ_ne_self _⟩, fun b hb => ?_, q⟩
    have le : s1.heap.objs.size ≤ b := by
      rcases mem2 hb with r | r <;> rw [r]
      · exact Nat.le_succ _
      · exact Nat.le_refl _
    exact I1.fpOk le (I1.hok.fresh le)
theorem for_enumS {z : Str} {g : TG} {tb : TS} {D : Ends} {σ : L2.St} {H : Hp} (Pv : Nat → L2.St → Hp → Prop) (h0 : Pv 0 σ H)
    (hs : ∀ i c σ G T, z.cps[i]? = some c → Pv i σ G → G T = none → g (.ref T) σ (upd G T (.tup [.int (i : Nat), .str ⟨#[c]⟩])) fun σ2 G2 => tb { D with nx := Pv (i + 1), ct := Pv (i + 1), bk := D.nx } σ2 G2)
    (hd : ∀ σ G, Pv z.cps.size σ G → D.nx σ G) :
    ∃ W : Nat → Nat → L2.St → Hp → Prop, (∃ m, W 0 m σ H) ∧ ∀ i m σ H, W i m σ H → ((IteS z).stop i H ∧ D.nx σ H) ∨ ((IteS z).go i H ∧ ∃ N : L2.St → Hp → Prop, (∀ σ' H', N σ' H' → ∃ m', m' < m ∧ W (i + 1) m' σ' H') ∧
      ∀ v H', (IteS z).yld i H v H' → g v σ H' fun σ2 H2 => tb { D with nx := N, ct := N, bk := D.nx } σ2 H2) := by
  refine ⟨fun i m σ G => m + i = z.cps.size ∧ Pv i σ G, ⟨_, rfl, h0⟩, fun i m σ G hw => ?_⟩
  obtain ⟨hm, p⟩ := hw
  cases m with
  | zero =>
    have e : i = z.cps.size := by omega
    subst e
    exact .inl ⟨rfl, hd σ G p⟩
  | succ m =>
    refine .inr ⟨by show i < z.cps.size; omega, Pv (i + 1), fun σ' G' p' => ⟨m, Nat.lt_succ_self _, by omega, p'⟩, fun v G' y => ?_⟩
    obtain ⟨T, c, rfl, nT, hc, rfl⟩ := y
    exact hs i c σ G T hc p nT
end KS
namespace KS
open PySem PySem.Spec PyProof.Rows L2 RZ
def spCheckL : Sp := fun vs H Q _ => ∃ wd : List Bool, vs = [.str (wS wd), .str "RC"] ∧ wd.length ≤ 400 ∧ ∀ H', Same H H' → Q .non H'
def spCheckW : Sp := fun vs H Q _ => ∃ wd : List Bool, vs = [.str (wS wd)] ∧ wd.length ≤ 400 ∧ ∀ H', Same H H' → Q .non H'
section
variable {P : Program} {w : World} {K : PySem.W.Frag} {mg : Str → Option Value} {base : Heap}
end
end KS
namespace KS
open PySem PySem.Spec PyProof.Rows L2 RZ
theorem ten30 : (10 : Int) ^ 30 = 1000000000000000000000000000000 := by decide +kernel
abbrev nCS : List Str := ["step", "depth", "room", "count", "inner", "more"]
abbrev nCP : List Str := ["program", "room", "index", "step", "count"]
section
variable {P : Program} {w : World} {K : PySem.W.Frag} {mg : Str → Option Value} {base : Heap}
end
end KS
namespace KS
open PySem PySem.Spec PyProof.Rows L2 RZ TL
theorem log30 {n : Int} (h1 : 0 ≤ n) (h2 : n ≤ 10 ^ 30) : n.natAbs.log2 < 1920 := by
  obtain ⟨k, rfl⟩ := Int.eq_ofNat_of_zero_le h1
  have hk : k ≤ 10 ^ 30 := by exact_mod_cast h2
  rw [Int.natAbs_natCast]
  by_cases h0 : k = 0
  · subst h0
    decide
  · refine Nat.lt_of_lt_of_le ((Nat.log2_lt h0).mpr (?_ : k < 2 ^ 100)) (by decide)
    have : (10 : Nat) ^ 30 < 2 ^ 100 := by decide +kernel
    omega
/-! ### the promises -/
def spRdN : Sp := fun xs H Q _ => ∃ (t : Str) (d : Int), xs = [.str t, .int d] ∧ ((∃ n : Int, 0 ≤ n ∧ t = nmS n ∧ n.natAbs.log2 < 1920 ∧ (t.length : Int) ≤ d ∧ t.length ≤ 640 ∧ Q (.int n) H) ∨ (t = "." ∧ 1 ≤ d ∧ Q .non H))
def spWrS (K : PySem.W.Frag) (m : Nat) : Sp := fun xs H Q _ => ∃ (v : V) (s : Stp), xs = [v] ∧ StA K H v s ∧ s.ok ∧ s.nest ≤ m ∧ s.steps ≤ 60 ∧ ∀ H', Same H H' → Q (.str (jn (tkS s.tks))) H'
def spRdP (K : PySem.W.Frag) : Sp := fun xs H Q _ => ∃ (a : Addr) (ss : List Stp), xs = [.ref a] ∧ SqL K H a ((tkS (tksL ss)).map V.str) ∧ okL ss ∧ stepsL ss ≤ 60 ∧ ∀ H' t, Same H H' → PgA K H' t ss → Q (.ref t) H'
def spIsProgG (K : PySem.W.Frag) : Sp := fun xs H Q _ => ∃ (t : Addr) (ss : List Stp), xs = [.ref t] ∧ PgA K H t ss ∧ okL ss ∧ nestL ss ≤ 4 ∧ stepsL ss ≤ 60 ∧ ∀ H', Same H H' → Q (.bl true) H'
def spFmtP (K : PySem.W.Frag) : Sp := fun xs H Q _ => ∃ (t : Addr) (ss : List Stp), xs = [.ref t] ∧ PgA K H t ss ∧ okL ss ∧ nestL ss ≤ 4 ∧ stepsL ss ≤ 60 ∧ ∀ H', Same H H' → Q (.str (jn (tkS (tksL ss)))) H'
def spParP (K : PySem.W.Frag) : Sp := fun xs H Q _ => ∃ (ss : List Stp), xs = [.str (jn (tkS (tksL ss)))] ∧ okL ss ∧ nestL ss ≤ 4 ∧ stepsL ss ≤ 60 ∧ ∀ H' t, Same H H' → PgA K H' t ss → Q (.ref t) H'
/-! ### the open levels -/
inductive Lvs (K : PySem.W.Frag) (G : Hp) : List Addr → List (List Stp) → Prop
  | nil : Lvs K G [] []
  | cons {r : Addr} {rs : List Addr} {s : List Stp} {stk : List (List Stp)} {vs : List V} : G r = some (.lst vs) → StsA K G vs s → Lvs K G rs stk → Lvs K G (r :: rs) (s :: stk)
theorem Lvs.keep {K : PySem.W.Frag} {G G' : Hp} (kt : KT K G G') : ∀ {rs : List Addr} {stk : List (List Stp)}, Lvs K G rs stk → (∀ r ∈ rs, ∀ o, G r = some o → G' r = some o) → Lvs K G' rs stk
  | _, _, .nil, _ => .nil
  | _, _, .cons h1 h2 h3, k => .cons (k _ (List.mem_cons_self ..) _ h1) (h2.kt kt) (Lvs.keep kt h3 fun r hr => k r (List.mem_cons_of_mem _ hr))
theorem Lvs.len {K : PySem.W.Frag} {G : Hp} : ∀ {rs : List Addr} {stk : List (List Stp)}, Lvs K G rs stk → rs.length = stk.length
  | _, _, .nil => rfl
  | _, _, .cons _ _ h => congrArg (· + 1) (Lvs.len h)
structure Lev (K : PySem.W.Frag) (H G : Hp) (L : Addr) (rs : List Addr) (stk : List (List Stp)) (n : Nat) : Prop where
  top : G L = some (.lst (rs.reverse.map V.ref))
  nd : (L :: rs).Nodup
  newL : H L = none
  new : ∀ r ∈ rs, H r = none
  lvs : Lvs K G rs stk
  sm : Same H G
  lenS : stk.length ≤ n + 1
  lenE : ∀ s ∈ stk, s.length ≤ n
theorem rev_last {r : Addr} {rs : List Addr} : atI ((r :: rs).reverse.map V.ref) (-1) = some (V.ref r) := by
  have e : (r :: rs).reverse.map V.ref = rs.reverse.map V.ref ++ [V.ref r] := by
    rw [List.reverse_cons, List.map_append]
    rfl
  rw [e]
  have hl : (rs.reverse.map V.ref ++ [V.ref r]).length = (rs.reverse.map V.ref).length + 1 := by rw [List.length_append]; rfl
  unfold atI
  have e : ixN (rs.reverse.map V.ref ++ [V.ref r]).length (-1) = some (rs.reverse.map V.ref).length := by
    unfold ixN
    rw [if_neg (by decide), hl]
    rw [if_pos (by omega)]
    congr 1
    omega
  rw [e]
  show (rs.reverse.map V.ref ++ [V.ref r])[(rs.reverse.map V.ref).length]? = some (V.ref r)
  rw [List.getElem?_append_right (Nat.le_refl _), Nat.sub_self]
  rfl
/-- a value laid on the top level -/
theorem Lev.put {K : PySem.W.Frag} {H G : Hp} {L r : Addr} {rs : List Addr} {s : List Stp} {stk : List (List Stp)} {n : Nat} (h : Lev K H G L (r :: rs) (s :: stk) n) {vs : List V} (hr : G r = some (.lst vs)) (hv : StsA K G vs s) {v : V} {x : Stp} (hx : StA K G v x) :
    Lev K H (upd G r (.lst (vs ++ [v]))) L (r :: rs) ((s ++ [x]) :: stk) (n + 1) := by
  have nd := List.nodup_cons.mp h.nd
  have nd2 := List.nodup_cons.mp nd.2
  have Lr : L ≠ r := fun e => nd.1 (by rw [e]; exact List.mem_cons_self ..)
  have kt : KT K G (upd G r (.lst (vs ++ [v]))) := KT.upd hr
  cases h.lvs with
  | cons q1 q2 q3 =>
    refine ⟨by rw [upd_ne Lr]; exact h.top, h.nd, h.newL, h.new, ?_, ?_, ?_, ?_⟩
    · refine .cons upd_same ((hv.app (.cons hx .nil)).kt kt) (Lvs.keep kt q3 fun b hb o e => ?_)
      rw [upd_ne (fun z => nd2.1 (by rw [← z]; exact hb))]
      exact e
    · intro b o e
      rw [upd_ne (ne_of_none e (h.new r (List.mem_cons_self ..)))]
      exact h.sm b o e
    · have := h.lenS
      rw [List.length_cons] at this ⊢
      omega
    · intro z hz
      rcases List.mem_cons.mp hz with rfl | hz
      · have := h.lenE s (List.mem_cons_self ..)
        rw [List.length_append]
        show s.length + 1 ≤ n + 1
        omega
      · have := h.lenE z (List.mem_cons_of_mem _ hz)
        omega
theorem Lev.same {K : PySem.W.Frag} {H G G' : Hp} {L : Addr} {rs : List Addr} {stk : List (List Stp)} {n : Nat} (h : Lev K H G L rs stk n) (s : Same G G') : Lev K H G' L rs stk n :=
  ⟨s _ _ h.top, h.nd, h.newL, h.new, Lvs.keep (.of_same s) h.lvs fun _ _ _ e => s _ _ e, h.sm.trans s, h.lenS, h.lenE⟩
abbrev sRdN : Stmt := topS 20
abbrev nRdN : List Str := ["text", "digits", "number"]
theorem scRdN : FnScope nRdN ["text", "digits"] (defScope sRdN) := ⟨rfl, rfl, rfl, by decide +kernel, rfl, by decide +kernel, by decide +kernel⟩
abbrev nWrS : List Str := ["step", "inner"]
abbrev nRdP : List Str := ["words", "levels", "word", "inner"]
abbrev nFmtP : List Str := ["program", "step"]
abbrev nParP : List Str := ["text", "program"]
section
variable {P : Program} {w : World} {K : PySem.W.Frag} {mg : Str → Option Value} {base : Heap}
theorem ok_readN {f : Addr} {fd : FuncData} (F : Fun K "read_number" "read_number" sRdN f fd) (ml : mg "len" = none) (mi : mg "int" = none) (mS : mg "str" = none) : FnOk P w K mg base CX0 1 f fd ["text", "digits"] spRdN := by
  refine F.ok scRdN (fun vs H Q E h => ?_) (fun cdv A outer s H vs Q E hr h => ?_)
  · obtain ⟨t, d, rfl, _⟩ := h
    rfl
  · obtain ⟨t, d, rfl, h⟩ := h
    have nd := scRdN.nd
    refine ⟨_, pss_cons (ps_if (PW.pt (pw_or (pt_cmpR op_gt (pe_callB call_len_str (by rfl) ml PySem.boot_len (pa_cons (pv 0) pa_nil)) (pv 1) (nomark _)) (pw_or1 (pt_not (pt_val (pe_m0 PySem.F.slot_str_isdecimal PySem.F.type_str_isdecimal mt_isdecimal (pv 0))))))) (pss_one (ps_ret pe_non)) pss_nil)
      (pss_cons (ps_set (i := 2) nd rfl (.inl rfl) (pe_callTy call_int_str (by rfl) mi (by decide +kernel) (pa_cons (pv 0) pa_nil)))
      (pss_one (ps_ret (pe_ifExp (pt_cmpR op_eq (pe_callTy call_str_int (by rfl) mS (by decide +kernel) (pa_cons (pv 2) pa_nil)) (pv 0) (nomark _)) (pv 2) pe_non)))), ?_⟩
    rcases h with ⟨n, n0, rfl, lg, hl, h6, q⟩ | ⟨rfl, hd, q⟩
    · refine ⟨_, rfl, _, rfl, by rw [sizeLine_eq]; omega, _, rfl, _, _, rfl, rfl, false, bl_false (show ¬ ((nmS n).length : Int) > d by omega), ?_⟩
      refine ⟨_, rfl, ⟨_, rfl⟩, _, rfl, rfl, trivial, true, congrArg V.bl (nm_dec n0), ?_⟩
      refine ⟨_, rfl, _, n, rfl, nm_int n0 h6, h6, ?_⟩
      refine ⟨_, rfl, n, rfl, lg, _, rfl, rfl, true, congrArg V.bl (decide_eq_true rfl), _, rfl, q⟩
    · have e1 : ("." : Str).length = 1 := by decide +kernel
      refine ⟨_, rfl, _, rfl, by rw [e1]; decide, _, rfl, _, _, rfl, rfl, false, bl_false (show ¬ ((("." : Str).length : Nat) : Int) > d by rw [e1]; omega), ?_⟩
      refine ⟨_, rfl, ⟨_, rfl⟩, _, rfl, rfl, trivial, false, congrArg V.bl dot_dec, ?_⟩
      exact q
end
end KS
namespace KS
open PySem PySem.Spec PyProof.Rows L2 RZ TL
def spRdT (K : PySem.W.Frag) : Sp := fun xs H Q _ => ∃ (cs : List Cell) (vs : List Int), xs = [.str (page cs vs)] ∧ Good cs ∧ cs.length ≤ 24 ∧ Vals9 cs.length vs ∧
  ∀ H' T a t, Same H H' → SqT K H' T [.ref a, .ref t] → PlanT K H' a cs → SqT K H' t (vs.map V.int) → Q (.ref T) H'
def spIsPlanT (K : PySem.W.Frag) : Sp := fun vs H Q _ => ∃ (a : Addr) (cs : List Cell), vs = [.ref a] ∧ PlanAt K H a cs ∧ Good cs ∧ cs.length ≤ 24 ∧ ∀ H', Same H H' → Q (.bl true) H'
def spIsFillT (K : PySem.W.Frag) : Sp := fun vs H Q _ => ∃ (a t : Addr) (cs : List Cell) (xs : List Int), vs = [.ref a, .ref t] ∧ PlanAt K H a cs ∧ Good cs ∧ cs.length ≤ 24 ∧ SqT K H t (xs.map V.int) ∧ Vals9 cs.length xs ∧ ∀ H', Same H H' → Q (.bl true) H'
abbrev sRdT : Stmt := topS 22
abbrev nRdT : List Str := ["text", "cells", "values", "row", "line", "column", "word", "value"]
theorem scRdT : FnScope nRdT ["text"] (defScope sRdT) := ⟨rfl, rfl, rfl, by decide +kernel, rfl, by decide +kernel, by decide +kernel⟩
abbrev sParT : Stmt := topS 23
abbrev nParT : List Str := ["text", "plan", "filling"]
theorem scParT : FnScope nParT ["text"] (defScope sParT) := ⟨rfl, rfl, rfl, by decide +kernel, rfl, by decide +kernel, by decide +kernel⟩
abbrev sIsPlan : Stmt := topS 14
theorem scIsPlanT : FnScope ["value"] ["value"] (defScope sIsPlan) := ⟨rfl, rfl, rfl, by decide +kernel, rfl, by decide +kernel, by decide +kernel⟩
abbrev sIsFill : Stmt := topS 18
theorem scIsFillT : FnScope ["plan", "value"] ["plan", "value"] (defScope sIsFill) := ⟨rfl, rfl, rfl, by decide +kernel, rfl, by decide +kernel, by decide +kernel⟩
/-- what is read so far -/
structure Rdn (K : PySem.W.Frag) (H G : Hp) (C W : Addr) (zs : List (Cell × Int)) : Prop where
  sm : Same H G
  nC : H C = none
  nW : H W = none
  ne : C ≠ W
  cells : ∃ xs, G C = some (.lst xs) ∧ CellsT G xs (zs.map (·.1))
  vals : G W = some (.lst ((zs.map (·.2)).map V.int))
theorem Rdn.same {K : PySem.W.Frag} {H G G' : Hp} {C W : Addr} {zs : List (Cell × Int)} (h : Rdn K H G C W zs) (s : Same G G') : Rdn K H G' C W zs := by
  obtain ⟨xs, a, b⟩ := h.cells
  exact ⟨h.sm.trans s, h.nC, h.nW, h.ne, ⟨xs, s _ _ a, cellsT_kt (.of_same s) b⟩, s _ _ h.vals⟩
theorem Rdn.add {K : PySem.W.Frag} {H G : Hp} {C W U : Addr} {zs : List (Cell × Int)} {xs : List V} {i j v : Int} (h : Rdn K H G C W zs) (hc : G C = some (.lst xs)) (hx : CellsT G xs (zs.map (·.1))) (nU : G U = none) :
    Rdn K H (upd (upd (upd G U (.tup [.int i, .int j])) C (.lst (xs ++ [.ref U]))) W (.lst ((zs.map (·.2)).map V.int ++ [.int v]))) C W (zs ++ [((i, j), v)]) := by
  have sU := same_new (o := .tup [.int i, .int j]) nU
  have cU : C ≠ U := ne_of_none hc nU
  have wU : W ≠ U := ne_of_none h.vals nU
  have k1 : KTt (upd G U (.tup [.int i, .int j])) (upd (upd G U (.tup [.int i, .int j])) C (.lst (xs ++ [.ref U]))) := KTt.upd (sU _ _ hc)
  have k2 : KTt (upd (upd G U (.tup [.int i, .int j])) C (.lst (xs ++ [.ref U]))) (upd (upd (upd G U (.tup [.int i, .int j])) C (.lst (xs ++ [.ref U]))) W (.lst ((zs.map (·.2)).map V.int ++ [.int v]))) := by
    refine KTt.upd (ys := (zs.map (·.2)).map V.int) ?_
    rw [upd_ne (Ne.symm h.ne)]
    exact sU _ _ h.vals
  refine ⟨fun b o e => ?_, h.nC, h.nW, h.ne, ⟨xs ++ [.ref U], ?_, ?_⟩, ?_⟩
  · rw [upd_ne (ne_of_none e h.nW), upd_ne (ne_of_none e h.nC)]
    exact sU _ _ (h.sm b o e)
  · rw [upd_ne h.ne, upd_same]
  · rw [List.map_append]
    refine paired_append (cellsT_kt (((KTt.of_same sU).trans k1).trans k2) hx) (.cons ⟨U, rfl, ?_⟩ .nil)
    rw [upd_ne (Ne.symm wU), upd_ne (Ne.symm cU), upd_same]
  · rw [upd_same, List.map_append, List.map_append]
    rfl
theorem pgR_at {cs : List Cell} {vs : List Int} {i : Nat} {z : V} (h : ((pgR cs vs).map V.str)[i]? = some z) : i < hiN cs ∧ z = .str (jn (rowW cs vs i)) := by
  unfold pgR at h
  rw [List.getElem?_map, List.getElem?_map] at h
  rcases Nat.lt_or_ge i (hiN cs) with l | l
  · rw [List.getElem?_range l] at h
    cases h
    exact ⟨l, rfl⟩
  · rw [List.getElem?_eq_none (by rw [List.length_range]; exact l)] at h
    cases h
theorem rowW_at {cs : List Cell} {vs : List Int} {r j : Nat} {z : V} (h : ((rowW cs vs r).map V.str)[j]? = some z) : j < wiN cs ∧ z = .str (wdAt (cs.zip vs) ((r : Int), (j : Int))) := by
  unfold rowW at h
  rw [List.getElem?_map, List.getElem?_map] at h
  rcases Nat.lt_or_ge j (wiN cs) with l | l
  · rw [List.getElem?_range l] at h
    cases h
    exact ⟨l, rfl⟩
  · rw [List.getElem?_eq_none (by rw [List.length_range]; exact l)] at h
    cases h
section
variable {P : Program} {w : World} {K : PySem.W.Frag} {mg : Str → Option Value} {base : Heap}
theorem ok_isPlanT {f fC C : Addr} {fd fdC : FuncData} (F : Fun K "is_plan" "is_plan" sIsPlan f fd) (GC : FnOk P w K mg base CX0 5 fC fdC ["plan"] (spCheck K)) (bC : Binds K fdC ["plan"] []) (gC : mg "check_plan" = some (.ref fC)) (kC : PySem.W.keepIn K (.ref fC) = true)
    (gX : mg "InvalidPlan" = some (.ref C)) : FnOk P w K mg base CX0 6 f fd ["value"] (spIsPlanT K) := by
  refine F.ok scIsPlanT (fun vs H Q E h => ?_) (fun cdv A outer s H vs Q E hr h => ?_)
  · obtain ⟨a, cs, rfl, _⟩ := h
    rfl
  · obtain ⟨a, cs, rfl, hp, gd, hl, q⟩ := h
    refine ⟨_, pss_cons (ps_try_only (tb := fun W => tDrop (tCall (spCheck K) [] E0 (tCons (tVar 0) tNil))) (ts := fun _ _ _ => tRet (tC (.bl false))) (Wout := fun _ _ _ _ => False) rfl rfl ⟨rfl, by decide, Or.inl gX⟩ takes0
        (fun W pn xe tk _ => pss_one (ps_expr (by exact (pe_call GC hr (by rfl) gC kC bC .nil pass0 (by exact (pa_cons (pv 0) pa_nil))))))
        (fun a oe cls d pn _ _ => pss_one (ps_ret pe_bl)))
      (pss_one (ps_ret pe_bl)), ?_⟩
    exact ⟨_, rfl, a, cs, rfl, hp, gd, hl, fun H' s' => q H' s'⟩
theorem ok_isFillT {f fC fF C : Addr} {fd fdC fdF : FuncData} (F : Fun K "is_filling" "is_filling" sIsFill f fd) (GC : FnOk P w K mg base CX0 5 fC fdC ["plan"] (spCheck K)) (bC : Binds K fdC ["plan"] []) (gC : mg "check_plan" = some (.ref fC)) (kC : PySem.W.keepIn K (.ref fC) = true)
    (GF : FnOk P w K mg base CX0 4 fF fdF ["size", "filling"] (spCheckF K)) (bF : Binds K fdF ["size", "filling"] []) (gF : mg "check_filling" = some (.ref fF)) (kF : PySem.W.keepIn K (.ref fF) = true)
    (ml : mg "len" = none) (gX : mg "InvalidFilling" = some (.ref C)) : FnOk P w K mg base CX0 6 f fd ["plan", "value"] (spIsFillT K) := by
  refine F.ok scIsFillT (fun vs H Q E h => ?_) (fun cdv A outer s H vs Q E hr h => ?_)
  · obtain ⟨a, t, cs, xs, rfl, _⟩ := h
    rfl
  · obtain ⟨a, t, cs, xs, rfl, hp, gd, hl, ht, v9, q⟩ := h
    have hr4 : Room 4 _ := hr.mono (by decide)
    refine ⟨_, pss_cons (ps_expr (pe_call GC hr (by rfl) gC kC bC .nil pass0 (pa_cons (pv 0) pa_nil)))
      (pss_cons (ps_try_only (tb := fun W => tDrop (tCall (spCheckF K) [] E0 (tCons (tCB (rLenSeq K) (tCons (tVar 0) tNil)) (tCons (tVar 1) tNil)))) (ts := fun _ _ _ => tRet (tC (.bl false))) (Wout := fun _ _ _ _ => False) rfl rfl ⟨rfl, by decide, Or.inl gX⟩ takes0
        (fun W pn xe tk _ => pss_one (ps_expr (by exact (pe_call GF hr4 (by rfl) gF kF bF .nil pass0 (by exact (pa_cons (pe_callB (id := "len") (r := rLenSeq K) (call_lenK rfl) (by rfl) ml PySem.boot_len (pa_cons (pv 0) pa_nil)) (pa_cons (pv 1) pa_nil)))))))
        (fun a oe cls d pn _ _ => pss_one (ps_ret pe_bl)))
      (pss_one (ps_ret pe_bl))), ?_⟩
    refine ⟨_, rfl, a, cs, rfl, hp, gd, hl, fun H1 s1 => ?_⟩
    obtain ⟨ys, hy, hc⟩ := hp
    have el := Paired.length hc
    exact ⟨_, rfl, a, ys, rfl, .inr (same_seqT s1 hy), _, rfl, cs.length, t, xs, by rw [el]; rfl, same_seqT s1 ht, v9, hl, fun H' s' => q H' (s1.trans s')⟩
theorem ok_rdT {f fN : Addr} {fd fdN : FuncData} {tk : Tok} (F : Fun K "read_table" "read_table" sRdT f fd) (GN : FnOk P w K mg base CX0 1 fN fdN ["text", "digits"] spRdN) (bN : Binds K fdN ["text", "digits"] []) (gN : mg "read_number" = some (.ref fN)) (kN : PySem.W.keepIn K (.ref fN) = true)
    (me : mg "enumerate" = none) (ml : mg "len" = none) (mS : mg "str" = none) (mt : mg "tuple" = none) (mM : mg "MOST_VALUE" = some (.int 9999 tk)) : FnOk P w K mg base CX0 2 f fd ["text"] (spRdT K) := by
  refine F.ok scRdT (fun vs H Q E h => ?_) (fun cdv A outer s H vs Q E hr h => ?_)
  · obtain ⟨cs, vs, rfl, _⟩ := h
    rfl
  · obtain ⟨cs, vs, rfl, gd, h24, v9, q⟩ := h
    have nd := scRdT.nd
    refine ⟨_, pss_cons (ps_set (i := 1) nd rfl (.inl rfl) (pe_lst pa_nil))
      (pss_cons (ps_set (i := 2) nd rfl (.inl rfl) (pe_lst pa_nil))
      (pss_cons (ps_for PassesOwn.never rfl (pi_enum (by rfl) me (pa_cons (pe_split (pv 0) pe_str) pa_nil)) (pg_tup (by rfl) (pgs_cons (pg_name (i := 3) nd rfl (.inl rfl)) (pgs_cons (pg_name (i := 4) nd rfl (.inl rfl)) pgs_nil)))
        (pss_one (ps_for PassesOwn.never rfl (pi_enum (by rfl) me (pa_cons (pe_split (pv 4) pe_str) pa_nil)) (pg_tup (by rfl) (pgs_cons (pg_name (i := 5) nd rfl (.inl rfl)) (pgs_cons (pg_name (i := 6) nd rfl (.inl rfl)) pgs_nil)))
          (pss_cons (ps_set (i := 7) nd rfl (.inl rfl) (pe_call GN hr (by rfl) gN kN bN .nil pass0 (pa_cons (pv 6) (pa_cons (pe_callB call_len_str (by rfl) ml PySem.boot_len (pa_cons (pe_callTy call_str_int (by rfl) mS (by decide +kernel) (pa_cons (pe_glob (v := .int 9999) (by rfl) mM ⟨_, rfl⟩) pa_nil)) pa_nil)) pa_nil))))
          (pss_one (ps_if (pt_cmpR op_notN (pv 7) pe_non (nomark _))
            (pss_cons (ps_expr (pe_bm PySem.F.plainAttrs_list PySem.F.slot_list_append PySem.F.type_list_append mt_append (pv 1) (pa_cons (pe_tup (pa_cons (pv 3) (pa_cons (pv 5) pa_nil))) pa_nil)))
            (pss_one (ps_expr (pe_bm PySem.F.plainAttrs_list PySem.F.slot_list_append PySem.F.type_list_append mt_append (pv 2) (pa_cons (pv 7) pa_nil)))))
            pss_nil))))))
      (pss_one (ps_ret (pe_tup (pa_cons (pe_callTy call_tuple_of (by rfl) mt (by decide +kernel) (pa_cons (pv 1) pa_nil)) (pa_cons (pe_callTy call_tuple_of (by rfl) mt (by decide +kernel) (pa_cons (pv 2) pa_nil)) pa_nil))))))), ?_⟩
    have hw := wiN_le gd
    have hh := hiN_le gd
    have vl := v9.len
    have zl : (cs.zip vs).length = cs.length := by rw [List.length_zip, vl, Nat.min_self]
    have asc := asc_zip (vs := vs) gd.asc
    have vb := zip_vals v9
    have cb : ∀ z ∈ cs.zip vs, InGrid z.1 ∧ z.1.1 < (hiN cs : Int) ∧ z.1.2 < (wiN cs : Int) := fun z hz => ⟨gd.grid _ (zip_cell hz), in_hi (zip_cell hz), in_wi (zip_cell hz)⟩
    have few : ∀ b, (bef (cs.zip vs) b).length ≤ 24 := fun b => Nat.le_trans (bef_len _ b) (by omega)
    refine ⟨by show 0 ≤ sizeLine; decide, fun C nC => ?_⟩
    have sC := same_new (o := .lst []) nC
    have hC : upd H C (.lst []) C = some (.lst []) := upd_same
    refine ⟨by show 0 ≤ sizeLine; decide, fun W nW => ?_⟩
    have sW := same_new (o := .lst []) nW
    have ne := ne_of_none hC nW
    have r0 : Rdn K H (upd (upd H C (.lst [])) W (.lst [])) C W [] := ⟨sC.trans sW, nC, sC.free nW, ne, ⟨[], sW _ _ hC, .nil⟩, upd_same⟩
    generalize upd (upd H C (.lst [])) W (.lst []) = H1 at r0 ⊢
    clear sC hC sW
    refine ⟨_, rfl, ⟨_, rfl⟩, _, _, rfl, rfl, by decide +kernel, by have := page_len gd v9; rw [sizeLine_eq]; omega, fun L nL => ?_⟩
    rw [page_split v9]
    have sL := same_new (o := .lst ((pgR cs vs).map V.str)) nL
    have r1 := r0.same sL
    have hL : upd H1 L (.lst ((pgR cs vs).map V.str)) L = some (.lst ((pgR cs vs).map V.str)) := upd_same
    have CL : C ≠ L := r0.cells.elim fun _ z => ne_of_none z.1 nL
    have WL : W ≠ L := ne_of_none r0.vals nL
    generalize upd H1 L (.lst ((pgR cs vs).map V.str)) = H2 at r1 hL ⊢
    clear r0 sL nL
    refine ⟨L, _, rfl, SqL.of hL, for_it (walk_enum (K := K) (a := L) (xs := (pgR cs vs).map V.str)) (fun i σ G => ∃ y3 y4 y5 y6 y7 : Option V, σ = [some (.str (page cs vs)), some (.ref C), some (.ref W), y3, y4, y5, y6, y7] ∧
      Rdn K H G C W (bef (cs.zip vs) ((i : Int), 0)) ∧ G L = some (.lst ((pgR cs vs).map V.str))) ?_ ?_ ?_ ?_⟩
    · refine ⟨none, none, none, none, none, rfl, ?_, hL⟩
      have := bef_none (zs := cs.zip vs) fun z hz => by
        have := (cb z hz).1
        unfold InGrid at this
        exact ⟨this.1, this.2.2.1⟩
      show Rdn K H H2 C W (bef (cs.zip vs) (0, 0))
      rw [this]
      exact r1
    · rintro i σ G _ ⟨_, _, _, _, _, _, _, h⟩
      exact SqL.of h
    · rintro i x σ G G' hi ⟨y3, y4, y5, y6, y7, rfl, rd, hLG⟩ ⟨T, y, z, rfl, nT, rfl, ey, ez⟩
      cases ey
      obtain ⟨il, rfl⟩ := pgR_at ez
      have sT := same_new (o := .tup [.int (i : Nat), .str (jn (rowW cs vs i))]) nT
      refine ⟨T, _, rfl, SqT.of upd_same, rfl, _, _, rfl, _, _, rfl, rfl, ?_⟩
      have rd := rd.same sT
      have hLG := sT _ _ hLG
      generalize upd G T (.tup [.int (i : Nat), .str (jn (rowW cs vs i))]) = G1 at rd hLG ⊢
      clear sT nT
      refine ⟨_, rfl, ⟨_, rfl⟩, _, _, rfl, rfl, by decide +kernel, by have := row_len gd v9 i; rw [sizeLine_eq]; omega, fun M nM => ?_⟩
      rw [row_split v9]
      have sM := same_new (o := .lst ((rowW cs vs i).map V.str)) nM
      have hM : upd G1 M (.lst ((rowW cs vs i).map V.str)) M = some (.lst ((rowW cs vs i).map V.str)) := upd_same
      have CM : C ≠ M := rd.cells.elim fun _ z => ne_of_none z.1 nM
      have WM : W ≠ M := ne_of_none rd.vals nM
      have rd := rd.same sM
      have hLG := sM _ _ hLG
      generalize upd G1 M (.lst ((rowW cs vs i).map V.str)) = G2 at rd hLG hM ⊢
      clear sM nM
      refine ⟨M, _, rfl, SqL.of hM, for_it (walk_enum (K := K) (a := M) (xs := (rowW cs vs i).map V.str)) (fun j σ J => ∃ y5 y6 y7 : Option V, σ = [some (.str (page cs vs)), some (.ref C), some (.ref W), some (.int (i : Nat)), some (.str (jn (rowW cs vs i))), y5, y6, y7] ∧
        Rdn K H J C W (bef (cs.zip vs) ((i : Int), (j : Int))) ∧ J L = some (.lst ((pgR cs vs).map V.str)) ∧ J M = some (.lst ((rowW cs vs i).map V.str))) ?_ ?_ ?_ ?_⟩
      · exact ⟨y5, y6, y7, rfl, rd, hLG, hM⟩
      · rintro j σ J _ ⟨_, _, _, _, _, _, h⟩
        exact SqL.of h
      · rintro j x σ J J' hj ⟨y5, y6, y7, rfl, rdJ, hLJ, hMJ⟩ ⟨T, y, z, rfl, nT, rfl, ey, ez⟩
        cases ey
        obtain ⟨jl, rfl⟩ := rowW_at ez
        have sT := same_new (o := .tup [.int (j : Nat), .str (wdAt (cs.zip vs) ((i : Int), (j : Int)))]) nT
        refine ⟨T, _, rfl, SqT.of upd_same, rfl, _, _, rfl, _, _, rfl, rfl, ?_⟩
        have rdJ := rdJ.same sT
        have hLJ := sT _ _ hLJ
        have hMJ := sT _ _ hMJ
        generalize upd J T (.tup [.int (j : Nat), .str (wdAt (cs.zip vs) ((i : Int), (j : Int)))]) = J1 at rdJ hLJ hMJ ⊢
        clear sT nT
        have e4 : (nmS 9999).length = 4 := by decide +kernel
        refine ⟨_, rfl, 9999, rfl, by decide +kernel, _, rfl, by show (nmS 9999).length ≤ _; rw [e4]; decide, _, _, rfl, ?_⟩
        have nx := bef_next (cs.zip vs) asc (i : Int) (j : Int)
        have fw := few ((i : Int), (j : Int))
        obtain ⟨xs, hc, hx⟩ := rdJ.cells
        have xl := Paired.length hx
        rw [List.length_map] at xl
        rcases wd_cases (cs.zip vs) ((i : Int), (j : Int)) with ⟨v, ev, wv⟩ | ⟨ev, wv⟩
        · have bd := vb _ (atC_mem ev)
          have b1 : 1 ≤ v := bd.1
          have b2 : v ≤ 9999 := bd.2
          have n4 := nm4 b1 b2
          rw [ev] at nx
          refine .inl ⟨v, by omega, wv, log4 b1 b2, ?_, ?_, ?_⟩
          · rw [wv]
            show ((nmS v).length : Int) ≤ ((nmS 9999).length : Nat)
            rw [e4]
            omega
          · rw [wv]
            omega
          refine ⟨_, rfl, rfl, true, rfl, ?_⟩
          refine ⟨_, rfl, .inl ⟨rfl, _, SqL.of hc⟩, _, rfl, _, rfl, by show 2 ≤ sizeLine; decide, fun U nU => ?_⟩
          have sU := same_new (o := .tup [.int (i : Nat), .int (j : Nat)]) nU
          refine ⟨C, xs, _, rfl, rfl, sU _ _ hc, small64 (by omega), ?_⟩
          have hW' : upd (upd J1 U (.tup [.int (i : Nat), .int (j : Nat)])) C (.lst (xs ++ [.ref U])) W = some (.lst (((bef (cs.zip vs) ((i : Int), (j : Int))).map (·.2)).map V.int)) := by
            rw [upd_ne (Ne.symm rdJ.ne)]
            exact sU _ _ rdJ.vals
          refine ⟨_, rfl, .inl ⟨rfl, _, SqL.of hW'⟩, _, rfl, W, _, _, rfl, rfl, hW', by rw [List.length_map, List.length_map]; exact small64 (by omega), ?_⟩
          refine ⟨_, _, _, rfl, ?_, ?_, ?_⟩
          · show Rdn K H _ C W (bef (cs.zip vs) ((i : Int), (j : Int) + 1))
            rw [nx]
            exact rdJ.add hc hx nU
          · rw [upd_ne (Ne.symm WL), upd_ne (Ne.symm CL)]
            exact sU _ _ hLJ
          · rw [upd_ne (Ne.symm WM), upd_ne (Ne.symm CM)]
            exact sU _ _ hMJ
        · rw [ev, List.append_nil] at nx
          refine .inr ⟨wv, by show (1 : Int) ≤ ((nmS 9999).length : Nat); rw [e4]; decide, ?_⟩
          refine ⟨_, rfl, rfl, false, rfl, ?_⟩
          refine ⟨_, _, _, rfl, ?_, hLJ, hMJ⟩
          show Rdn K H _ C W (bef (cs.zip vs) ((i : Int), (j : Int) + 1))
          rw [nx]
          exact rdJ
      · rintro σ J ⟨z5, z6, z7, rfl, rdJ, hLJ, _⟩
        refine ⟨_, _, _, _, _, rfl, ?_, hLJ⟩
        have e : ((rowW cs vs i).map V.str).length = wiN cs := by
          unfold rowW
          rw [List.length_map, List.length_map, List.length_range]
        rw [e] at rdJ
        have br := bef_row (zs := cs.zip vs) (i := (i : Int)) (w := (wiN cs : Int)) fun z hz => by
          have := (cb z hz).1
          unfold InGrid at this
          exact ⟨this.2.2.1, (cb z hz).2.2⟩
        rw [br] at rdJ
        exact rdJ
    · rintro σ G ⟨y3, y4, y5, y6, y7, rfl, rd, _⟩
      have e : ((pgR cs vs).map V.str).length = hiN cs := by
        unfold pgR
        rw [List.length_map, List.length_map, List.length_range]
      rw [e, bef_all fun z hz => (cb z hz).2.1] at rd
      obtain ⟨xs, hc, hx⟩ := rd.cells
      have e1 : (cs.zip vs).map (·.1) = cs := List.map_fst_zip (by omega)
      have e2 : (cs.zip vs).map (·.2) = vs := List.map_snd_zip (by omega)
      have hv := rd.vals
      rw [e1] at hx
      rw [e2] at hv
      refine ⟨_, rfl, C, xs, rfl, .inl ⟨SqL.of hc, fun A nA => ?_⟩⟩
      have sA := same_new (o := .tup xs) nA
      refine ⟨_, rfl, W, _, rfl, .inl ⟨SqL.of (sA _ _ hv), fun B nB => ?_⟩⟩
      have sB := same_new (o := .tup (vs.map V.int)) nB
      refine ⟨by show 2 ≤ sizeLine; decide, fun T nT => ?_⟩
      have sT := same_new (o := .tup [.ref A, .ref B]) nT
      exact q _ T A B (((rd.sm.trans sA).trans sB).trans sT) (SqT.of upd_same) ⟨xs, same_seqT (sB.trans sT) (SqT.of upd_same), cellsT_kt (.of_same ((sA.trans sB).trans sT)) hx⟩ (same_seqT sT (SqT.of upd_same))
theorem ok_parT {f fR fP fF fT : Addr} {fd fdR fdP fdF fdT : FuncData} (F : Fun K "parse_table" "parse_table" sParT f fd) (GR : FnOk P w K mg base CX0 2 fR fdR ["text"] (spRdT K)) (bR : Binds K fdR ["text"] []) (gR : mg "read_table" = some (.ref fR)) (kR : PySem.W.keepIn K (.ref fR) = true)
    (GP : FnOk P w K mg base CX0 6 fP fdP ["value"] (spIsPlanT K)) (bP : Binds K fdP ["value"] []) (gP : mg "is_plan" = some (.ref fP)) (kP : PySem.W.keepIn K (.ref fP) = true)
    (GF : FnOk P w K mg base CX0 6 fF fdF ["plan", "value"] (spIsFillT K)) (bF : Binds K fdF ["plan", "value"] []) (gF : mg "is_filling" = some (.ref fF)) (kF : PySem.W.keepIn K (.ref fF) = true)
    (GT : FnOk P w K mg base CX0 6 fT fdT ["plan", "filling"] (spFmtT K)) (bT : Binds K fdT ["plan", "filling"] []) (gT : mg "format_table" = some (.ref fT)) (kT : PySem.W.keepIn K (.ref fT) = true)
    (mi : mg "isinstance" = none) (mS : mg "str" = none) : FnOk P w K mg base CX0 7 f fd ["text"] (spRdT K) := by
  refine F.ok scParT (fun vs H Q E h => ?_) (fun cdv A outer s H vs Q E hr h => ?_)
  · obtain ⟨cs, vs, rfl, _⟩ := h
    rfl
  · obtain ⟨cs, vs, rfl, gd, h24, v9, q⟩ := h
    have nd := scParT.nd
    have hr2 : Room 2 _ := hr.mono (by omega)
    refine ⟨_, pss_cons (ps_if (pt_not (pt_val (pe_callB call_isi (by rfl) mi (by decide +kernel) (pa_cons (pv 0) (pa_cons (pe_bltn (v := .ty "str") (by rfl) mS (by decide +kernel) rfl) pa_nil))))) (pss_one ps_never) pss_nil)
      (pss_cons (ps_asg (pe_call GR hr2 (by rfl) gR kR bR .nil pass0 (pa_cons (pv 0) pa_nil)) (pg_tup (by rfl) (pgs_cons (pg_name (i := 1) nd rfl (.inl rfl)) (pgs_cons (pg_name (i := 2) nd rfl (.inl rfl)) pgs_nil))))
      (pss_cons (ps_if (PW.pt (pw_or (pt_not (pt_val (pe_call GP hr (by rfl) gP kP bP .nil pass0 (pa_cons (pv 1) pa_nil)))) (pw_or (pt_not (pt_val (pe_call GF hr (by rfl) gF kF bF .nil pass0 (pa_cons (pv 1) (pa_cons (pv 2) pa_nil)))))
          (pw_or1 (pt_cmpR op_ne (pe_call GT hr (by rfl) gT kT bT .nil pass0 (pa_cons (pv 1) (pa_cons (pv 2) pa_nil))) (pv 0) (nomark _)))))) (pss_one ps_never) pss_nil)
      (pss_one (ps_ret (pe_tup (pa_cons (pv 1) (pa_cons (pv 2) pa_nil))))))), ?_⟩
    refine ⟨_, rfl, _, _, _, _, true, rfl, .ty "str", .base (.str _), kit_ty (by decide +kernel), true, rfl, ?_⟩
    refine ⟨_, rfl, cs, vs, rfl, gd, h24, v9, fun H1 T a t s1 hT hp ht => ?_⟩
    refine ⟨T, _, rfl, hT, rfl, _, _, rfl, _, _, rfl, rfl, ?_⟩
    refine ⟨_, rfl, a, cs, rfl, hp.at, gd, h24, fun H2 s2 => ⟨true, rfl, ?_⟩⟩
    refine ⟨_, rfl, _, rfl, a, t, cs, vs, rfl, (hp.same s2).at, gd, h24, same_seqT s2 ht, v9, fun H3 s3 => ⟨true, rfl, ?_⟩⟩
    have s23 := s2.trans s3
    refine ⟨_, rfl, _, rfl, a, t, cs, vs, rfl, hp.same s23, gd, h24, same_seqT s23 ht, v9, fun H4 s4 => ⟨_, rfl, rfl, false, ?_, ?_⟩⟩
    · exact congrArg (fun b => V.bl (!b)) (decide_eq_true rfl)
    have s24 := s23.trans s4
    refine ⟨_, rfl, _, rfl, by show 2 ≤ sizeLine; decide, fun U nU => ?_⟩
    have sU := same_new (o := .tup [.ref a, .ref t]) nU
    exact q _ U a t ((s1.trans s24).trans sU) (SqT.of upd_same) ((hp.same s24).same sU) (same_seqT (s24.trans sU) ht)
end
end KS
namespace KS
open PySem PySem.Spec PyProof.Rows L2
section
variable {K : PySem.W.Frag} {σ : L2.St} {H : Hp} {Q : VK} {ta : TA}
theorem catA_ok2 {a b : Addr} {xs ys : List V} (ha : SqT K H a xs) (hb : SqT K H b ys) (hl : xs.length + ys.length ≤ 64)
    (k : ∀ H' u, Same H H' → SqT K H' u (xs ++ ys) → Q (.ref u) H') : rCatA K (.ref a) (.ref b) H Q := by
  refine ⟨a, b, xs, ys, rfl, rfl, ha, hb, Nat.le_of_lt (small64 hl), fun e => ?_, fun _ e => ?_, fun _ _ p np => ?_⟩
  · subst e
    exact k H b (Same.refl _) hb
  · subst e
    exact k H a (Same.refl _) (by rw [List.append_nil]; exact ha)
  · exact k _ p (same_new np) (SqT.of upd_same)
theorem cut_to2 {xs : List V} {k : Nat} (h : k ≤ xs.length) : cutV xs none (some (k : Int)) = xs.take k := by
  unfold cutV
  rw [HT.sIx_none, HT.sIx_nat, Nat.min_eq_left h]
  simp
theorem cut_from2 {xs : List V} {k : Nat} (h : k ≤ xs.length) : cutV xs (some (k : Int)) none = xs.drop k := by
  unfold cutV
  rw [HT.sIx_none, HT.sIx_nat, Nat.min_eq_left h]
  exact List.take_of_length_le (by rw [List.length_drop]; exact Nat.le_refl _)
theorem slTo_ok2 {a : Addr} {xs : List V} {n : Nat} (ha : SqT K H a xs) (hn : n ≤ xs.length) (k : ∀ H' u, Same H H' → SqT K H' u (xs.take n) → Q (.ref u) H') : rSlA K (.ref a) none (some (n : Int)) H Q := by
  refine ⟨a, xs, rfl, ha, fun z => ?_, fun _ p np => ?_⟩
  · obtain ⟨_, z2⟩ := z
    rw [show HT.sIx xs.length xs.length (some (n : Int)) = min n xs.length from HT.sIx_nat _ _ n] at z2
    have e : n = xs.length := by omega
    refine k H a (Same.refl _) ?_
    rw [e, List.take_length]
    exact ha
  · refine k _ p (same_new np) (SqT.of ?_)
    rw [upd_same, cut_to2 hn]
theorem slFrom_ok2 {a : Addr} {xs : List V} {n : Nat} (ha : SqT K H a xs) (hn : n ≤ xs.length) (k : ∀ H' u, Same H H' → SqT K H' u (xs.drop n) → Q (.ref u) H') : rSlA K (.ref a) (some (n : Int)) none H Q := by
  refine ⟨a, xs, rfl, ha, fun z => ?_, fun _ p np => ?_⟩
  · obtain ⟨z1, _⟩ := z
    rw [show HT.sIx xs.length 0 (some (n : Int)) = min n xs.length from HT.sIx_nat _ _ n] at z1
    refine k H a (Same.refl _) ?_
    rcases Nat.eq_zero_or_pos n with e | e
    · subst e
      exact ha
    · have e2 : xs.length = 0 := by omega
      have e3 := List.eq_nil_of_length_eq_zero e2
      subst e3
      simpa using ha
  · refine k _ p (same_new np) (SqT.of ?_)
    rw [upd_same, cut_from2 hn]
end
end KS
namespace KS
open PySem PySem.Spec PyProof.Rows L2
theorem pe_never {X : Cx} {e : Expr} : PE X e (fun _ _ _ => False) := ⟨fun _ _ _ _ _ _ h => h.elim⟩
/-! ### small programs, spelt out -/
mutual
def Stp.sm : Stp → Prop
  | .w l => l.length ≤ 6
  | .r n b => n ≤ 3 ∧ smL b
def smL : List Stp → Prop
  | [] => True
  | s :: b => s.sm ∧ smL b
end
theorem smL_app : ∀ {a b : List Stp}, smL (a ++ b) ↔ smL a ∧ smL b
  | [], b => by rw [List.nil_append]; simp only [smL]; exact ⟨fun h => ⟨trivial, h⟩, fun h => h.2⟩
  | s :: a, b => by
    rw [List.cons_append]
    simp only [smL]
    rw [smL_app (a := a)]
    exact ⟨fun ⟨x, y, z⟩ => ⟨⟨x, y⟩, z⟩, fun ⟨⟨x, y⟩, z⟩ => ⟨x, y, z⟩⟩
theorem sm_mem : ∀ {b : List Stp} {s : Stp}, smL b → s ∈ b → s.sm
  | [], _, _, h => by cases h
  | x :: b, s, o, h => by
    simp only [smL] at o
    rcases List.mem_cons.mp h with e | h
    · subst e
      exact o.1
    · exact sm_mem o.2 h
mutual
def Stp.spell : Stp → List Bool
  | .w l => l
  | .r n b => (List.replicate n.toNat (spellL b)).flatten
def spellL : List Stp → List Bool
  | [] => []
  | s :: b => s.spell ++ spellL b
end
theorem spellL_app : ∀ a b : List Stp, spellL (a ++ b) = spellL a ++ spellL b
  | [], b => rfl
  | s :: a, b => by
    rw [List.cons_append]
    simp only [spellL]
    rw [spellL_app a b, List.append_assoc]
theorem spellL_take {ss : List Stp} {i : Nat} {s : Stp} (h : ss[i]? = some s) : spellL (ss.take (i + 1)) = spellL (ss.take i) ++ s.spell := by
  rw [List.take_add_one, h, spellL_app]
  show _ ++ spellL [s] = _
  simp only [spellL, List.append_nil]
theorem countP_rep (k : Bool) (l : List Bool) : ∀ n : Nat, ((List.replicate n l).flatten).countP (fun b => b == k) = n * l.countP fun b => b == k
  | 0 => by rw [Nat.zero_mul]; rfl
  | n + 1 => by
    rw [List.replicate_succ, List.flatten_cons, List.countP_append, countP_rep k l n, Nat.succ_mul, Nat.add_comm]
mutual
theorem spell_cnt (k : Bool) : ∀ s : Stp, s.ok → ((s.spell.countP fun b => b == k : Nat) : Int) = s.cnt k
  | .w l, _ => by simp only [Stp.spell, Stp.cnt]
  | .r n b, h => by
    simp only [Stp.ok] at h
    simp only [Stp.spell, Stp.cnt]
    rw [countP_rep, Int.natCast_mul, spellL_cnt k b h.2.2, Int.toNat_of_nonneg (by omega)]
theorem spellL_cnt (k : Bool) : ∀ b : List Stp, okL b → (((spellL b).countP fun b => b == k : Nat) : Int) = cntL k b
  | [], _ => by simp only [spellL, cntL]; rfl
  | s :: b, h => by
    simp only [okL] at h
    simp only [spellL, cntL]
    rw [List.countP_append, Int.natCast_add, spell_cnt k s h.1, spellL_cnt k b h.2]
end
mutual
theorem spell_len : ∀ s : Stp, s.sm → s.ok → s.spell.length ≤ 6 * s.steps * 3 ^ s.nest
  | .w l, h, _ => by
    simp only [Stp.sm] at h
    simp only [Stp.spell, Stp.steps, Stp.nest]
    omega
  | .r n b, h, o => by
    simp only [Stp.sm] at h
    simp only [Stp.ok] at o
    have ih := spellL_len b h.2 o.2.2
    simp only [Stp.spell, Stp.steps, Stp.nest]
    rw [List.length_flatten, List.map_replicate, List.sum_replicate_nat]
    have e : 3 ^ (1 + nestL b) = 3 * 3 ^ nestL b := by rw [Nat.add_comm, Nat.pow_succ, Nat.mul_comm]
    rw [e]
    have m1 : n.toNat * (spellL b).length ≤ 3 * (6 * stepsL b * 3 ^ nestL b) := Nat.mul_le_mul (by omega) ih
    have e2 : 3 * (6 * stepsL b * 3 ^ nestL b) = 6 * stepsL b * (3 * 3 ^ nestL b) := Nat.mul_left_comm _ _ _
    have m2 : 6 * stepsL b * (3 * 3 ^ nestL b) ≤ 6 * (1 + stepsL b) * (3 * 3 ^ nestL b) := Nat.mul_le_mul_right _ (by omega)
    omega
theorem spellL_len : ∀ b : List Stp, smL b → okL b → (spellL b).length ≤ 6 * stepsL b * 3 ^ nestL b
  | [], _, _ => by simp only [spellL, stepsL, nestL]; decide
  | s :: b, h, o => by
    simp only [smL] at h
    simp only [okL] at o
    have i1 := spell_len s h.1 o.1
    have i2 := spellL_len b h.2 o.2
    simp only [spellL, stepsL, nestL]
    rw [List.length_append]
    have p1 : 3 ^ s.nest ≤ 3 ^ (max s.nest (nestL b)) := Nat.pow_le_pow_right (by decide) (by omega)
    have p2 : 3 ^ nestL b ≤ 3 ^ (max s.nest (nestL b)) := Nat.pow_le_pow_right (by decide) (by omega)
    have m1 : 6 * s.steps * 3 ^ s.nest ≤ 6 * s.steps * 3 ^ (max s.nest (nestL b)) := Nat.mul_le_mul_left _ p1
    have m2 : 6 * stepsL b * 3 ^ nestL b ≤ 6 * stepsL b * 3 ^ (max s.nest (nestL b)) := Nat.mul_le_mul_left _ p2
    have e : 6 * (s.steps + stepsL b) * 3 ^ (max s.nest (nestL b)) = 6 * s.steps * 3 ^ (max s.nest (nestL b)) + 6 * stepsL b * 3 ^ (max s.nest (nestL b)) := by rw [Nat.mul_add, Nat.add_mul]
    omega
end
theorem spellL_small {b : List Stp} (h : smL b) (o : okL b) (hs : stepsL b ≤ 12) (hn : nestL b ≤ 2) : (spellL b).length ≤ 648 := by
  have i := spellL_len b h o
  have p : 3 ^ nestL b ≤ 3 ^ 2 := Nat.pow_le_pow_right (by decide) hn
  have m : 6 * stepsL b * 3 ^ nestL b ≤ 72 * 3 ^ 2 := Nat.mul_le_mul (by omega) p
  omega
/-- a word, however often -/
def rRepG : R2 := fun x y H Q => ∃ (wd : List Bool) (n : Int), x = .str (wS wd) ∧ y = .int n ∧ 1 ≤ n ∧ n ≤ 400 ∧ wd.length ≤ 1000 ∧ Q (.str (wS (List.replicate n.toNat wd).flatten)) H
theorem op_repG {X : Cx} : OpR X (binaryOp .Mult) rRepG := by
  intro pins s σ H x y v u Q I rx ry h
  obtain ⟨wd, n, rfl, rfl, n0, n1, w1, q⟩ := h
  obtain ⟨t, rfl⟩ := rx
  obtain ⟨t', rfl⟩ := ry
  have e1 : ¬ (n < 1) := by omega
  have hl := wS_len wd
  have hm : wd.length * n.toNat ≤ 400000 := Nat.mul_le_mul w1 (show n.toNat ≤ 400 by omega)
  refine P.mul_str ?_ ?_ ?_ ?_
  · have h1 : ¬ n < -(2 ^ 63 : Int) := by omega
    have h2 : ¬ n ≥ 2 ^ 63 := by omega
    rw [decide_eq_false h1, decide_eq_false h2]
    rfl
  · intro _ _
    rw [hl]
    have : (wd.length : Int) ≤ (2 ^ 63 - 1) / n := (Int.le_ediv_iff_mul_le (by omega)).mpr (by
      have : ((wd.length * n.toNat : Nat) : Int) ≤ 400000 := by omega
      rw [Int.natCast_mul, Int.toNat_of_nonneg (by omega)] at this
      omega)
    omega
  · intro _ _
    refine decide_eq_false ?_
    rw [hl, sizeLine_eq]
    omega
  · rw [if_neg e1]
    by_cases z : ((n == 1) || ((wS wd).length == 0)) = true
    · rw [if_pos z]
      have ez : wS wd = wS (List.replicate n.toNat wd).flatten := by
        rw [Bool.or_eq_true] at z
        rcases z with z | z
        · have : n = 1 := by simpa using z
          subst this
          show wS wd = wS (wd ++ [])
          rw [List.append_nil]
        · rw [hl] at z
          have : wd = [] := List.length_eq_zero_iff.mp (by simpa using z)
          subst this
          congr 1
          have : ∀ k : Nat, (List.replicate k ([] : List Bool)).flatten = [] := fun k => by
            induction k with
            | zero => rfl
            | succ k ih => rw [List.replicate_succ, List.flatten_cons, ih]; rfl
          rw [this]
      rw [ez] at *
      first | exact ⟨.str (wS (List.replicate n.toNat wd).flatten), H, I, ⟨_, rfl⟩, q⟩ | exact ⟨.str (wS (List.replicate n.toNat wd).flatten), H, I.tok _, ⟨_, rfl⟩, q⟩
    · rw [if_neg z]
      have ez : (⟨(List.replicate n.toNat (wS wd).cps).foldl (· ++ ·) #[]⟩ : Str) = wS (List.replicate n.toNat wd).flatten := by
        show (⟨(List.replicate n.toNat (wd.map ltr).toArray).foldl (· ++ ·) #[]⟩ : Str) = _
        rw [rep_words]
        unfold wS
        simp
      rw [ez]
      refine ⟨?_, .str (wS (List.replicate n.toNat wd).flatten), H, I.tok _, ⟨_, rfl⟩, q⟩
      rw [wS_len, List.length_flatten, List.map_replicate, List.sum_replicate_nat, sizeLine_eq, Nat.mul_comm]
      omega
/-! ### large numbers can be shown -/
theorem shows_big {a b : Int} (a0 : 0 ≤ a) (a1 : a < 10 ^ 160) (b0 : 0 ≤ b) (b1 : b < 10 ^ 160) : PyData.showable (.list [.tuple [.int a, .int b], .tuple [.int a, .int b]]) = true ∧ PyData.hasDict (.list [.tuple [.int a, .int b], .tuple [.int a, .int b]]) = false ∧
    (PyData.list [.tuple [.int a, .int b], .tuple [.int a, .int b]]).shown.length ≤ sizeLine ∧ PyData.depth (.list [.tuple [.int a, .int b], .tuple [.int a, .int b]]) ≤ 64 := by
  have key : ∀ x : Int, 0 ≤ x → x < 10 ^ 160 → x.natAbs.log2 < 540 ∧ (toString x : Str).length ≤ 160 := by
    intro x x0 x1
    obtain ⟨n, rfl⟩ := Int.eq_ofNat_of_zero_le x0
    have hn : n < 10 ^ 160 := by exact_mod_cast x1
    constructor
    · rw [Int.natAbs_natCast]
      rcases Nat.eq_zero_or_pos n with z | z
      · subst z
        decide
      · refine (Nat.log2_lt (by omega)).mpr ?_
        have : (10 : Nat) ^ 160 < 2 ^ 540 := by decide +kernel
        omega
    · exact toString_length_le (k := 160) (by omega) (by decide) x1
  obtain ⟨k1, k2⟩ := key a a0 a1
  obtain ⟨k3, k4⟩ := key b b0 b1
  refine ⟨?_, ?_, ?_, ?_⟩
  · simp only [PyData.showable, PyData.showableAll, Bool.and_true, Bool.and_eq_true, decide_eq_true_iff]
    omega
  · simp only [PyData.hasDict, PyData.hasDictAll, Bool.or_false]
  · have wa : PyData.weight (.int a) ≤ 540 := by
      simp only [PyData.weight]
      split <;> omega
    have wb : PyData.weight (.int b) ≤ 540 := by
      simp only [PyData.weight]
      split <;> omega
    have ls : PyData.leavesShort 160 (.list [.tuple [.int a, .int b], .tuple [.int a, .int b]]) = true := by
      simp only [PyData.leavesShort, PyData.leavesShortAll, Bool.and_true, Bool.and_eq_true, decide_eq_true_iff, PyData.shown]
      exact ⟨⟨decide_eq_true k2, decide_eq_true k4⟩, ⟨decide_eq_true k2, decide_eq_true k4⟩⟩
    have h := PyData.shown_le 160 (by decide) _ ls
    have w4 : PyData.weight (.list [.tuple [.int a, .int b], .tuple [.int a, .int b]]) ≤ 2200 := by
      have ea : PyData.weight (.list [.tuple [.int a, .int b], .tuple [.int a, .int b]]) = (PyData.weight (.int a) + 1 + (PyData.weight (.int b) + 1 + 0)) + 1 + ((PyData.weight (.int a) + 1 + (PyData.weight (.int b) + 1 + 0)) + 1 + 0) := by
        simp only [PyData.weight, PyData.weightAll]
      omega
    have : (160 + 2) * PyData.weight (.list [.tuple [.int a, .int b], .tuple [.int a, .int b]]) ≤ 162 * 2200 := Nat.mul_le_mul_left _ w4
    rw [sizeLine_eq]
    omega
  · simp only [PyData.depth, PyData.depthAll]
    decide
/-! ### the promises -/
def spTimes : Sp := fun xs H Q _ => ∃ (p : Addr) (b : Bool), xs = [.ref p, .bl b] ∧ PoolO (H p) ∧ ∀ H' n, KeepX p H H' → PoolO (H' p) → 1 ≤ n → n ≤ 10 ^ 30 → (b = true → n ≤ 3) → Q (.int n) H'
def spLSt (K : PySem.W.Frag) (m : Nat) : Sp := fun xs H Q _ => ∃ (v : V) (s : Stp), xs = [v] ∧ StA K H v s ∧ s.nest ≤ m ∧ s.steps ≤ 60 ∧ ∀ H', Same H H' → Q (.int (s.steps : Nat)) H'
def spLPr (K : PySem.W.Frag) (m : Nat) : Sp := fun xs H Q _ => ∃ (p : Addr) (d : Nat) (most : Nat), xs = [.ref p, .int (d : Nat), .int (most : Nat), .bl true] ∧ PoolO (H p) ∧ 1 ≤ d ∧ d ≤ m + 1 ∧ d ≤ 4 ∧ most ≤ 12 ∧
  ∀ H' t ss, KeepX p H H' → PoolO (H' p) → PgA K H' t ss → okL ss → smL ss → nestL ss ≤ d - 1 → stepsL ss ≤ most → Q (.ref t) H'
def spSpl (K : PySem.W.Frag) (m : Nat) : Sp := fun xs H Q _ => ∃ (t : Addr) (ss : List Stp), xs = [.ref t] ∧ PgA K H t ss ∧ okL ss ∧ smL ss ∧ nestL ss ≤ m ∧ nestL ss ≤ 2 ∧ stepsL ss ≤ 12 ∧ ∀ H', Same H H' → Q (.str (wS (spellL ss))) H'
def spNums (K : PySem.W.Frag) : Sp := fun xs H Q _ => ∃ (t : Addr) (ss : List Stp), xs = [.ref t] ∧ PgA K H t ss ∧ okL ss ∧ smL ss ∧ nestL ss ≤ 2 ∧ stepsL ss ≤ 12 ∧ ∀ H' u, Same H H' → H' u = some (.tup [.int (cntL false ss), .int (cntL true ss)]) → Q (.ref u) H'
def spTold (K : PySem.W.Frag) : Sp := fun xs H Q _ => ∃ (t u : Addr) (ss : List Stp), xs = [.ref t, .ref u] ∧ PgA K H t ss ∧ okL ss ∧ nestL ss ≤ 4 ∧ stepsL ss ≤ 60 ∧ SqT K H u [.int (cntL false ss), .int (cntL true ss)] ∧ ∀ H', Same H H' → Q (.bl true) H'
end KS
namespace KS
open PySem PySem.Spec PyProof.Rows L2
/-! ### programs as data, shown -/
mutual
def Stp.dat : Stp → PyData
  | .w l => .str (wS l)
  | .r n b => .tuple [.str "repeat", .int n, .tuple (datL b)]
def datL : List Stp → List PyData
  | [] => []
  | s :: b => s.dat :: datL b
end
mutual
theorem StA.dp {K : PySem.W.Frag} {H : Hp} : ∀ {v : V} {s : Stp}, StA K H v s → Dp K H v s.dat
  | _, _, .w l => by
    simp only [Stp.dat]
    exact .str _
  | _, _, .r h1 h2 h3 => by
    simp only [Stp.dat]
    exact .tup h1 (.cons (.str _) (.cons (.int _) (.cons (.tup h2 (StsA.dp h3)) .nil)))
theorem StsA.dp {K : PySem.W.Frag} {H : Hp} : ∀ {vs : List V} {ss : List Stp}, StsA K H vs ss → DpAll K H vs (datL ss)
  | _, _, .nil => by
    simp only [datL]
    exact .nil
  | _, _, .cons h1 h2 => by
    simp only [datL]
    exact .cons (StA.dp h1) (StsA.dp h2)
end
structure ShD (d : PyData) (n m : Nat) : Prop where
  short : d.leavesShort 160 = true
  show_ : d.showable = true
  nod : d.hasDict = false
  wt : d.weight ≤ n
  dep : d.depth ≤ m
structure ShAll (ds : List PyData) (n m : Nat) : Prop where
  short : PyData.leavesShortAll 160 ds = true
  show_ : PyData.showableAll ds = true
  nod : PyData.hasDictAll ds = false
  wt : PyData.weightAll ds ≤ n
  dep : PyData.depthAll ds ≤ m
theorem wS_cps (l : List Bool) : ∀ c ∈ (wS l).cps.toList, c < 16 ^ 8 := by
  intro c hc
  have hc' : c ∈ (l.map ltr).toArray.toList := hc
  rw [List.toList_toArray] at hc'
  obtain ⟨b, _, rfl⟩ := List.mem_map.mp hc'
  cases b <;> decide
theorem int_shd {n : Int} (h1 : 1 ≤ n) (h2 : n ≤ 10 ^ 30) : PyData.leavesShort 160 (.int n) = true ∧ PyData.showable (.int n) = true ∧ PyData.weight (.int n) ≤ 101 := by
  obtain ⟨k, rfl⟩ := Int.eq_ofNat_of_zero_le (show 0 ≤ n by omega)
  have hk : k ≤ 10 ^ 30 := by exact_mod_cast h2
  have lg : k.log2 < 100 := by
    refine (Nat.log2_lt (by omega)).mpr ?_
    have : (10 : Nat) ^ 30 < 2 ^ 100 := by decide +kernel
    omega
  refine ⟨?_, ?_, ?_⟩
  · simp only [PyData.leavesShort, PyData.shown]
    refine decide_eq_true (toString_length_le (k := 160) (by omega) (by decide) ?_)
    have : (10 : Int) ^ 30 < 10 ^ 160 := by decide +kernel
    omega
  · simp only [PyData.showable]
    exact decide_eq_true (by show k.log2 < 1920; omega)
  · simp only [PyData.weight]
    split
    · omega
    · show k.log2 + 1 ≤ 101
      omega
theorem rep_shd : PyData.leavesShort 160 (.str "repeat") = true ∧ PyData.showable (.str "repeat") = true ∧ PyData.weight (.str "repeat") = 6 := by
  refine ⟨by simp only [PyData.leavesShort]; decide +kernel, by simp only [PyData.showable], by simp only [PyData.weight]; decide +kernel⟩
mutual
theorem dat_shd : ∀ s : Stp, s.ok → ShD s.dat (500 * s.steps - 1) (2 * s.nest)
  | .w l, h => by
    simp only [Stp.ok] at h
    simp only [Stp.dat, Stp.steps, Stp.nest]
    have wl := wS_len l
    refine ⟨?_, ?_, ?_, ?_, ?_⟩
    · simp only [PyData.leavesShort]
      rw [List.all_eq_true]
      exact fun c hc => decide_eq_true (wS_cps l c hc)
    · simp only [PyData.showable]
    · simp only [PyData.hasDict]
    · simp only [PyData.weight]
      show (wS l).length ≤ _
      omega
    · simp only [PyData.depth]
      omega
  | .r n b, h => by
    simp only [Stp.ok] at h
    obtain ⟨i1, i2, i3⟩ := int_shd h.1 h.2.1
    obtain ⟨r1, r2, r3⟩ := rep_shd
    have ih := datL_shd b h.2.2
    simp only [Stp.dat, Stp.steps, Stp.nest]
    refine ⟨?_, ?_, ?_, ?_, ?_⟩
    · have e : PyData.leavesShort 160 (.tuple (datL b)) = true := by
        simp only [PyData.leavesShort]
        exact ih.short
      have : PyData.leavesShortAll 160 [.str "repeat", .int n, .tuple (datL b)] = true := by
        show (PyData.leavesShort 160 (.str "repeat") && (PyData.leavesShort 160 (.int n) && (PyData.leavesShort 160 (.tuple (datL b)) && true))) = true
        rw [r1, i1, e]
        rfl
      simp only [PyData.leavesShort]
      exact this
    · have e : PyData.showable (.tuple (datL b)) = true := by
        simp only [PyData.showable]
        exact ih.show_
      have : PyData.showableAll [.str "repeat", .int n, .tuple (datL b)] = true := by
        show (PyData.showable (.str "repeat") && (PyData.showable (.int n) && (PyData.showable (.tuple (datL b)) && true))) = true
        rw [r2, i2, e]
        rfl
      simp only [PyData.showable]
      exact this
    · simp only [PyData.hasDict, PyData.hasDictAll, Bool.or_false, Bool.false_or]
      exact ih.nod
    · have e : PyData.weight (.tuple [.str "repeat", .int n, .tuple (datL b)]) = PyData.weight (.str "repeat") + 1 + (PyData.weight (.int n) + 1 + (PyData.weightAll (datL b) + 1 + 0)) := by
        simp only [PyData.weight, PyData.weightAll]
      rw [e, r3]
      have := ih.wt
      omega
    · have e : PyData.depth (.tuple [.str "repeat", .int n, .tuple (datL b)]) = 1 + max 0 (max 0 (max (1 + PyData.depthAll (datL b)) 0)) ∨ PyData.depth (.tuple [.str "repeat", .int n, .tuple (datL b)]) ≤ 2 + PyData.depthAll (datL b) := by
        right
        simp only [PyData.depth, PyData.depthAll]
        omega
      have := ih.dep
      rcases e with e | e <;> omega
theorem datL_shd : ∀ b : List Stp, okL b → ShAll (datL b) (500 * stepsL b) (2 * nestL b)
  | [], _ => by
    simp only [datL, stepsL, nestL]
    refine ⟨?_, ?_, ?_, ?_, ?_⟩
    · simp only [PyData.leavesShortAll]
    · simp only [PyData.showableAll]
    · simp only [PyData.hasDictAll]
    · simp only [PyData.weightAll]; omega
    · simp only [PyData.depthAll]; omega
  | s :: b, h => by
    simp only [okL] at h
    have i1 := dat_shd s h.1
    have i2 := datL_shd b h.2
    have sp := steps_pos s
    simp only [datL, stepsL, nestL]
    refine ⟨?_, ?_, ?_, ?_, ?_⟩
    · simp only [PyData.leavesShortAll, i1.short, i2.short, Bool.and_self]
    · simp only [PyData.showableAll, i1.show_, i2.show_, Bool.and_self]
    · simp only [PyData.hasDictAll, i1.nod, i2.nod, Bool.or_self]
    · simp only [PyData.weightAll]
      have := i1.wt
      have := i2.wt
      omega
    · simp only [PyData.depthAll]
      have := i1.dep
      have := i2.dep
      omega
end
mutual
theorem ls_mono : ∀ d : PyData, d.leavesShort 8 = true → d.leavesShort 160 = true
  | .none, _ => by simp only [PyData.leavesShort]
  | .bool _, _ => by simp only [PyData.leavesShort]
  | .int i, h => by
    simp only [PyData.leavesShort, decide_eq_true_eq] at h ⊢
    omega
  | .str x, h => by
    simp only [PyData.leavesShort] at h ⊢
    exact h
  | .list xs, h => by
    simp only [PyData.leavesShort] at h ⊢
    exact ls_monoA xs h
  | .tuple xs, h => by
    simp only [PyData.leavesShort] at h ⊢
    exact ls_monoA xs h
  | .dict kvs, h => by
    simp only [PyData.leavesShort] at h ⊢
    exact ls_monoK kvs h
theorem ls_monoA : ∀ ds : List PyData, PyData.leavesShortAll 8 ds = true → PyData.leavesShortAll 160 ds = true
  | [], _ => by simp only [PyData.leavesShortAll]
  | d :: ds, h => by
    simp only [PyData.leavesShortAll, Bool.and_eq_true] at h ⊢
    exact ⟨ls_mono d h.1, ls_monoA ds h.2⟩
theorem ls_monoK : ∀ ds : List (PyData × PyData), PyData.leavesShortKv 8 ds = true → PyData.leavesShortKv 160 ds = true
  | [], _ => by simp only [PyData.leavesShortKv]
  | (k, v) :: ds, h => by
    simp only [PyData.leavesShortKv, Bool.and_eq_true] at h ⊢
    exact ⟨⟨ls_mono k h.1.1, ls_mono v h.1.2⟩, ls_monoK ds h.2⟩
end
theorem depth_cells : ∀ cs : List Cell, PyData.depthAll (cs.map cellD) ≤ 1
  | [] => by simp only [List.map_nil, PyData.depthAll]; omega
  | c :: cs => by
    have := depth_cells cs
    simp only [List.map_cons, PyData.depthAll]
    have e : (cellD c).depth ≤ 1 := by
      simp only [cellD, PyData.depth, PyData.depthAll]
      omega
    omega
theorem depth_plan (cs : List Cell) : (planD cs).depth ≤ 2 := by
  have := depth_cells cs
  simp only [planD, PyData.depth]
  omega
/-- a plan, a filling, a program, shown together -/
theorem shown_three {a b : PyData} {ss : List Stp} {n1 n2 : Nat} (h1 : Shows a n1) (d1 : a.depth ≤ 9) (h2 : Shows b n2) (d2 : b.depth ≤ 9) (hn1 : n1 + n2 ≤ 50000) (ok : okL ss) (hst : stepsL ss ≤ 60) (hn : nestL ss ≤ 6) :
    PyData.showable (.list [a, b, .tuple (datL ss)]) = true ∧ PyData.hasDict (.list [a, b, .tuple (datL ss)]) = false ∧ (PyData.list [a, b, .tuple (datL ss)]).shown.length ≤ sizeLine ∧ PyData.depth (.list [a, b, .tuple (datL ss)]) ≤ 64 := by
  have h3 := datL_shd ss ok
  refine ⟨?_, ?_, ?_, ?_⟩
  · simp only [PyData.showable, PyData.showableAll, h1.show_, h2.show_, h3.show_, Bool.and_self]
  · simp only [PyData.hasDict, PyData.hasDictAll, h1.nod, h2.nod, h3.nod, Bool.or_self]
  · have hl : PyData.leavesShort 160 (.list [a, b, .tuple (datL ss)]) = true := by
      simp only [PyData.leavesShort, PyData.leavesShortAll, ls_mono _ h1.short, ls_mono _ h2.short, h3.short, Bool.and_self]
    have := PyData.shown_le 160 (by decide) _ hl
    have w : PyData.weight (.list [a, b, .tuple (datL ss)]) = a.weight + 1 + (b.weight + 1 + (PyData.weightAll (datL ss) + 1 + 0)) := by
      simp only [PyData.weight, PyData.weightAll]
    rw [w] at this
    have a1 := h1.wt
    have a2 := h2.wt
    have a3 := h3.wt
    have e : sizeLine = 16777216 := by decide
    rw [e]
    omega
  · have w : PyData.depth (.list [a, b, .tuple (datL ss)]) ≤ 1 + max a.depth (max b.depth (1 + PyData.depthAll (datL ss))) := by
      simp only [PyData.depth, PyData.depthAll]
      omega
    have a3 := h3.dep
    omega
end KS
namespace KS
open PySem PySem.Spec PyProof.Rows L2
theorem shown_two {a b : PyData} {n1 n2 : Nat} (h1 : Shows a n1) (d1 : a.depth ≤ 9) (h2 : Shows b n2) (d2 : b.depth ≤ 9) (hn1 : n1 + n2 ≤ 50000) :
    PyData.showable (.list [a, b]) = true ∧ PyData.hasDict (.list [a, b]) = false ∧ (PyData.list [a, b]).shown.length ≤ sizeLine ∧ PyData.depth (.list [a, b]) ≤ 64 := by
  refine ⟨?_, ?_, ?_, ?_⟩
  · simp only [PyData.showable, PyData.showableAll, h1.show_, h2.show_, Bool.and_self]
  · simp only [PyData.hasDict, PyData.hasDictAll, h1.nod, h2.nod, Bool.or_self]
  · have hl : PyData.leavesShort 160 (.list [a, b]) = true := by
      simp only [PyData.leavesShort, PyData.leavesShortAll, ls_mono _ h1.short, ls_mono _ h2.short, Bool.and_self]
    have := PyData.shown_le 160 (by decide) _ hl
    have w : PyData.weight (.list [a, b]) = a.weight + 1 + (b.weight + 1 + 0) := by
      simp only [PyData.weight, PyData.weightAll]
    rw [w] at this
    have a1 := h1.wt
    have a2 := h2.wt
    have e : sizeLine = 16777216 := by decide
    rw [e]
    omega
  · have w : PyData.depth (.list [a, b]) ≤ 1 + max a.depth b.depth := by
      simp only [PyData.depth, PyData.depthAll]
      omega
    omega
theorem line9 {vs : List Int} {n : Nat} (v9 : Vals9 n vs) (hn : n ≤ 24) : Shows (lineD vs) 960 ∧ (lineD vs).depth ≤ 9 := by
  refine ⟨shows_line (fun x hx => ?_) ?_, ?_⟩
  · have := v9.bd x hx
    omega
  · have := v9.len
    omega
  · rw [depth_line]
    decide
theorem eqvL (l : List Int) : PyData.eqv (lineD l) (lineD l) = true := by
  show PyData.eqv (.tuple (l.map PyData.int)) (.tuple (l.map PyData.int)) = true
  rw [ints_eqvT]
  exact decide_eq_true rfl
end KS
namespace KS
open PySem PySem.Spec PyProof.Rows L2 TL
/-! ### texts and programs shown twice -/
mutual
theorem tk_sm : ∀ s : Stp, s.ok → ∀ p ∈ tkS s.tks, ∀ c ∈ tl p, c < 128
  | .w l, h => by
    simp only [Stp.tks]
    intro p hp c hc
    have : p = wS l := List.mem_singleton.mp hp
    subst this
    have hc' : c ∈ (l.map ltr).toArray.toList := hc
    rw [List.toList_toArray] at hc'
    obtain ⟨b, _, rfl⟩ := List.mem_map.mp hc'
    cases b <;> decide
  | .r n b, h => by
    simp only [Stp.ok] at h
    simp only [Stp.tks]
    intro p hp c hc
    have e : tkS (Tk.op :: (tksL b ++ [.cl n])) = Tk.op.str :: (tkS (tksL b) ++ [(Tk.cl n).str]) := by
      show Tk.op.str :: List.map Tk.str (tksL b ++ [.cl n]) = _
      rw [List.map_append]
      rfl
    rw [e] at hp
    rcases List.mem_cons.mp hp with rfl | hp
    · have : tl Tk.op.str = [40] := by decide +kernel
      rw [this] at hc
      rw [List.mem_singleton.mp hc]
      decide
    · rcases List.mem_append.mp hp with hp | hp
      · exact tkL_sm b h.2.2 p hp c hc
      · have : p = (Tk.cl n).str := List.mem_singleton.mp hp
        subst this
        rw [cl_tl (by omega)] at hc
        rcases List.mem_cons.mp hc with z | z
        · rw [z]; decide
        · rcases List.mem_cons.mp z with z | z
          · rw [z]; decide
          · have := numL_digits _ c z
            omega
theorem tkL_sm : ∀ b : List Stp, okL b → ∀ p ∈ tkS (tksL b), ∀ c ∈ tl p, c < 128
  | [], _ => by
    simp only [tksL]
    intro p hp
    cases hp
  | s :: b, h => by
    simp only [okL] at h
    simp only [tksL]
    intro p hp
    have e : tkS (s.tks ++ tksL b) = tkS s.tks ++ tkS (tksL b) := List.map_append
    rw [e] at hp
    rcases List.mem_append.mp hp with hp | hp
    · exact tk_sm s h.1 p hp
    · exact tkL_sm b h.2 p hp
end
theorem mem_joinL : ∀ (L : List (List Nat)) (c : Nat), c ∈ joinL [32] L → c = 32 ∨ ∃ p ∈ L, c ∈ p
  | [], c, h => by cases h
  | [p], c, h => .inr ⟨p, List.mem_singleton.mpr rfl, h⟩
  | p :: q :: r, c, h => by
    have h : c ∈ p ++ ([32] ++ joinL [32] (q :: r)) := h
    rcases List.mem_append.mp h with h | h
    · exact .inr ⟨p, List.mem_cons_self .., h⟩
    · rcases List.mem_append.mp h with h | h
      · exact .inl (List.mem_singleton.mp h)
      · rcases mem_joinL (q :: r) c h with z | ⟨x, hx, z⟩
        · exact .inl z
        · exact .inr ⟨x, List.mem_cons_of_mem _ hx, z⟩
theorem jn_sm (ss : List Stp) (ok : okL ss) : ∀ c ∈ (jn (tkS (tksL ss))).cps.toList, c < 16 ^ 8 := by
  intro c hc
  have hc : c ∈ tl (jn (tkS (tksL ss))) := hc
  rw [tl_jn] at hc
  have : c < 128 := by
    rcases mem_joinL _ c hc with z | ⟨p, hp, z⟩
    · rw [z]; decide
    · obtain ⟨x, hx, rfl⟩ := List.mem_map.mp hp
      exact tkL_sm ss ok x hx c z
  have e : (128 : Nat) < 16 ^ 8 := by decide
  omega
theorem shown_str2 {x : Str} (hc : ∀ c ∈ x.cps.toList, c < 16 ^ 8) (hl : x.length ≤ 50000) :
    PyData.showable (.list [.str x, .str x]) = true ∧ PyData.hasDict (.list [.str x, .str x]) = false ∧ (PyData.list [.str x, .str x]).shown.length ≤ sizeLine ∧ PyData.depth (.list [.str x, .str x]) ≤ 64 := by
  refine ⟨?_, ?_, ?_, ?_⟩
  · simp only [PyData.showable, PyData.showableAll, Bool.and_self]
  · simp only [PyData.hasDict, PyData.hasDictAll, Bool.or_self]
  · have h1 : PyData.leavesShort 160 (.str x) = true := by
      simp only [PyData.leavesShort]
      rw [List.all_eq_true]
      exact fun c h => decide_eq_true (hc c h)
    have hl' : PyData.leavesShort 160 (.list [.str x, .str x]) = true := by
      simp only [PyData.leavesShort, PyData.leavesShortAll, Bool.and_true]
      simp only [PyData.leavesShort] at h1
      rw [h1]
      rfl
    have := PyData.shown_le 160 (by decide) _ hl'
    have w : PyData.weight (.list [.str x, .str x]) = x.length + 1 + (x.length + 1 + 0) := by
      simp only [PyData.weight, PyData.weightAll]
      rfl
    rw [w] at this
    have e : sizeLine = 16777216 := by decide
    rw [e]
    omega
  · simp only [PyData.depth, PyData.depthAll]
    decide
theorem shown_texts (ss : List Stp) (ok : okL ss) (hst : stepsL ss ≤ 60) :
    PyData.showable (.list [.str (jn (tkS (tksL ss))), .str (jn (tkS (tksL ss)))]) = true ∧ PyData.hasDict (.list [.str (jn (tkS (tksL ss))), .str (jn (tkS (tksL ss)))]) = false ∧ (PyData.list [.str (jn (tkS (tksL ss))), .str (jn (tkS (tksL ss)))]).shown.length ≤ sizeLine ∧ PyData.depth (.list [.str (jn (tkS (tksL ss))), .str (jn (tkS (tksL ss)))]) ≤ 64 := by
  refine shown_str2 (jn_sm ss ok) ?_
  have := jn_len (tkS (tksL ss))
  have := wt_tksL ss ok
  omega
theorem shown_progs (ss : List Stp) (ok : okL ss) (hst : stepsL ss ≤ 60) (hn : nestL ss ≤ 6) :
    PyData.showable (.list [.tuple (datL ss), .tuple (datL ss)]) = true ∧ PyData.hasDict (.list [.tuple (datL ss), .tuple (datL ss)]) = false ∧ (PyData.list [.tuple (datL ss), .tuple (datL ss)]).shown.length ≤ sizeLine ∧ PyData.depth (.list [.tuple (datL ss), .tuple (datL ss)]) ≤ 64 := by
  have h3 := datL_shd ss ok
  refine ⟨?_, ?_, ?_, ?_⟩
  · simp only [PyData.showable, PyData.showableAll, h3.show_, Bool.and_self]
  · simp only [PyData.hasDict, PyData.hasDictAll, h3.nod, Bool.or_self]
  · have hl : PyData.leavesShort 160 (.list [.tuple (datL ss), .tuple (datL ss)]) = true := by
      simp only [PyData.leavesShort, PyData.leavesShortAll, h3.short, Bool.and_self]
    have := PyData.shown_le 160 (by decide) _ hl
    have w : PyData.weight (.list [.tuple (datL ss), .tuple (datL ss)]) = PyData.weightAll (datL ss) + 1 + (PyData.weightAll (datL ss) + 1 + 0) := by
      simp only [PyData.weight, PyData.weightAll]
    rw [w] at this
    have a3 := h3.wt
    have e : sizeLine = 16777216 := by decide
    rw [e]
    omega
  · have w : PyData.depth (.list [.tuple (datL ss), .tuple (datL ss)]) ≤ 1 + max (1 + PyData.depthAll (datL ss)) (1 + PyData.depthAll (datL ss)) := by
      simp only [PyData.depth, PyData.depthAll]
      omega
    have a3 := h3.dep
    omega
end KS
namespace KS
open PySem PySem.Spec PyProof.Rows L2 RZ TL
/-- str of a number or of a text -/
def rStrIS : List V → Hp → VK → Prop := fun xs H Q => (∃ i : Int, xs = [.int i] ∧ i.natAbs.log2 < 1920 ∧ Q (.str (toString i)) H) ∨ ∃ a : Str, xs = [.str a] ∧ Q (.str a) H
theorem call_strIS {X : Cx} : CallR X (.type "str") rStrIS := by
  intro pins s σ H xs us Q I r h
  rcases h with h | h
  · exact call_str_int pins s σ H xs us Q I r h
  · exact SkE.call_str_str pins s σ H xs us Q I r h
def spPage (K : PySem.W.Frag) : Sp := fun xs H Q _ => ∃ (a t : Addr) (cs : List Cell) (vs : List Int), xs = [.ref a, .ref t] ∧ PlanT K H a cs ∧ Good cs ∧ cs.length ≤ 24 ∧ SqT K H t (vs.map V.int) ∧ Vals9 cs.length vs ∧ ∀ H', Same H H' → Q (.str (page cs vs)) H'
def spTold25 (K : PySem.W.Frag) : Sp := fun xs H Q _ => ∃ (a t : Addr) (cs : List Cell) (vs : List Int), xs = [.ref a, .ref t] ∧ PlanT K H a cs ∧ Good cs ∧ cs.length ≤ 24 ∧ SqT K H t (vs.map V.int) ∧ Vals9 cs.length vs ∧ ∀ H', Same H H' → Q (.bl true) H'
theorem cells_refs {H : Hp} : ∀ {xs : List V} {cs : List Cell}, CellsT H xs cs → ∃ ps : List Addr, xs = ps.map V.ref ∧ Paired (fun (p : Addr) (k : List L2.Key) => H p = some (.tup (k.map kV))) ps (cs.map keyC) ∧ ps.length = cs.length
  | _, _, .nil => ⟨[], rfl, .nil, rfl⟩
  | _, _, .cons ⟨t, e, h⟩ r => by
    obtain ⟨ps, e1, e2, e3⟩ := cells_refs r
    subst e
    subst e1
    exact ⟨t :: ps, rfl, .cons h e2, congrArg (· + 1) e3⟩
theorem atI_last {xs : List V} {x : V} (h : xs.getLast? = some x) : atI xs (-1) = some x := by
  obtain ⟨ys, rfl⟩ := List.getLast?_eq_some_iff.mp h
  have hl : (ys ++ [x]).length = ys.length + 1 := by rw [List.length_append]; rfl
  unfold atI
  have e : ixN (ys ++ [x]).length (-1) = some ys.length := by
    unfold ixN
    rw [if_neg (by decide), hl]
    rw [if_pos (by omega)]
    congr 1
    omega
  rw [e]
  show (ys ++ [x])[ys.length]? = some x
  rw [List.getElem?_append_right (Nat.le_refl _), Nat.sub_self]
  rfl
theorem dict_all {cs : List Cell} {vs : List Int} (gd : Good cs) : DictT V.int (cs.zip vs) (mergeT [] ((cs.map keyC).zip (vs.map V.int))) := by
  have := dictT_merge (f := V.int) cs vs [] [] DictT.nil (nodup_of_asc gd.asc) (fun z hz => nomatch hz)
  rw [List.nil_append] at this
  exact this
abbrev sPage : Stmt := topS 30
abbrev nPage : List Str := ["_law_spots", "_law_some", "_law_shown", "_law_rows_here", "_law_wide", "_law_high", "_law_spot", "_law_side"]
theorem scPage : FnScope nPage ["_law_spots", "_law_some"] (defScope sPage) := ⟨rfl, rfl, rfl, by decide +kernel, rfl, by decide +kernel, by decide +kernel⟩
abbrev sToldR : Stmt := topS 31
abbrev nToldT : List Str := ["_law_spots", "_law_some", "_law_due", "_law_shown"]
theorem scToldT : FnScope nToldT ["_law_spots", "_law_some"] (defScope sToldR) := ⟨rfl, rfl, rfl, by decide +kernel, rfl, by decide +kernel, by decide +kernel⟩
section
variable {P : Program} {w : World} {K : PySem.W.Frag} {mg : Str → Option Value} {base : Heap}
theorem ok_page {f : Addr} {fd : FuncData} (F : Fun K "_law_page" "_law_page" sPage f fd) (mD : mg "dict" = none) (mz : mg "zip" = none) (mx : mg "max" = none) (mr : mg "range" = none) (mS : mg "str" = none) :
    FnOk P w K mg base CX0 1 f fd ["_law_spots", "_law_some"] (spPage K) := by
  refine F.ok scPage (fun vs H Q E h => ?_) (fun cdv A outer s H vs Q E hr h => ?_)
  · obtain ⟨a, t, cs, vs, rfl, _⟩ := h
    rfl
  · obtain ⟨a, t, cs, vs, rfl, hp, gd, h24, ht, v9, q⟩ := h
    have nd := scPage.nd
    refine ⟨_, pss_cons (ps_asg (pe_tup (pa_cons (pe_dictZip hr.units rfl (by rfl) mD (by rfl) mz (pa_cons (pv 0) (pa_cons (pv 1) pa_nil))) (pa_cons (pe_lst pa_nil) pa_nil))) (pg_tup (by rfl) (pgs_cons (pg_name (i := 2) nd rfl (.inr rfl)) (pgs_cons (pg_name (i := 3) nd rfl (.inl rfl)) pgs_nil))))
      (pss_cons (ps_set (i := 4) nd rfl (.inl rfl) (pe_op op_add pe_int (pe_callB (id := "max") (r := rMax K) (cr_maxK rfl rfl) (by rfl) mx (by decide +kernel) (pa_cons
          (pe_lc (own := [("_law_spot", 6)]) (g := gName 6) (tt := tYes) rfl nd (pi_tup (pv 0)) (blkOk_by (N := nPage) (sc := defScope sPage) (by decide +kernel))
            (fun _ _ _ _ _ => pg_name (i := 6) nd rfl (Or.inl rfl)) (fun _ _ _ _ _ => pts_nil)
            (fun _ _ _ _ _ => pe_ix (r := rIxT K) ix_tup (pv 6) pe_int (fun _ _ => rfl))) pa_nil))))
      (pss_cons (ps_for PassesOwn.never rfl (pi_range1 (by rfl) mr (pa_cons (pe_op op_add (pe_ix ix_tup (pe_ix ix_tup (pv 0) (pe_un un_neg pe_int) (fun _ _ => rfl)) pe_int (fun _ _ => rfl)) pe_int) pa_nil)) (pg_name (i := 5) nd rfl (.inr rfl))
        (pss_one (ps_expr (pe_bm PySem.F.plainAttrs_list PySem.F.slot_list_append PySem.F.type_list_append mt_append (pv 3) (pa_cons
          (pe_m1 PySem.F.slot_str_join PySem.F.type_str_join mt_join pe_str
            (pe_lc (own := [("_law_side", 7)]) (g := gName 7) (tt := tYes) rfl nd (pi_range1 (by rfl) mr (pa_cons (pv 4) pa_nil)) (blkOk_by (N := nPage) (sc := defScope sPage) (by decide +kernel))
              (fun _ _ _ _ _ => pg_name (i := 7) nd rfl (Or.inl rfl)) (fun _ _ _ _ _ => pts_nil)
              (fun _ _ _ _ _ => pe_callTy call_strIS (by rfl) mS (by decide +kernel) (pa_cons (pe_dget2 (Nat.lt_of_le_of_lt (Nat.add_le_add_left (by decide) _) hr.units) (pv 2) (pe_tup (pa_cons (pv 5) (pa_cons (pv 7) pa_nil))) pe_str ⟨rfl, rfl, rfl, rfl⟩) pa_nil)))) pa_nil)))))
      (pss_one (ps_ret (pe_m1 PySem.F.slot_str_join PySem.F.type_str_join mt_join pe_str (pv 3)))))), ?_⟩
    obtain ⟨xs, hx, hc⟩ := hp
    have hxl : xs.length = cs.length := Paired.length hc
    have hvl := v9.len
    have zl : (cs.zip vs).length = cs.length := by rw [List.length_zip, hvl, Nat.min_self]
    have hw := wiN_le gd
    have hh := hiN_le gd
    obtain ⟨ps, ex, pk, pl⟩ := cells_refs hc
    have dt := dict_all (vs := vs) gd
    refine ⟨_, rfl, _, rfl, a, t, ps, cs.map keyC, vs.map V.int, rfl, by rw [← ex]; exact hx, ht, pk, by rw [List.length_map]; omega, fun D nD => ?_⟩
    generalize mergeT [] ((cs.map keyC).zip (vs.map V.int)) = kvs at dt ⊢
    have sD := same_new (o := .dT kvs) nD
    have hD : upd H D (.dT kvs) D = some (.dT kvs) := upd_same
    refine ⟨by show 0 ≤ sizeLine; decide, fun R nR => ?_⟩
    have sR := same_new (o := .lst []) nR
    have hR : upd (upd H D (.dT kvs)) R (.lst []) R = some (.lst []) := upd_same
    have hD := sR _ _ hD
    have s1 := sD.trans sR
    have nRH : H R = none := sD.free nR
    generalize upd (upd H D (.dT kvs)) R (.lst []) = H1 at hR hD s1 ⊢
    clear sD sR
    refine ⟨by show 2 ≤ sizeLine; decide, fun T nT => ?_⟩
    have sT := same_new (o := .tup [.ref D, .ref R]) nT
    have hR := sT _ _ hR
    have hD := sT _ _ hD
    have s2 := s1.trans sT
    refine ⟨T, _, rfl, SqT.of upd_same, rfl, _, _, rfl, _, _, rfl, rfl, ?_⟩
    generalize upd H1 T (.tup [.ref D, .ref R]) = H2 at hR hD s2 ⊢
    clear s1 sT nT
    have hx2 := same_seqT s2 hx
    have hc2 := cellsT_kt (.of_same s2) hc
    -- the width
    refine ⟨_, rfl, a, rfl, ⟨_, hx2⟩, fun D1 nD1 => ?_⟩
    refine lc_tup (K := K) (a := a) (xs := xs) (fun j G' => G' D1 = some (.lst (((cs.take j).map (·.2)).map V.int)) ∧ (∀ b o, b ≠ D1 → H2 b = some o → G' b = some o)) ?_ ?_ ?_ ?_
    · exact ⟨upd_same, fun b o n e => by rw [upd_ne n]; exact e⟩
    · rintro j G' _ ⟨b1, b2⟩
      exact same_seqT (fun b o e => b2 b o (ne_of_none e nD1) e) hx2
    · rintro j x G' hj ⟨b1, b2⟩
      have sG' : Same H2 G' := fun b o e => b2 b o (ne_of_none e nD1) e
      obtain ⟨c, ec, b, rfl, hb⟩ := paired_get hc2 hj
      have jl := (List.getElem?_eq_some_iff.mp ec).1
      refine ⟨rfl, _, rfl, b, _, 1, .int c.2, rfl, rfl, SqT.of (sG' _ _ hb), rfl, ?_⟩
      refine ⟨_, b1, ?_, ?_, fun b o n e => ?_⟩
      · rw [List.length_map, List.length_map, List.length_take]
        exact small64 (by omega)
      · rw [upd_same, List.take_add_one, ec, List.map_append, List.map_append]
        rfl
      · rw [upd_ne n]
        exact b2 b o n e
    rintro G1 ⟨b1, b2⟩
    have sG1 : Same H2 G1 := fun b o e => b2 b o (ne_of_none e nD1) e
    rw [hxl, List.take_length] at b1
    refine ⟨D1, cs.map (·.2), rfl, SqL.of b1, ?_, fun m hm hle => ?_⟩
    · rw [List.length_map]
      exact List.length_pos_iff.mpr gd.ne
    have m0 : 0 ≤ m := by
      obtain ⟨c, hc', rfl⟩ := List.mem_map.mp hm
      have := gd.grid c hc'
      unfold InGrid at this
      show 0 ≤ c.2
      omega
    have em : 1 + m = ((wiN cs : Nat) : Int) := by
      have := topI_is hm m0 hle
      unfold wiN
      rw [this]
      omega
    refine ⟨_, _, rfl, rfl, ?_⟩
    dsimp only []
    rw [em]
    have sA := s2.trans sG1
    have hR := sG1 _ _ hR
    have hD := sG1 _ _ hD
    have hx3 := same_seqT sG1 hx2
    have hc3 := cellsT_kt (.of_same sG1) hc2
    clear b1 b2 hx2 hc2
    -- the last row
    have hne : xs ≠ [] := fun e => gd.ne (List.eq_nil_of_length_eq_zero (by rw [← hxl, e]; rfl))
    obtain ⟨x, hlx⟩ : ∃ x, xs.getLast? = some x := ⟨_, List.getLast?_eq_some_getLast hne⟩
    have hat : atI xs (-1) = some x := atI_last hlx
    obtain ⟨c, hlc, tc, rfl, htc⟩ : ∃ c, cs.getLast? = some c ∧ CellT G1 x c := by
      rw [List.getLast?_eq_getElem?] at hlx
      obtain ⟨c, e1, e2⟩ := paired_get hc3 hlx
      rw [hxl] at e1
      exact ⟨c, by rw [List.getLast?_eq_getElem?]; exact e1, e2⟩
    have eh := last_row gd hlc
    have hcm : c ∈ cs := List.mem_of_getLast? hlc
    have c0 := (gd.grid c hcm).1
    refine ⟨_, rfl, _, rfl, a, xs, -1, .ref tc, rfl, rfl, hx3, hat, tc, _, 0, .int c.1, rfl, rfl, SqT.of htc, rfl, _, _, rfl, rfl, ?_⟩
    have eh' : c.1 + 1 = ((hiN cs : Nat) : Int) := by omega
    have eN : (c.1 + 1).toNat = hiN cs := by omega
    refine ⟨c.1 + 1, rfl, by omega, by omega, for_range (lo := 0) (n := (c.1 + 1).toNat) (fun i σ G => ∃ y5 : Option V, σ = [some (.ref a), some (.ref t), some (.ref D), some (.ref R), some (.int ((wiN cs : Nat) : Int)), y5, none, none] ∧
      (∀ b o, b ≠ R → G1 b = some o → G b = some o) ∧ G R = some (.lst (((List.range i).map fun r => jn (rowW cs vs r)).map V.str))) ?_ ?_ ?_⟩
    · exact ⟨none, rfl, fun b o _ e => e, hR⟩
    · rintro i σ G hi ⟨y5, rfl, kG, hRG⟩
      rw [eN] at hi
      have neDR : D ≠ R := fun e => by
        rw [e, hR] at hD
        cases hD
      have hDG := kG _ _ neDR hD
      refine ⟨_, rfl, .inl ⟨rfl, _, SqL.of hRG⟩, ⟨_, rfl⟩, _, rfl, ((wiN cs : Nat) : Int), rfl, by omega, by omega, fun D3 nD3 => ?_⟩
      refine lc_range (lo := 0) (n := wiN cs) (fun k J3 => J3 D3 = some (.lst (((List.range k).map fun z => wdAt (cs.zip vs) ((i : Int), ((z : Nat) : Int))).map V.str)) ∧ (∀ b o, b ≠ D3 → G b = some o → J3 b = some o)) ?_ ?_ ?_
      · exact ⟨upd_same, fun b o n e => by rw [upd_ne n]; exact e⟩
      · rintro k J3 hk ⟨d1, d2⟩
        have sJ3 : Same G J3 := fun b o e => d2 b o (ne_of_none e nD3) e
        have dD := sJ3 _ _ hDG
        refine ⟨rfl, _, rfl, D, rfl, .inr ⟨kvs, .inl dD⟩, _, rfl, _, rfl, by show 2 ≤ sizeLine; decide, fun T nT => ?_⟩
        have sT := same_new (o := .tup [.int (0 + (i : Int)), .int (0 + (k : Int))]) nT
        refine ⟨_, DGet.t (k := keyC ((i : Int), (k : Int))) (sT _ _ dD) (by
          rw [upd_same, Int.zero_add, Int.zero_add]
          rfl), ?_⟩
        rw [dt.2]
        have fin : ∀ ws, ws = wdAt (cs.zip vs) ((i : Int), (k : Int)) → ∃ acc : List V, upd J3 T (.tup [.int (0 + (i : Int)), .int (0 + (k : Int))]) D3 = some (.lst acc) ∧ acc.length < sizeLine ∧
            (upd (upd J3 T (.tup [.int (0 + (i : Int)), .int (0 + (k : Int))])) D3 (.lst (acc ++ [.str ws])) D3 = some (.lst (((List.range (k + 1)).map fun z => wdAt (cs.zip vs) ((i : Int), ((z : Nat) : Int))).map V.str)) ∧ (∀ b o, b ≠ D3 → G b = some o → upd (upd J3 T (.tup [.int (0 + (i : Int)), .int (0 + (k : Int))])) D3 (.lst (acc ++ [.str ws])) b = some o)) := by
          intro ws e
          refine ⟨_, sT _ _ d1, ?_, ?_, fun b o n e => ?_⟩
          · rw [List.length_map, List.length_map, List.length_range]
            exact small64 (by omega)
          · rw [upd_same, List.range_succ, List.map_append, List.map_append, e]
            rfl
          · rw [upd_ne n]
            exact sT _ _ (d2 b o n e)
        cases e : atC (cs.zip vs) ((i : Int), (k : Int)) with
        | none => exact .inr ⟨_, rfl, fin _ (by unfold wdAt; rw [e]; rfl)⟩
        | some v =>
          have bd := zip_vals v9 _ (atC_mem e)
          exact .inl ⟨v, rfl, log4 bd.1 bd.2, fin _ (by unfold wdAt; rw [e]; rfl)⟩
      · rintro J3 ⟨d1, d2⟩
        have sJ3 : Same G J3 := fun b o e => d2 b o (ne_of_none e nD3) e
        have wt := row_wt gd v9 i
        refine ⟨_, D3, rowW cs vs i, rfl, rfl, .inl (SqL.of d1), ?_, ?_⟩
        · have e6 : (" " : Str).length = 1 := by decide +kernel
          rw [e6, Nat.mul_one]
          exact Nat.le_trans wt (by decide)
        refine ⟨R, _, _, rfl, rfl, sJ3 _ _ hRG, ?_, ?_⟩
        · rw [List.length_map, List.length_map, List.length_range]
          exact small64 (by omega)
        refine ⟨_, rfl, fun b o n e => ?_, ?_⟩
        · rw [upd_ne n]
          exact sJ3 _ _ (kG b o n e)
        · rw [upd_same, List.range_succ, List.map_append, List.map_append]
          rfl
    · rintro σ G ⟨y5, rfl, kG, hRG⟩
      rw [eN] at hRG
      refine ⟨⟨_, rfl⟩, _, rfl, _, R, pgR cs vs, rfl, rfl, .inl (SqL.of hRG), ?_, ?_⟩
      · have e6 : ("\n" : Str).length = 1 := by decide +kernel
        rw [e6, Nat.mul_one]
        have w1 : wtS (pgR cs vs) ≤ 41 * hiN cs := pg_wt gd v9 (hiN cs)
        exact Nat.le_trans w1 (by omega)
      · exact q _ fun b o e => kG b o (ne_of_none e nRH) (sA b o e)
end
end KS
namespace KS
open PySem PySem.Spec PyProof.Rows L2 RZ TL
theorem PlanT.dp {K : PySem.W.Frag} {H : Hp} {a : Addr} {cs : List Cell} (h : PlanT K H a cs) : Dp K H (.ref a) (planD cs) := PlanAt.dp h.at
theorem tab_dp {K : PySem.W.Frag} {H : Hp} {T a t : Addr} {cs : List Cell} {vs : List Int} (hT : SqT K H T [.ref a, .ref t]) (hp : PlanT K H a cs) (ht : SqT K H t (vs.map V.int)) : Dp K H (.ref T) (tabD cs vs) :=
  .tup hT (.cons hp.dp (.cons (.tup ht (dp_ints _)) .nil))
theorem tab9 {cs : List Cell} {vs : List Int} (gd : Good cs) (hl : cs.length ≤ 24) (v9 : Vals9 cs.length vs) : Shows (tabD cs vs) 8000 ∧ (tabD cs vs).depth ≤ 9 := by
  have vl := v9.len
  refine ⟨(tab_small (fun c hc => gd.grid c hc) (by omega) v9.small (by omega)).1, ?_⟩
  have h1 := depth_plan cs
  have h2 := depth_line vs
  show (PyData.tuple [planD cs, lineD vs]).depth ≤ 9
  have e : PyData.depth (.tuple [planD cs, lineD vs]) ≤ 1 + max (planD cs).depth (lineD vs).depth := by
    simp only [PyData.depth, PyData.depthAll]
    omega
  omega
section
variable {P : Program} {w : World} {K : PySem.W.Frag} {mg : Str → Option Value} {base : Heap}
theorem ok_told25 {f fW fF fP : Addr} {fd fdW fdF fdP : FuncData} (F : Fun K "_law_told_right" "_law_told_right" sToldR f fd)
    (GW : FnOk P w K mg base CX0 1 fW fdW ["_law_spots", "_law_some"] (spPage K)) (bW : Binds K fdW ["_law_spots", "_law_some"] []) (gW : mg "_law_page" = some (.ref fW)) (kW : PySem.W.keepIn K (.ref fW) = true)
    (GF : FnOk P w K mg base CX0 6 fF fdF ["plan", "filling"] (spFmtT K)) (bF : Binds K fdF ["plan", "filling"] []) (wF : KwBinds fdF ["plan", "filling"] ["filling", "plan"] swap2 swap2) (gF : mg "format_table" = some (.ref fF)) (kF : PySem.W.keepIn K (.ref fF) = true)
    (GP : FnOk P w K mg base CX0 7 fP fdP ["text"] (spRdT K)) (bP : Binds K fdP ["text"] []) (wP : KwBinds fdP ["text"] ["text"] id id) (gP : mg "parse_table" = some (.ref fP)) (kP : PySem.W.keepIn K (.ref fP) = true)
    (mR : mg "repr" = none) : FnG P w K mg base 8 f fd ["_law_spots", "_law_some"] (spTold25 K) := by
  refine okG F scToldT (fun vs H Q E h => ?_) (fun cdv A outer s H vs Q E hr hgd h => ?_)
  · obtain ⟨a, t, cs, vs, rfl, _⟩ := h
    rfl
  · obtain ⟨a, t, cs, vs, rfl, hp, gd, hl, ht, v9, q⟩ := h
    have nd := scToldT.nd
    have hu : (A.deeper (envOfC "_law_told_right" (defScope sToldR) s.heap.objs.size f cdv)).units + 100 < cLine := by
      have := hr.un
      omega
    have hr1 : Room 1 _ := hr.mono (by omega)
    have hr6 : Room 6 _ := hr.mono (by omega)
    refine ⟨_, pss_cons (ps_par (i := 2) (j := 3) (by rfl) nd rfl rfl (by decide) rfl rfl (pa_cons (pe_call GW hr1 (by rfl) gW kW bW .nil pass0 (pa_cons (pv 0) (pa_cons (pv 1) pa_nil)))
        (pa_cons (pe_callB (call_reprD hgd hu) (by rfl) mR (by decide +kernel) (pa_cons (pe_lst (pa_cons (pv 0) (pa_cons (pv 1) pa_nil))) pa_nil)) pa_nil)) (by rfl))
      (pss_cons (ps_if (pt_cmpR op_ne (pe_callB (call_reprD hgd hu) (by rfl) mR (by decide +kernel) (pa_cons (pe_lst (pa_cons (pe_call GF hr6 (by rfl) gF kF bF .nil pass0 (pa_cons (pv 0) (pa_cons (pv 1) pa_nil))) (pa_cons (pe_callKw GF hr6 (by rfl) gF kF wF pass0 (pk_cons (pv 1) (pk_cons (pv 0) pk_nil))) pa_nil))) pa_nil))
        (pe_callB (call_reprD hgd hu) (by rfl) mR (by decide +kernel) (pa_cons (pe_lst (pa_cons (pv 2) (pa_cons (pv 2) pa_nil))) pa_nil)) (nomark _)) (pss_one ps_never) pss_nil)
      (pss_cons (ps_if (pt_cmpR op_ne (pe_callB (call_reprD hgd hu) (by rfl) mR (by decide +kernel) (pa_cons (pe_lst (pa_cons (pe_call GP hr (by rfl) gP kP bP .nil pass0 (pa_cons (pv 2) pa_nil)) (pa_cons (pe_callKw GP hr (by rfl) gP kP wP pass0 (pk_cons (pv 2) pk_nil)) pa_nil))) pa_nil))
        (pe_callB (call_reprD hgd hu) (by rfl) mR (by decide +kernel) (pa_cons (pe_lst (pa_cons (pe_tup (pa_cons (pv 0) (pa_cons (pv 1) pa_nil))) (pa_cons (pe_tup (pa_cons (pv 0) (pa_cons (pv 1) pa_nil))) pa_nil))) pa_nil)) (nomark _)) (pss_one ps_never) pss_nil)
      (pss_one (ps_ret (pe_cmpR op_eq (pe_callB (call_reprD hgd hu) (by rfl) mR (by decide +kernel) (pa_cons (pe_lst (pa_cons (pv 0) (pa_cons (pv 1) pa_nil))) pa_nil)) (pv 3) (nomark _)))))), ?_⟩
    obtain ⟨c1, _⟩ := shows_plan (fun c hc => gd.grid c hc) (show cs.length ≤ 64 by omega)
    have c2 := depth_plan cs
    obtain ⟨v1, v2⟩ := line9 v9 hl
    obtain ⟨t1, t2⟩ := tab9 gd hl v9
    obtain ⟨d1, d2, d3, d4⟩ := shown_two c1 (by omega) v1 v2 (by omega)
    obtain ⟨e1, e2, e3, e4⟩ := shown_two t1 t2 t1 t2 (by omega)
    obtain ⟨g1, g2, g3, g4⟩ := shown_str2 (page_sm v9) (Nat.le_trans (page_len gd v9) (by decide))
    have data : ∀ G, Same H G → DpAll K G [.ref a, .ref t] [planD cs, lineD vs] := fun G sG => .cons (hp.same sG).dp (.cons (.tup (same_seqT sG ht) (dp_ints _)) .nil)
    refine ⟨_, rfl, _, rfl, a, t, cs, vs, rfl, hp, gd, hl, ht, v9, fun H1 s1 => ?_⟩
    refine ⟨_, rfl, _, rfl, by show 2 ≤ sizeLine; decide, fun L nL => ?_⟩
    have sL := same_new (o := .lst [.ref a, .ref t]) nL
    refine ⟨L, .list [planD cs, lineD vs], rfl, .lst (SqL.of upd_same) (data _ (s1.trans sL)), d1, d2, d3, d4, ⟨_, _, rfl, ?_⟩⟩
    have s2 := s1.trans sL
    generalize upd H1 L (.lst [.ref a, .ref t]) = H2 at s2 ⊢
    refine ⟨_, rfl, _, rfl, a, t, cs, vs, rfl, hp.same s2, gd, hl, same_seqT s2 ht, v9, fun H3 s3 => ?_⟩
    have s23 := s2.trans s3
    refine ⟨_, rfl, _, rfl, a, t, cs, vs, rfl, hp.same s23, gd, hl, same_seqT s23 ht, v9, fun H4 s4 => ?_⟩
    have s24 := s23.trans s4
    refine ⟨by show 2 ≤ sizeLine; decide, fun M nM => ?_⟩
    have sM := same_new (o := .lst [.str (page cs vs), .str (page cs vs)]) nM
    refine ⟨M, .list [.str (page cs vs), .str (page cs vs)], rfl, .lst (SqL.of upd_same) (.cons (.str _) (.cons (.str _) .nil)), g1, g2, g3, g4, ?_⟩
    have s5 := s24.trans sM
    generalize upd H4 M (.lst [.str (page cs vs), .str (page cs vs)]) = H5 at s5 ⊢
    refine ⟨_, rfl, _, rfl, by show 2 ≤ sizeLine; decide, fun N nN => ?_⟩
    have sN := same_new (o := .lst [.str (page cs vs), .str (page cs vs)]) nN
    refine ⟨N, .list [.str (page cs vs), .str (page cs vs)], rfl, .lst (SqL.of upd_same) (.cons (.str _) (.cons (.str _) .nil)), g1, g2, g3, g4, rfl, false, ?_, ?_⟩
    · rw [decide_eq_true rfl]
      rfl
    have s6 := s5.trans sN
    generalize upd H5 N (.lst [.str (page cs vs), .str (page cs vs)]) = H6 at s6 ⊢
    refine ⟨_, rfl, cs, vs, rfl, gd, hl, v9, fun H7 T1 a1 b1 s7 q1 q2 q3 => ?_⟩
    refine ⟨_, rfl, cs, vs, rfl, gd, hl, v9, fun H8 T2 a2 b2 s8 r1 r2 r3 => ?_⟩
    refine ⟨by show 2 ≤ sizeLine; decide, fun O nO => ?_⟩
    have sO := same_new (o := .lst [.ref T1, .ref T2]) nO
    have s78 := s8.trans sO
    refine ⟨O, .list [tabD cs vs, tabD cs vs], rfl, .lst (SqL.of upd_same) (.cons (tab_dp (same_seqT s78 q1) (q2.same s78) (same_seqT s78 q3)) (.cons (tab_dp (same_seqT sO r1) (r2.same sO) (same_seqT sO r3)) .nil)), e1, e2, e3, e4, ?_⟩
    have s9 := (s6.trans s7).trans s78
    generalize upd H8 O (.lst [.ref T1, .ref T2]) = H9 at s9 ⊢
    refine ⟨_, rfl, _, rfl, by show 2 ≤ sizeLine; decide, fun T3 n3 => ?_⟩
    have s3' := same_new (o := .tup [.ref a, .ref t]) n3
    have h3 : SqT K (upd H9 T3 (.tup [.ref a, .ref t])) T3 [.ref a, .ref t] := SqT.of upd_same
    have s10 := s9.trans s3'
    generalize upd H9 T3 (.tup [.ref a, .ref t]) = H10 at s10 h3 ⊢
    refine ⟨_, rfl, _, rfl, by show 2 ≤ sizeLine; decide, fun T4 n4 => ?_⟩
    have s4' := same_new (o := .tup [.ref a, .ref t]) n4
    have h4 : SqT K (upd H10 T4 (.tup [.ref a, .ref t])) T4 [.ref a, .ref t] := SqT.of upd_same
    have h3 := same_seqT s4' h3
    have s11 := s10.trans s4'
    generalize upd H10 T4 (.tup [.ref a, .ref t]) = H11 at s11 h3 h4 ⊢
    refine ⟨by show 2 ≤ sizeLine; decide, fun U nU => ?_⟩
    have sU := same_new (o := .lst [.ref T3, .ref T4]) nU
    have s12 := s11.trans sU
    refine ⟨U, .list [tabD cs vs, tabD cs vs], rfl, .lst (SqL.of upd_same) (.cons (tab_dp (same_seqT sU h3) (hp.same s12) (same_seqT s12 ht)) (.cons (tab_dp (same_seqT sU h4) (hp.same s12) (same_seqT s12 ht)) .nil)), e1, e2, e3, e4, rfl, false, ?_, ?_⟩
    · rw [decide_eq_true rfl]
      rfl
    generalize upd H11 U (.lst [.ref T3, .ref T4]) = H12 at s12 ⊢
    refine ⟨_, rfl, _, rfl, by show 2 ≤ sizeLine; decide, fun V1 nV => ?_⟩
    have sV := same_new (o := .lst [.ref a, .ref t]) nV
    refine ⟨V1, .list [planD cs, lineD vs], rfl, .lst (SqL.of upd_same) (data _ (s12.trans sV)), d1, d2, d3, d4, _, rfl, rfl, ?_⟩
    have z := q _ (s12.trans sV)
    have e : ∀ a : V, decide (a = a) = true := fun a => decide_eq_true rfl
    rw [e]
    exact z
end
end KS
namespace KS
open PySem PySem.Spec PyProof.Rows L2
/-! ### programs written out in the text -/
theorem pe_wk {X : Cx} {e : Expr} {t t' : TE} (h : PE X e t) (k : ∀ σ H Q, t' σ H Q → t σ H Q) : PE X e t' := ⟨fun pins s σ H Q I q => h.run pins s σ H Q I (k σ H Q q)⟩
theorem pa_wk {X : Cx} {es : List Expr} {t t' : TA} (h : PA X es t) (k : ∀ σ H Q, t' σ H Q → t σ H Q) : PA X es t' := ⟨fun pos pins s σ H Q I q => h.run pos pins s σ H Q I (k σ H Q q)⟩
def tPg (K : PySem.W.Frag) (ss : List Stp) : TE := fun σ H Q => ∀ H' t, Same H H' → PgA K H' t ss → Q (.ref t) H'
def tSt (K : PySem.W.Frag) (s : Stp) : TE := fun σ H Q => ∀ H' v, Same H H' → StA K H' v s → Q v H'
def tSts (K : PySem.W.Frag) (ss : List Stp) : TA := fun σ H Q => ∀ H' vs, Same H H' → StsA K H' vs ss → Q vs H'
theorem stwG {K : PySem.W.Frag} {H : Hp} {z : Str} (l : List Bool) (e : z = wS l) : StA K H (.str z) (.w l) := by
  rw [e]
  exact .w l
section
variable {X : Cx} {K : PySem.W.Frag}
theorem pl_nil : PA X [] (tSts K []) := pa_wk pa_nil fun σ H Q q => q H [] (Same.refl _) .nil
theorem pl_cons {e : Expr} {es : List Expr} {s : Stp} {ss : List Stp} (h : PE X e (tSt K s)) (r : PA X es (tSts K ss)) (hs : starEach (e :: es) X.env = (false, eval e X.env) :: starEach es X.env := by rfl) : PA X (e :: es) (tSts K (s :: ss)) :=
  pa_wk (pa_cons h r hs) fun σ H Q q H1 v s1 a H2 vs s2 b => q H2 (v :: vs) (s1.trans s2) (.cons (a.kt (.of_same s2)) b)
theorem pl_w {z : Str} {k : Nat} {pos : Pos} (l : List Bool) (h : z = wS l) : PE X (.Constant (.str z) k pos) (tSt K (.w l)) := pe_wk pe_str fun σ H Q q => q H _ (Same.refl _) (stwG l h)
theorem pl_pg {es : List Expr} {k : Nat} {pos : Pos} {ss : List Stp} (r : PA X es (tSts K ss)) (hl : ss.length ≤ 1000) : PE X (.Tuple es k pos) (tPg K ss) :=
  pe_wk (pe_tup r) fun σ H Q q H1 vs s1 a => ⟨by rw [a.len, sizeLine_eq]; omega, fun p np => q _ p (s1.trans (same_new np)) ⟨vs, SqT.of upd_same, a.kt (.of_same (same_new np))⟩⟩
theorem pl_r {en eb : Expr} {k k2 : Nat} {pos p2 : Pos} {n : Int} {b : List Stp} (hn : PE X en (tC (.int n))) (hb : PE X eb (tPg K b))
    (h1 : starEach [.Constant (.str "repeat") k2 p2, en, eb] X.env = (false, eval (.Constant (.str "repeat") k2 p2) X.env) :: starEach [en, eb] X.env := by rfl)
    (h2 : starEach [en, eb] X.env = (false, eval en X.env) :: starEach [eb] X.env := by rfl) (h3 : starEach [eb] X.env = (false, eval eb X.env) :: starEach [] X.env := by rfl) :
    PE X (.Tuple [.Constant (.str "repeat") k2 p2, en, eb] k pos) (tSt K (.r n b)) :=
  pe_wk (pe_tup (pa_cons pe_str (pa_cons hn (pa_cons hb pa_nil h3) h2) h1)) fun σ H Q q H1 t s1 hp => ⟨by show 3 ≤ sizeLine; decide, fun p np => by
    obtain ⟨xs, a1, a2⟩ := hp.kt (.of_same (same_new np))
    exact q _ (.ref p) (s1.trans (same_new np)) (.r (SqT.of upd_same) a1 a2)⟩
theorem pl_30 {k k2 : Nat} {p1 p2 pos : Pos} : PE X (.BinOp (.Constant (.int 10) k p1) .Pow (.Constant (.int 30) k2 p2) pos) (tC (.int (10 ^ 30))) :=
  pe_wk (pe_op op_pow pe_int pe_int) fun σ H Q q => ⟨_, _, rfl, rfl, ⟨by decide, by decide, by decide⟩, by
    have e : (10 : Int) ^ (30 : Int).toNat = 10 ^ 30 := by decide +kernel
    show Q (V.int (10 ^ (30 : Int).toNat)) H
    rw [e]
    exact q⟩
theorem pl_rep {z : Str} {k k2 : Nat} {p1 p2 pos : Pos} (l : List Bool) (n : Nat) (h : z = wS l) (n2 : 2 ≤ n) (n4 : n ≤ 400) (l1 : 1 ≤ l.length) (l4 : l.length ≤ 400) : PE X (.BinOp (.Constant (.str z) k p1) .Mult (.Constant (.int (n : Nat)) k2 p2) pos) (tSt K (.w (List.replicate n l).flatten)) :=
  pe_wk (pe_op op_repW pe_str pe_int) fun σ H Q q => ⟨l, n, by rw [h], rfl, n2, n4, l1, l4, q H _ (Same.refl _) (.w _)⟩
end
theorem StsA.rep {K : PySem.W.Frag} {H : Hp} {vs : List V} {ss : List Stp} (h : StsA K H vs ss) : ∀ n : Nat, StsA K H (List.replicate n vs).flatten (List.replicate n ss).flatten
  | 0 => .nil
  | n + 1 => by
    rw [List.replicate_succ, List.replicate_succ, List.flatten_cons, List.flatten_cons]
    exact h.app (StsA.rep h n)
theorem okL_rep {ss : List Stp} (h : okL ss) : ∀ n : Nat, okL (List.replicate n ss).flatten
  | 0 => trivial
  | n + 1 => by
    rw [List.replicate_succ, List.flatten_cons]
    exact okL_app.mpr ⟨h, okL_rep h n⟩
theorem nestL_rep {ss : List Stp} : ∀ n : Nat, nestL (List.replicate n ss).flatten ≤ nestL ss
  | 0 => Nat.zero_le _
  | n + 1 => by
    rw [List.replicate_succ, List.flatten_cons, nestL_app]
    have := nestL_rep (ss := ss) n
    omega
theorem stepsL_rep {ss : List Stp} : ∀ n : Nat, stepsL (List.replicate n ss).flatten = n * stepsL ss
  | 0 => by rw [Nat.zero_mul]; rfl
  | n + 1 => by
    rw [List.replicate_succ, List.flatten_cons, stepsL_app, stepsL_rep n, Nat.succ_mul, Nat.add_comm]
theorem pl_repT {X : Cx} {et : Expr} {k2 : Nat} {p2 pos : Pos} {ss : List Stp} (n : Nat) (h : PE X et (tPg X.K ss)) (hne : ss ≠ []) (h2 : 2 ≤ n) (h3 : n ≤ 1000) (hl : ss.length ≤ 1000) : PE X (.BinOp et .Mult (.Constant (.int (n : Nat)) k2 p2) pos) (tPg X.K (List.replicate n ss).flatten) :=
  pe_wk (pe_op op_repT h pe_int) fun σ H Q q H1 t s1 hp => by
    obtain ⟨xs, a1, a2⟩ := hp
    refine ⟨t, (n : Nat), xs, rfl, rfl, a1, fun e => hne (by subst e; cases a2; rfl), by omega, by omega, by rw [a2.len]; exact hl, fun p np => ?_⟩
    exact q _ p (s1.trans (same_new np)) ⟨_, SqT.of upd_same, (by rw [Int.toNat_natCast]; exact (a2.rep n).kt (.of_same (same_new np)))⟩
/-! ### lists of programs -/
inductive PgsA (K : PySem.W.Frag) (H : Hp) : List V → List (List Stp) → Prop
  | nil : PgsA K H [] []
  | cons {t : Addr} {ss : List Stp} {vs : List V} {pp : List (List Stp)} : PgA K H t ss → PgsA K H vs pp → PgsA K H (.ref t :: vs) (ss :: pp)
theorem PgsA.kt {K : PySem.W.Frag} {H H' : Hp} (k : KT K H H') : ∀ {vs : List V} {pp : List (List Stp)}, PgsA K H vs pp → PgsA K H' vs pp
  | _, _, .nil => .nil
  | _, _, .cons h1 h2 => .cons (h1.kt k) (PgsA.kt k h2)
theorem PgsA.len {K : PySem.W.Frag} {H : Hp} : ∀ {vs : List V} {pp : List (List Stp)}, PgsA K H vs pp → vs.length = pp.length
  | _, _, .nil => rfl
  | _, _, .cons _ h => congrArg (· + 1) (PgsA.len h)
theorem PgsA.get {K : PySem.W.Frag} {H : Hp} : ∀ {vs : List V} {pp : List (List Stp)}, PgsA K H vs pp → ∀ {i : Nat} {v : V}, vs[i]? = some v → ∃ t ss, v = .ref t ∧ pp[i]? = some ss ∧ PgA K H t ss
  | _, _, .nil, i, v, e => by cases e
  | _, _, .cons h1 h2, 0, v, e => by
    cases e
    exact ⟨_, _, rfl, rfl, h1⟩
  | _, _, .cons h1 h2, i + 1, v, e => PgsA.get h2 e
theorem PgsA.app {K : PySem.W.Frag} {H : Hp} : ∀ {vs ws : List V} {pp qq : List (List Stp)}, PgsA K H vs pp → PgsA K H ws qq → PgsA K H (vs ++ ws) (pp ++ qq)
  | _, _, _, _, .nil, h => h
  | _, _, _, _, .cons h1 h2, h => .cons h1 (PgsA.app h2 h)
end KS
namespace KS
open PySem PySem.Spec PyProof.Rows L2
/-! ### plans written out in the text -/
abbrev PlansT (K : PySem.W.Frag) (H : Hp) : List V → List (List Cell) → Prop := Paired fun v cs => ∃ t, v = .ref t ∧ PlanT K H t cs
theorem plansT_same {K : PySem.W.Frag} {H H' : Hp} (s : Same H H') {vs : List V} {css : List (List Cell)} (h : PlansT K H vs css) : PlansT K H' vs css := Paired.mono (fun _ _ ⟨t, e, p⟩ => ⟨t, e, p.same s⟩) h
def tPl (K : PySem.W.Frag) (cs : List Cell) : TE := fun σ H Q => ∀ H' t, Same H H' → PlanT K H' t cs → Q (.ref t) H'
def tCl (cs : List Cell) : TA := fun σ H Q => ∀ H' vs, Same H H' → CellsT H' vs cs → Q vs H'
def tPls (K : PySem.W.Frag) (css : List (List Cell)) : TA := fun σ H Q => ∀ H' vs, Same H H' → PlansT K H' vs css → Q vs H'
def tPlsL (K : PySem.W.Frag) (css : List (List Cell)) : TE := fun σ H Q => ∀ H' L vs, Same H H' → H' L = some (.lst vs) → H L = none → PlansT K H' vs css → Q (.ref L) H'
section
variable {X : Cx} {K : PySem.W.Frag}
theorem cl_nil : PA X [] (tCl []) := pa_wk pa_nil fun σ H Q q => q H [] (Same.refl _) .nil
theorem cl_cons {ea eb : Expr} {es : List Expr} {k : Nat} {pos : Pos} {i j : Int} {cs : List Cell} (ha : PE X ea (tC (.int i))) (hb : PE X eb (tC (.int j))) (r : PA X es (tCl cs)) (hs : starEach (.Tuple [ea, eb] k pos :: es) X.env = (false, eval (.Tuple [ea, eb] k pos) X.env) :: starEach es X.env := by rfl)
    (h1 : starEach [ea, eb] X.env = (false, eval ea X.env) :: starEach [eb] X.env := by rfl) (h2 : starEach [eb] X.env = (false, eval eb X.env) :: starEach [] X.env := by rfl) : PA X (.Tuple [ea, eb] k pos :: es) (tCl ((i, j) :: cs)) :=
  pa_wk (pa_cons (pe_tup (pa_cons ha (pa_cons hb pa_nil h2) h1)) r hs) fun σ H Q q => ⟨by show 2 ≤ sizeLine; decide, fun T nT H2 vs s2 c => q H2 _ ((same_new nT).trans s2) (.cons ⟨T, rfl, s2 _ _ upd_same⟩ c)⟩
theorem cl_pl {es : List Expr} {k : Nat} {pos : Pos} {cs : List Cell} (r : PA X es (tCl cs)) (hl : cs.length ≤ 64) : PE X (.Tuple es k pos) (tPl K cs) :=
  pe_wk (pe_tup r) fun σ H Q q H1 vs s1 c => ⟨by rw [Paired.length c]; exact Nat.le_of_lt (small64 hl), fun p np => q _ p (s1.trans (same_new np)) ⟨vs, SqT.of upd_same, cellsT_kt (.of_same (same_new np)) c⟩⟩
theorem ls_nil : PA X [] (tPls K []) := pa_wk pa_nil fun σ H Q q => q H [] (Same.refl _) .nil
theorem ls_cons {e : Expr} {es : List Expr} {cs : List Cell} {css : List (List Cell)} (h : PE X e (tPl K cs)) (r : PA X es (tPls K css)) (hs : starEach (e :: es) X.env = (false, eval e X.env) :: starEach es X.env := by rfl) : PA X (e :: es) (tPls K (cs :: css)) :=
  pa_wk (pa_cons h r hs) fun σ H Q q H1 t s1 a H2 vs s2 b => q H2 _ (s1.trans s2) (.cons ⟨t, rfl, a.same s2⟩ b)
theorem ls_list {es : List Expr} {pos : Pos} {css : List (List Cell)} (r : PA X es (tPls K css)) (hl : css.length ≤ 64) : PE X (.List es pos) (tPlsL K css) :=
  pe_wk (pe_lst r) fun σ H Q q H1 vs s1 c => ⟨by rw [Paired.length c]; exact Nat.le_of_lt (small64 hl), fun p np => q _ p vs (s1.trans (same_new np)) upd_same (s1.free np) (plansT_same (same_new np) c)⟩
end
end KS
namespace KS
open PySem PySem.Spec PyProof.Rows L2
abbrev sPlan : Stmt := topS 28
abbrev nPlan : List Str := ["_law_pool_here", "_law_most", "_law_mode", "_law_wide", "_law_high", "_law_top", "_law_left", "_law_every", "_law_step", "_law_low", "_law_far", "_law_side", "_law_spot"]
theorem scPlan : FnScope nPlan ["_law_pool_here", "_law_most"] (defScope sPlan) := ⟨rfl, rfl, rfl, by decide +kernel, rfl, by decide +kernel, by decide +kernel⟩
section
variable {P : Program} {w : World} {K : PySem.W.Frag} {mg : Str → Option Value} {base : Heap}
theorem ok_plan {f fD : Addr} {fd fdD : FuncData} (F : Fun K "_law_plan" "_law_plan" sPlan f fd) (GD : FnOk P w K mg base CX0 1 fD fdD ["_law_pool_here", "_law_most"] spDraw)
    (bD : Binds K fdD ["_law_pool_here", "_law_most"] []) (gD : mg "_law_draw" = some (.ref fD)) (kD : PySem.W.keepIn K (.ref fD) = true)
    (mn : mg "min" = none) (mr : mg "range" = none) (ml : mg "len" = none) (mt : mg "tuple" = none) (ms : mg "sum" = none) :
    FnOk P w K mg base CX0 2 f fd ["_law_pool_here", "_law_most"] (spPlan K) := by
  refine F.ok scPlan (fun vs H Q E h => ?_) (fun cdv A outer s H vs Q E hr h => ?_)
  · obtain ⟨p, m, rfl, _⟩ := h
    rfl
  · obtain ⟨p, m, rfl, po, m0, m1, q⟩ := h
    have nd := scPlan.nd
    refine ⟨_, pss_cons (ps_par (i := 2) (j := 3) (by rfl) nd rfl rfl (by decide) rfl rfl
        (pa_cons (pe_call GD hr (by rfl) gD kD bD .nil pass0 (pa_cons (pv 0) (pa_cons pe_int pa_nil)))
          (pa_cons (pe_op op_add pe_int (pe_call GD hr (by rfl) gD kD bD .nil pass0 (pa_cons (pv 0) (pa_cons (pe_callB (call_min2 rfl) (by rfl) mn (by decide +kernel) (pa_cons pe_int (pa_cons (pv 1) pa_nil))) pa_nil)))) pa_nil)) (by rfl))
      (pss_cons (ps_set (i := 4) nd rfl (.inl rfl) (pe_op op_add pe_int (pe_call GD hr (by rfl) gD kD bD .nil pass0 (pa_cons (pv 0)
          (pa_cons (pe_callB (call_min2 rfl) (by rfl) mn (by decide +kernel) (pa_cons pe_int (pa_cons (pe_op op_fdiv (pv 1) (pv 3)) pa_nil))) pa_nil)))))
      (pss_cons (ps_if (pt_cmpR op_eq (pv 2) pe_int (nomark _)) (pss_one (ps_par (i := 4) (j := 3) (by rfl) nd rfl rfl (by decide) rfl rfl
          (pa_cons (pe_op op_add pe_int (pe_call GD hr (by rfl) gD kD bD .nil pass0 (pa_cons (pv 0) (pa_cons pe_int pa_nil))))
            (pa_cons (pe_op op_add pe_int (pe_call GD hr (by rfl) gD kD bD .nil pass0 (pa_cons (pv 0) (pa_cons pe_int pa_nil)))) pa_nil)) (by rfl))) pss_nil)
      (pss_cons (ps_asg (pe_tup (pa_cons (pe_call GD hr (by rfl) gD kD bD .nil pass0 (pa_cons (pv 0) (pa_cons (pe_op op_sub pe_int (pv 4)) pa_nil)))
            (pa_cons (pe_call GD hr (by rfl) gD kD bD .nil pass0 (pa_cons (pv 0) (pa_cons (pe_op op_sub pe_int (pv 3)) pa_nil))) (pa_cons (pe_lst pa_nil) pa_nil))))
          (pg_tup (by rfl) (pgs_cons (pg_name (i := 5) nd rfl (.inr rfl)) (pgs_cons (pg_name (i := 6) nd rfl (.inr rfl)) (pgs_cons (pg_name (i := 7) nd rfl (.inl rfl)) pgs_nil)))))
      (pss_cons (ps_for PassesOwn.never rfl (pi_range1 (by rfl) mr (pa_cons (pv 4) pa_nil)) (pg_name (i := 8) nd rfl (.inr rfl))
          (pss_one (ps_expr (pe_bm PySem.F.plainAttrs_list PySem.F.slot_list_extend PySem.F.type_list_extend mt_extend (pv 7)
            (pa_cons (pe_lc (own := [("_law_side", 11)]) (g := gName 11) (tt := tYes) rfl nd (pi_range1 (by rfl) mr (pa_cons (pv 3) pa_nil)) (blkOk_by (N := nPlan) (sc := defScope sPlan) (by decide +kernel))
              (fun _ _ _ _ _ => pg_name (i := 11) nd rfl (Or.inl rfl)) (fun _ _ _ _ _ => pts_nil) (fun _ _ _ _ _ => pe_tup (pa_cons (pe_op op_add (pv 5) (pv 8)) (pa_cons (pe_op op_add (pv 6) (pv 11)) pa_nil)))) pa_nil)))))
      (pss_cons (ps_if (pt_cmpR op_eq (pv 2) pe_int (nomark _)) (pss_one (ps_set (i := 7) nd rfl (.inl rfl) (pe_orT
          (pe_lc (own := [("_law_spot", 12)]) (g := gName 12) rfl nd (pi_list (pv 7)) (blkOk_by (N := nPlan) (sc := defScope sPlan) (by decide +kernel))
            (fun _ _ _ _ _ => pg_name (i := 12) nd rfl (Or.inl rfl)) (fun _ _ _ _ _ => pts_one (pt_cmpR op_gt (pe_call GD hr (by rfl) gD kD bD .nil pass0 (pa_cons (pv 0) (pa_cons pe_int pa_nil))) pe_int (nomark _))) (fun _ _ _ _ _ => pv 12)) (pe_one (pv 7))))) pss_nil)
      (pss_cons (ps_if (pt_cmpR op_eq (pv 2) pe_int (nomark _)) (pss_one (ps_set (i := 7) nd rfl (.inl rfl) (pe_orT
          (pe_lc (own := [("_law_spot", 12)]) (g := gName 12) rfl nd (pi_list (pv 7)) (blkOk_by (N := nPlan) (sc := defScope sPlan) (by decide +kernel))
            (fun _ _ _ _ _ => pg_name (i := 12) nd rfl (Or.inl rfl)) (fun _ _ _ _ _ => pts_one (pt_cmpR op_gt (pe_call GD hr (by rfl) gD kD bD .nil pass0 (pa_cons (pv 0) (pa_cons pe_int pa_nil))) pe_int (nomark _))) (fun _ _ _ _ _ => pv 12)) (pe_one (pv 7))))) pss_nil)
      (pss_cons (ps_if (pt_cmpR op_eq (pv 2) pe_int (nomark _)) (pss_cons (ps_set (i := 9) nd rfl (.inr rfl) (pe_op op_add (pe_op op_add (pv 5) (pv 6)) (pe_call GD hr (by rfl) gD kD bD .nil pass0 (pa_cons (pv 0) (pa_cons pe_int pa_nil)))))
          (pss_cons (ps_set (i := 10) nd rfl (.inr rfl) (pe_op op_sub (pe_op op_sub (pe_op op_add (pe_op op_add (pe_op op_add (pv 5) (pv 6)) (pv 4)) (pv 3)) pe_int) (pe_call GD hr (by rfl) gD kD bD .nil pass0 (pa_cons (pv 0) (pa_cons pe_int pa_nil)))))
          (pss_one (ps_set (i := 7) nd rfl (.inl rfl) (pe_orT
          (pe_lc (own := [("_law_spot", 12)]) (g := gName 12) rfl nd (pi_list (pv 7)) (blkOk_by (N := nPlan) (sc := defScope sPlan) (by decide +kernel))
            (fun _ _ _ _ _ => pg_name (i := 12) nd rfl (Or.inl rfl)) (fun _ _ _ _ _ => pts_one (pt_chain op_le op_le (pv 9) (pe_callB (id := "sum") (r := rSumT K) (cr_sumT rfl) (by rfl) ms (by decide +kernel) (pa_cons (pv 12) pa_nil)) (pv 10))) (fun _ _ _ _ _ => pv 12)) (pe_one (pv 7))))))) pss_nil)
      (pss_cons (ps_while PassesOwn.never (pt_cmpR op_gt (pe_callB call_len_seq (by rfl) ml PySem.boot_len (pa_cons (pv 7) pa_nil)) (pv 1) (nomark _))
          (pss_one (ps_expr (pe_bm PySem.F.plainAttrs_list PySem.F.slot_list_pop PySem.F.type_list_pop mt_popAt (pv 7)
            (pa_cons (pe_call GD hr (by rfl) gD kD bD .nil pass0 (pa_cons (pv 0) (pa_cons (pe_callB call_len_seq (by rfl) ml PySem.boot_len (pa_cons (pv 7) pa_nil)) pa_nil))) pa_nil)))))
      (pss_one (ps_ret (pe_callTy call_tuple_of (by rfl) mt (by decide +kernel) (pa_cons (pv 7) pa_nil)))))))))))), ?_⟩
    -- mode, wide
    refine ⟨_, rfl, p, 4, rfl, po, by decide, by decide, fun H1 mode k1 po1 _ _ => ?_⟩
    have mb : 0 < (if m < 8 then m else 8 : Int) ∧ (if m < 8 then m else 8 : Int) ≤ 8 ∧ (if m < 8 then m else 8 : Int) ≤ m := by
      by_cases c : m < 8
      · rw [if_pos c]
        omega
      · rw [if_neg c]
        omega
    refine ⟨_, rfl, _, rfl, 8, m, rfl, p, _, rfl, po1, mb.1, by omega, fun H2 w k2 po2 w0 w1 => ?_⟩
    refine ⟨_, _, rfl, rfl, _, _, rfl, ?_⟩
    -- high
    have qd : 1 ≤ m / (1 + w) := by
      have : (1 : Int) * (1 + w) ≤ m := by omega
      exact (Int.le_ediv_iff_mul_le (by omega)).mpr this
    have hb : 0 < (if m / (1 + w) < 8 then m / (1 + w) else 8 : Int) ∧ (if m / (1 + w) < 8 then m / (1 + w) else 8 : Int) ≤ 8 := by
      by_cases c : m / (1 + w) < 8
      · rw [if_pos c]
        omega
      · rw [if_neg c]
        omega
    refine ⟨_, rfl, _, rfl, _, rfl, _, _, rfl, rfl, ⟨by omega, by omega⟩, 8, _, rfl, p, _, rfl, po2, hb.1, by omega, fun H3 h k3 po3 h0 h1 => ?_⟩
    refine ⟨_, _, rfl, rfl, ?_⟩
    refine par_if (p := p) (m := m) (mode := mode) (wide := 1 + w) (high := 1 + h) po3 ⟨by omega, by omega⟩ ⟨by omega, by omega⟩ (fun wide high H4 k4 po4 hw hh => ?_)
    have kx4 : KeepX p H H4 := ((k1.trans k2).trans k3).trans k4
    -- top, left, every
    refine ⟨_, rfl, _, rfl, _, _, rfl, rfl, p, _, rfl, po4, by omega, by omega, fun H5 top k5 po5 t0 t1 => ?_⟩
    refine ⟨_, rfl, _, rfl, _, _, rfl, rfl, p, _, rfl, po5, by omega, by omega, fun H6 left k6 po6 l0 l1 => ?_⟩
    refine ⟨Nat.zero_le _, fun e ne => ⟨(by show 3 ≤ sizeLine; decide), fun T nT => ?_⟩⟩
    have kx6 : KeepX p H H6 := (kx4.trans k5).trans k6
    have s7 := same_new (o := .lst []) ne
    have s8 := same_new (o := .tup [.int top, .int left, .ref e]) nT
    have po8 := (po6.same s7).same s8
    have he8 := s8 _ _ (show upd H6 e (.lst []) e = _ from upd_same)
    refine ⟨T, _, rfl, SqT.of upd_same, rfl, _, _, rfl, _, _, rfl, _, _, rfl, rfl, ?_⟩
    have nep : e ≠ p := Ne.symm (po6.ne ne)
    have heH : H e = none := by
      cases z : H e with
      | none => rfl
      | some o =>
        have := kx6 e o nep z
        rw [ne] at this
        cases this
    -- the rows
    refine ⟨_, rfl, high, rfl, by omega, by omega, for_range (lo := 0) (n := high.toNat) (fun i σ H' => ∃ (y8 : Option V) (xs : List V) (cs : List Cell),
      σ = [some (.ref p), some (.int m), some (.int mode), some (.int wide), some (.int high), some (.int top), some (.int left), some (.ref e), y8, none, none, none, none] ∧
      KeepX p H H' ∧ PoolO (H' p) ∧ H' e = some (.lst xs) ∧ CellsAt K H' xs cs ∧ cs.Pairwise lt2 ∧ (∀ c ∈ cs, top ≤ c.1 ∧ c.1 < top + i ∧ left ≤ c.2 ∧ c.2 < left + wide) ∧ i ≤ cs.length ∧ cs.length ≤ 8 * i) ?_ ?_ ?_⟩
    · refine ⟨none, [], [], rfl, (kx6.trans (.of_same s7)).trans (.of_same s8), po8, he8, .nil, .nil, (fun c hc => nomatch hc), Nat.le_refl _, Nat.le_refl _⟩
    · rintro i σ H' hi ⟨y8, xs, cs, rfl, kx, po', he, hc, pw, bd, c0, c1⟩
      have hi' : (i : Int) < high := by omega
      have hlen := Paired.length hc
      refine ⟨_, rfl, .inl ⟨rfl, _, SqL.of he⟩, _, rfl, wide, rfl, by omega, by omega, fun d nd2 => ?_⟩
      have ned : e ≠ d := ne_of_none he nd2
      have npd : p ≠ d := po'.ne nd2
      refine lc_range (lo := 0) (n := wide.toNat) (fun j H2 => ∃ acc : List V, H2 d = some (.lst acc) ∧ CellsAt K H2 acc (rowCells (top + i) left j) ∧ (∀ b o, b ≠ d → H' b = some o → H2 b = some o)) ?_ ?_ ?_
      · exact ⟨[], upd_same, .nil, fun b o n z => by rw [upd_ne n]; exact z⟩
      · rintro j H2 hj ⟨acc, a1, a2, a3⟩
        refine ⟨rfl, _, rfl, _, rfl, _, _, rfl, rfl, _, rfl, _, rfl, _, _, rfl, rfl, (by show 2 ≤ sizeLine; decide), fun t nt => ?_⟩
        have ndt : d ≠ t := ne_of_none a1 nt
        have st := same_new (o := .tup [.int (top + (0 + (i : Int))), .int (left + (0 + (j : Int)))]) nt
        have hal : acc.length = j := by
          rw [Paired.length a2, rowCells_len]
        refine ⟨acc, st _ _ a1, small64 (by omega), acc ++ [.ref t], upd_same, ?_, fun b o n z => ?_⟩
        · rw [rowCells_succ]
          refine paired_append (cells_kt ((KT.of_same st).trans (KT.upd (st _ _ a1))) a2) (.cons ⟨t, rfl, SqT.of ?_⟩ .nil)
          rw [upd_ne (Ne.symm ndt), upd_same, Int.zero_add, Int.zero_add]
        · rw [upd_ne n]
          exact st _ _ (a3 b o n z)
      · rintro H2 ⟨acc, a1, a2, a3⟩
        have hw' : (wide.toNat : Int) = wide := Int.toNat_of_nonneg (by omega)
        have hal : acc.length = wide.toNat := by
          rw [Paired.length a2, rowCells_len]
        have kt2 : KT K H' H2 := KT.of_same fun b o z => a3 b o (ne_of_none z nd2) z
        have he2 := a3 _ _ ned he
        refine ⟨e, d, xs, acc, rfl, rfl, he2, a1, by
          rw [sizeLine_eq]
          omega, ?_⟩
        refine ⟨_, xs ++ acc, cs ++ rowCells (top + i) left wide.toNat, rfl, ?_, ?_, upd_same, ?_, ?_, ?_, ?_, ?_⟩
        · intro b o n z
          have nbe : b ≠ e := ne_of_none z heH
          rw [upd_ne nbe]
          have z' := kx b o n z
          exact a3 b o (ne_of_none z' nd2) z'
        · rw [upd_ne (Ne.symm nep)]
          obtain ⟨x1, x2, x3, x4, x5⟩ := po'
          exact ⟨x1, x2, x3, a3 _ _ npd x4, x5⟩
        · exact cells_kt (KT.upd he2) (paired_append (cells_kt kt2 hc) a2)
        · rw [List.pairwise_append]
          refine ⟨pw, rowCells_asc _ _ _, fun x hx y hy => ?_⟩
          have b1 := bd x hx
          have b2 := rowCells_mem hy
          exact .inl (by omega)
        · intro c hc'
          rcases List.mem_append.mp hc' with z | z
          · have := bd c z
            omega
          · have := rowCells_mem z
            omega
        · rw [List.length_append, rowCells_len]
          omega
        · rw [List.length_append, rowCells_len]
          omega
    · rintro σ H' ⟨y8, xs, cs, rfl, kx, po', he, hc, pw, bd, c0, c1⟩
      have hh' : (high.toNat : Int) = high := Int.toNat_of_nonneg (by omega)
      have hst : PlSt K p H m mode wide high top left [some (.ref p), some (.int m), some (.int mode), some (.int wide), some (.int high), some (.int top), some (.int left), some (.ref e), y8, none, none, none, none] H' :=
        ⟨⟨e, xs, cs, y8, none, none, rfl, heH, nep, he, hc, ⟨pw, fun c z => by
          have := bd c z
          exact ⟨by omega, by omega, by omega, by omega⟩, fun z => by
          subst z
          have : high.toNat ≤ 0 := c0
          omega⟩, by omega⟩, kx, po'⟩
      refine fil_if hst (fun t c => draw_test hst (by decide) (by decide) t c) (fun σ1 G1 h1' => ?_)
      refine fil_if h1' (fun t c => draw_test h1' (by decide) (by decide) t c) (fun σ2 G2 h2' => ?_)
      refine fil3_if h2' (fun σ3 G3 h3' => ?_)
      -- while len(every) > most
      refine ⟨fun n σ G => ∃ (e : Addr) (xs : List V) (cs : List Cell) (y8 y9 y10 : Option V),
        σ = [some (.ref p), some (.int m), some (.int mode), some (.int wide), some (.int high), some (.int top), some (.int left), some (.ref e), y8, y9, y10, none, none] ∧
        H e = none ∧ e ≠ p ∧ G e = some (.lst xs) ∧ CellsAt K G xs cs ∧ Good cs ∧ cs.length ≤ 64 ∧ KeepX p H G ∧ PoolO (G p) ∧ n = xs.length, ?_, ?_⟩
      · obtain ⟨⟨e, xs, cs, y8, y9, y10, es, he0, hep, he, hc, gd, hl⟩, kx, po⟩ := h3'
        exact ⟨xs.length, e, xs, cs, y8, y9, y10, es, he0, hep, he, hc, gd, hl, kx, po, rfl⟩
      · rintro n σ4 G4 ⟨e4, xs4, cs4, y8, y9, y10, rfl, he0, hep, he4, hc4, gd4, hl4, kx4, po4', rfl⟩
        have hlen := Paired.length hc4
        refine ⟨_, rfl, e4, xs4, rfl, .inl (SqL.of he4), _, rfl, _, _, rfl, rfl, _, rfl, ite2 (fun c => ?_) (fun c => ?_)⟩
        · have c' : m < (xs4.length : Int) := of_decide_eq_true c
          refine ⟨fun σ' G' => ∃ n', n' < xs4.length ∧ ∃ (e : Addr) (xs : List V) (cs : List Cell) (y8 y9 y10 : Option V),
            σ' = [some (.ref p), some (.int m), some (.int mode), some (.int wide), some (.int high), some (.int top), some (.int left), some (.ref e), y8, y9, y10, none, none] ∧
            H e = none ∧ e ≠ p ∧ G' e = some (.lst xs) ∧ CellsAt K G' xs cs ∧ Good cs ∧ cs.length ≤ 64 ∧ KeepX p H G' ∧ PoolO (G' p) ∧ n' = xs.length, fun σ' G' z => z, ?_⟩
          refine ⟨_, rfl, .inl ⟨rfl, _, SqL.of he4⟩, _, rfl, _, rfl, e4, xs4, rfl, .inl (SqL.of he4), p, _, rfl, po4', by omega, by omega, fun G5 r k5 po5 r0 r1 => ?_⟩
          have hr' : ((r.toNat : Nat) : Int) = r := Int.toNat_of_nonneg r0
          have hlt : r.toNat < xs4.length := by omega
          have he5 := k5 _ _ hep he4
          refine ⟨e4, xs4, r, r.toNat, xs4[r.toNat], rfl, rfl, he5, by omega, by omega, ?_, List.getElem?_eq_getElem hlt, ?_⟩
          · unfold seqIndex?
            have e1 : ¬ r < 0 := by omega
            simp only [if_neg e1]
            rw [if_pos]
            simp only [Bool.and_eq_true, decide_eq_true_eq]
            exact ⟨r0, r1⟩
          · have hel : (xs4.eraseIdx r.toNat).length = xs4.length - 1 := List.length_eraseIdx_of_lt hlt
            have hpe := paired_erase r.toNat hc4
            have hsub := List.eraseIdx_sublist cs4 r.toNat
            refine ⟨(xs4.eraseIdx r.toNat).length, by omega, e4, _, cs4.eraseIdx r.toNat, y8, y9, y10, rfl, he0, hep, upd_same, cells_kt ((KT.of_keepX po4' k5).trans (KT.upd he5)) hpe,
              ⟨gd4.asc.sublist hsub, fun c hc => gd4.grid c (hsub.subset hc), fun z => ?_⟩, Nat.le_trans hsub.length_le hl4, ?_, ?_, rfl⟩
            · have q1 := Paired.length hpe
              rw [z, hel] at q1
              have : xs4.length - 1 = 0 := q1
              omega
            · intro b o n z
              rw [upd_ne (ne_of_none z he0)]
              exact k5 _ _ n (kx4 _ _ n z)
            · rw [upd_ne (Ne.symm hep)]
              exact po5
        · have c' : ¬ m < (xs4.length : Int) := fun z => c (decide_eq_true z)
          refine ⟨_, rfl, e4, xs4, rfl, .inl ⟨SqL.of he4, fun l nl => ?_⟩⟩
          have sl := same_new (o := .tup xs4) nl
          refine q _ l cs4 (kx4.trans (.of_same sl)) (po4'.same sl) ⟨xs4, SqT.of upd_same, cells_kt (.of_same sl) hc4⟩ gd4 (by omega) ?_
          cases z : H l with
          | none => rfl
          | some o =>
            have := kx4 l o (Ne.symm (po4'.ne nl)) z
            rw [nl] at this
            cases this
end
end KS
namespace KS
open PySem PySem.Spec PyProof.Rows L2
section
variable {P : Program} {w : World} {K : PySem.W.Frag} {mg : Str → Option Value} {base : Heap}
theorem ok_planT {f fD : Addr} {fd fdD : FuncData} (F : Fun K "_law_plan" "_law_plan" sPlan f fd) (GD : FnOk P w K mg base CX0 1 fD fdD ["_law_pool_here", "_law_most"] spDraw)
    (bD : Binds K fdD ["_law_pool_here", "_law_most"] []) (gD : mg "_law_draw" = some (.ref fD)) (kD : PySem.W.keepIn K (.ref fD) = true)
    (mn : mg "min" = none) (mr : mg "range" = none) (ml : mg "len" = none) (mt : mg "tuple" = none) (ms : mg "sum" = none) :
    FnOk P w K mg base CX0 2 f fd ["_law_pool_here", "_law_most"] (spPlanT K) := by
  refine F.ok scPlan (fun vs H Q E h => ?_) (fun cdv A outer s H vs Q E hr h => ?_)
  · obtain ⟨p, m, rfl, _⟩ := h
    rfl
  · obtain ⟨p, m, rfl, po, m0, m1, q⟩ := h
    have nd := scPlan.nd
    refine ⟨_, pss_cons (ps_par (i := 2) (j := 3) (by rfl) nd rfl rfl (by decide) rfl rfl
        (pa_cons (pe_call GD hr (by rfl) gD kD bD .nil pass0 (pa_cons (pv 0) (pa_cons pe_int pa_nil)))
          (pa_cons (pe_op op_add pe_int (pe_call GD hr (by rfl) gD kD bD .nil pass0 (pa_cons (pv 0) (pa_cons (pe_callB (call_min2 rfl) (by rfl) mn (by decide +kernel) (pa_cons pe_int (pa_cons (pv 1) pa_nil))) pa_nil)))) pa_nil)) (by rfl))
      (pss_cons (ps_set (i := 4) nd rfl (.inl rfl) (pe_op op_add pe_int (pe_call GD hr (by rfl) gD kD bD .nil pass0 (pa_cons (pv 0)
          (pa_cons (pe_callB (call_min2 rfl) (by rfl) mn (by decide +kernel) (pa_cons pe_int (pa_cons (pe_op op_fdiv (pv 1) (pv 3)) pa_nil))) pa_nil)))))
      (pss_cons (ps_if (pt_cmpR op_eq (pv 2) pe_int (nomark _)) (pss_one (ps_par (i := 4) (j := 3) (by rfl) nd rfl rfl (by decide) rfl rfl
          (pa_cons (pe_op op_add pe_int (pe_call GD hr (by rfl) gD kD bD .nil pass0 (pa_cons (pv 0) (pa_cons pe_int pa_nil))))
            (pa_cons (pe_op op_add pe_int (pe_call GD hr (by rfl) gD kD bD .nil pass0 (pa_cons (pv 0) (pa_cons pe_int pa_nil)))) pa_nil)) (by rfl))) pss_nil)
      (pss_cons (ps_asg (pe_tup (pa_cons (pe_call GD hr (by rfl) gD kD bD .nil pass0 (pa_cons (pv 0) (pa_cons (pe_op op_sub pe_int (pv 4)) pa_nil)))
            (pa_cons (pe_call GD hr (by rfl) gD kD bD .nil pass0 (pa_cons (pv 0) (pa_cons (pe_op op_sub pe_int (pv 3)) pa_nil))) (pa_cons (pe_lst pa_nil) pa_nil))))
          (pg_tup (by rfl) (pgs_cons (pg_name (i := 5) nd rfl (.inr rfl)) (pgs_cons (pg_name (i := 6) nd rfl (.inr rfl)) (pgs_cons (pg_name (i := 7) nd rfl (.inl rfl)) pgs_nil)))))
      (pss_cons (ps_for PassesOwn.never rfl (pi_range1 (by rfl) mr (pa_cons (pv 4) pa_nil)) (pg_name (i := 8) nd rfl (.inr rfl))
          (pss_one (ps_expr (pe_bm PySem.F.plainAttrs_list PySem.F.slot_list_extend PySem.F.type_list_extend mt_extend (pv 7)
            (pa_cons (pe_lc (own := [("_law_side", 11)]) (g := gName 11) (tt := tYes) rfl nd (pi_range1 (by rfl) mr (pa_cons (pv 3) pa_nil)) (blkOk_by (N := nPlan) (sc := defScope sPlan) (by decide +kernel))
              (fun _ _ _ _ _ => pg_name (i := 11) nd rfl (Or.inl rfl)) (fun _ _ _ _ _ => pts_nil) (fun _ _ _ _ _ => pe_tup (pa_cons (pe_op op_add (pv 5) (pv 8)) (pa_cons (pe_op op_add (pv 6) (pv 11)) pa_nil)))) pa_nil)))))
      (pss_cons (ps_if (pt_cmpR op_eq (pv 2) pe_int (nomark _)) (pss_one (ps_set (i := 7) nd rfl (.inl rfl) (pe_orT
          (pe_lc (own := [("_law_spot", 12)]) (g := gName 12) rfl nd (pi_list (pv 7)) (blkOk_by (N := nPlan) (sc := defScope sPlan) (by decide +kernel))
            (fun _ _ _ _ _ => pg_name (i := 12) nd rfl (Or.inl rfl)) (fun _ _ _ _ _ => pts_one (pt_cmpR op_gt (pe_call GD hr (by rfl) gD kD bD .nil pass0 (pa_cons (pv 0) (pa_cons pe_int pa_nil))) pe_int (nomark _))) (fun _ _ _ _ _ => pv 12)) (pe_one (pv 7))))) pss_nil)
      (pss_cons (ps_if (pt_cmpR op_eq (pv 2) pe_int (nomark _)) (pss_one (ps_set (i := 7) nd rfl (.inl rfl) (pe_orT
          (pe_lc (own := [("_law_spot", 12)]) (g := gName 12) rfl nd (pi_list (pv 7)) (blkOk_by (N := nPlan) (sc := defScope sPlan) (by decide +kernel))
            (fun _ _ _ _ _ => pg_name (i := 12) nd rfl (Or.inl rfl)) (fun _ _ _ _ _ => pts_one (pt_cmpR op_gt (pe_call GD hr (by rfl) gD kD bD .nil pass0 (pa_cons (pv 0) (pa_cons pe_int pa_nil))) pe_int (nomark _))) (fun _ _ _ _ _ => pv 12)) (pe_one (pv 7))))) pss_nil)
      (pss_cons (ps_if (pt_cmpR op_eq (pv 2) pe_int (nomark _)) (pss_cons (ps_set (i := 9) nd rfl (.inr rfl) (pe_op op_add (pe_op op_add (pv 5) (pv 6)) (pe_call GD hr (by rfl) gD kD bD .nil pass0 (pa_cons (pv 0) (pa_cons pe_int pa_nil)))))
          (pss_cons (ps_set (i := 10) nd rfl (.inr rfl) (pe_op op_sub (pe_op op_sub (pe_op op_add (pe_op op_add (pe_op op_add (pv 5) (pv 6)) (pv 4)) (pv 3)) pe_int) (pe_call GD hr (by rfl) gD kD bD .nil pass0 (pa_cons (pv 0) (pa_cons pe_int pa_nil)))))
          (pss_one (ps_set (i := 7) nd rfl (.inl rfl) (pe_orT
          (pe_lc (own := [("_law_spot", 12)]) (g := gName 12) rfl nd (pi_list (pv 7)) (blkOk_by (N := nPlan) (sc := defScope sPlan) (by decide +kernel))
            (fun _ _ _ _ _ => pg_name (i := 12) nd rfl (Or.inl rfl)) (fun _ _ _ _ _ => pts_one (pt_chain op_le op_le (pv 9) (pe_callB (id := "sum") (r := rSumT K) (cr_sumT rfl) (by rfl) ms (by decide +kernel) (pa_cons (pv 12) pa_nil)) (pv 10))) (fun _ _ _ _ _ => pv 12)) (pe_one (pv 7))))))) pss_nil)
      (pss_cons (ps_while PassesOwn.never (pt_cmpR op_gt (pe_callB call_len_seq (by rfl) ml PySem.boot_len (pa_cons (pv 7) pa_nil)) (pv 1) (nomark _))
          (pss_one (ps_expr (pe_bm PySem.F.plainAttrs_list PySem.F.slot_list_pop PySem.F.type_list_pop mt_popAt (pv 7)
            (pa_cons (pe_call GD hr (by rfl) gD kD bD .nil pass0 (pa_cons (pv 0) (pa_cons (pe_callB call_len_seq (by rfl) ml PySem.boot_len (pa_cons (pv 7) pa_nil)) pa_nil))) pa_nil)))))
      (pss_one (ps_ret (pe_callTy call_tuple_of (by rfl) mt (by decide +kernel) (pa_cons (pv 7) pa_nil)))))))))))), ?_⟩
    -- mode, wide
    refine ⟨_, rfl, p, 4, rfl, po, by decide, by decide, fun H1 mode k1 po1 _ _ => ?_⟩
    have mb : 0 < (if m < 8 then m else 8 : Int) ∧ (if m < 8 then m else 8 : Int) ≤ 8 ∧ (if m < 8 then m else 8 : Int) ≤ m := by
      by_cases c : m < 8
      · rw [if_pos c]
        omega
      · rw [if_neg c]
        omega
    refine ⟨_, rfl, _, rfl, 8, m, rfl, p, _, rfl, po1, mb.1, by omega, fun H2 w k2 po2 w0 w1 => ?_⟩
    refine ⟨_, _, rfl, rfl, _, _, rfl, ?_⟩
    -- high
    have qd : 1 ≤ m / (1 + w) := by
      have : (1 : Int) * (1 + w) ≤ m := by omega
      exact (Int.le_ediv_iff_mul_le (by omega)).mpr this
    have hb : 0 < (if m / (1 + w) < 8 then m / (1 + w) else 8 : Int) ∧ (if m / (1 + w) < 8 then m / (1 + w) else 8 : Int) ≤ 8 := by
      by_cases c : m / (1 + w) < 8
      · rw [if_pos c]
        omega
      · rw [if_neg c]
        omega
    refine ⟨_, rfl, _, rfl, _, rfl, _, _, rfl, rfl, ⟨by omega, by omega⟩, 8, _, rfl, p, _, rfl, po2, hb.1, by omega, fun H3 h k3 po3 h0 h1 => ?_⟩
    refine ⟨_, _, rfl, rfl, ?_⟩
    refine par_if (p := p) (m := m) (mode := mode) (wide := 1 + w) (high := 1 + h) po3 ⟨by omega, by omega⟩ ⟨by omega, by omega⟩ (fun wide high H4 k4 po4 hw hh => ?_)
    have kx4 : KeepX p H H4 := ((k1.trans k2).trans k3).trans k4
    -- top, left, every
    refine ⟨_, rfl, _, rfl, _, _, rfl, rfl, p, _, rfl, po4, by omega, by omega, fun H5 top k5 po5 t0 t1 => ?_⟩
    refine ⟨_, rfl, _, rfl, _, _, rfl, rfl, p, _, rfl, po5, by omega, by omega, fun H6 left k6 po6 l0 l1 => ?_⟩
    refine ⟨Nat.zero_le _, fun e ne => ⟨(by show 3 ≤ sizeLine; decide), fun T nT => ?_⟩⟩
    have kx6 : KeepX p H H6 := (kx4.trans k5).trans k6
    have s7 := same_new (o := .lst []) ne
    have s8 := same_new (o := .tup [.int top, .int left, .ref e]) nT
    have po8 := (po6.same s7).same s8
    have he8 := s8 _ _ (show upd H6 e (.lst []) e = _ from upd_same)
    refine ⟨T, _, rfl, SqT.of upd_same, rfl, _, _, rfl, _, _, rfl, _, _, rfl, rfl, ?_⟩
    have nep : e ≠ p := Ne.symm (po6.ne ne)
    have heH : H e = none := by
      cases z : H e with
      | none => rfl
      | some o =>
        have := kx6 e o nep z
        rw [ne] at this
        cases this
    -- the rows
    refine ⟨_, rfl, high, rfl, by omega, by omega, for_range (lo := 0) (n := high.toNat) (fun i σ H' => ∃ (y8 : Option V) (xs : List V) (cs : List Cell),
      σ = [some (.ref p), some (.int m), some (.int mode), some (.int wide), some (.int high), some (.int top), some (.int left), some (.ref e), y8, none, none, none, none] ∧
      KeepX p H H' ∧ PoolO (H' p) ∧ H' e = some (.lst xs) ∧ CellsT H' xs cs ∧ cs.Pairwise lt2 ∧ (∀ c ∈ cs, top ≤ c.1 ∧ c.1 < top + i ∧ left ≤ c.2 ∧ c.2 < left + wide) ∧ i ≤ cs.length ∧ cs.length ≤ 8 * i) ?_ ?_ ?_⟩
    · refine ⟨none, [], [], rfl, (kx6.trans (.of_same s7)).trans (.of_same s8), po8, he8, .nil, .nil, (fun c hc => nomatch hc), Nat.le_refl _, Nat.le_refl _⟩
    · rintro i σ H' hi ⟨y8, xs, cs, rfl, kx, po', he, hc, pw, bd, c0, c1⟩
      have hi' : (i : Int) < high := by omega
      have hlen := Paired.length hc
      refine ⟨_, rfl, .inl ⟨rfl, _, SqL.of he⟩, _, rfl, wide, rfl, by omega, by omega, fun d nd2 => ?_⟩
      have ned : e ≠ d := ne_of_none he nd2
      have npd : p ≠ d := po'.ne nd2
      refine lc_range (lo := 0) (n := wide.toNat) (fun j H2 => ∃ acc : List V, H2 d = some (.lst acc) ∧ CellsT H2 acc (rowCells (top + i) left j) ∧ (∀ b o, b ≠ d → H' b = some o → H2 b = some o)) ?_ ?_ ?_
      · exact ⟨[], upd_same, .nil, fun b o n z => by rw [upd_ne n]; exact z⟩
      · rintro j H2 hj ⟨acc, a1, a2, a3⟩
        refine ⟨rfl, _, rfl, _, rfl, _, _, rfl, rfl, _, rfl, _, rfl, _, _, rfl, rfl, (by show 2 ≤ sizeLine; decide), fun t nt => ?_⟩
        have ndt : d ≠ t := ne_of_none a1 nt
        have st := same_new (o := .tup [.int (top + (0 + (i : Int))), .int (left + (0 + (j : Int)))]) nt
        have hal : acc.length = j := by
          rw [Paired.length a2, rowCells_len]
        refine ⟨acc, st _ _ a1, small64 (by omega), acc ++ [.ref t], upd_same, ?_, fun b o n z => ?_⟩
        · rw [rowCells_succ]
          refine paired_append (cellsT_kt ((KTt.of_same st).trans (KTt.upd (st _ _ a1))) a2) (.cons ⟨t, rfl, ?_⟩ .nil)
          rw [upd_ne (Ne.symm ndt), upd_same, Int.zero_add, Int.zero_add]
        · rw [upd_ne n]
          exact st _ _ (a3 b o n z)
      · rintro H2 ⟨acc, a1, a2, a3⟩
        have hw' : (wide.toNat : Int) = wide := Int.toNat_of_nonneg (by omega)
        have hal : acc.length = wide.toNat := by
          rw [Paired.length a2, rowCells_len]
        have kt2 : KTt H' H2 := KTt.of_same fun b o z => a3 b o (ne_of_none z nd2) z
        have he2 := a3 _ _ ned he
        refine ⟨e, d, xs, acc, rfl, rfl, he2, a1, by
          rw [sizeLine_eq]
          omega, ?_⟩
        refine ⟨_, xs ++ acc, cs ++ rowCells (top + i) left wide.toNat, rfl, ?_, ?_, upd_same, ?_, ?_, ?_, ?_, ?_⟩
        · intro b o n z
          have nbe : b ≠ e := ne_of_none z heH
          rw [upd_ne nbe]
          have z' := kx b o n z
          exact a3 b o (ne_of_none z' nd2) z'
        · rw [upd_ne (Ne.symm nep)]
          obtain ⟨x1, x2, x3, x4, x5⟩ := po'
          exact ⟨x1, x2, x3, a3 _ _ npd x4, x5⟩
        · exact cellsT_kt (KTt.upd he2) (paired_append (cellsT_kt kt2 hc) a2)
        · rw [List.pairwise_append]
          refine ⟨pw, rowCells_asc _ _ _, fun x hx y hy => ?_⟩
          have b1 := bd x hx
          have b2 := rowCells_mem hy
          exact .inl (by omega)
        · intro c hc'
          rcases List.mem_append.mp hc' with z | z
          · have := bd c z
            omega
          · have := rowCells_mem z
            omega
        · rw [List.length_append, rowCells_len]
          omega
        · rw [List.length_append, rowCells_len]
          omega
    · rintro σ H' ⟨y8, xs, cs, rfl, kx, po', he, hc, pw, bd, c0, c1⟩
      have hh' : (high.toNat : Int) = high := Int.toNat_of_nonneg (by omega)
      have hst : PlStT K p H m mode wide high top left [some (.ref p), some (.int m), some (.int mode), some (.int wide), some (.int high), some (.int top), some (.int left), some (.ref e), y8, none, none, none, none] H' :=
        ⟨⟨e, xs, cs, y8, none, none, rfl, heH, nep, he, hc, ⟨pw, fun c z => by
          have := bd c z
          exact ⟨by omega, by omega, by omega, by omega⟩, fun z => by
          subst z
          have : high.toNat ≤ 0 := c0
          omega⟩, by omega⟩, kx, po'⟩
      refine filT_if hst (fun t c => drawT_test hst (by decide) (by decide) t c) (fun σ1 G1 h1' => ?_)
      refine filT_if h1' (fun t c => drawT_test h1' (by decide) (by decide) t c) (fun σ2 G2 h2' => ?_)
      refine filT3_if h2' (fun σ3 G3 h3' => ?_)
      -- while len(every) > most
      refine ⟨fun n σ G => ∃ (e : Addr) (xs : List V) (cs : List Cell) (y8 y9 y10 : Option V),
        σ = [some (.ref p), some (.int m), some (.int mode), some (.int wide), some (.int high), some (.int top), some (.int left), some (.ref e), y8, y9, y10, none, none] ∧
        H e = none ∧ e ≠ p ∧ G e = some (.lst xs) ∧ CellsT G xs cs ∧ Good cs ∧ cs.length ≤ 64 ∧ KeepX p H G ∧ PoolO (G p) ∧ n = xs.length, ?_, ?_⟩
      · obtain ⟨⟨e, xs, cs, y8, y9, y10, es, he0, hep, he, hc, gd, hl⟩, kx, po⟩ := h3'
        exact ⟨xs.length, e, xs, cs, y8, y9, y10, es, he0, hep, he, hc, gd, hl, kx, po, rfl⟩
      · rintro n σ4 G4 ⟨e4, xs4, cs4, y8, y9, y10, rfl, he0, hep, he4, hc4, gd4, hl4, kx4, po4', rfl⟩
        have hlen := Paired.length hc4
        refine ⟨_, rfl, e4, xs4, rfl, .inl (SqL.of he4), _, rfl, _, _, rfl, rfl, _, rfl, ite2 (fun c => ?_) (fun c => ?_)⟩
        · have c' : m < (xs4.length : Int) := of_decide_eq_true c
          refine ⟨fun σ' G' => ∃ n', n' < xs4.length ∧ ∃ (e : Addr) (xs : List V) (cs : List Cell) (y8 y9 y10 : Option V),
            σ' = [some (.ref p), some (.int m), some (.int mode), some (.int wide), some (.int high), some (.int top), some (.int left), some (.ref e), y8, y9, y10, none, none] ∧
            H e = none ∧ e ≠ p ∧ G' e = some (.lst xs) ∧ CellsT G' xs cs ∧ Good cs ∧ cs.length ≤ 64 ∧ KeepX p H G' ∧ PoolO (G' p) ∧ n' = xs.length, fun σ' G' z => z, ?_⟩
          refine ⟨_, rfl, .inl ⟨rfl, _, SqL.of he4⟩, _, rfl, _, rfl, e4, xs4, rfl, .inl (SqL.of he4), p, _, rfl, po4', by omega, by omega, fun G5 r k5 po5 r0 r1 => ?_⟩
          have hr' : ((r.toNat : Nat) : Int) = r := Int.toNat_of_nonneg r0
          have hlt : r.toNat < xs4.length := by omega
          have he5 := k5 _ _ hep he4
          refine ⟨e4, xs4, r, r.toNat, xs4[r.toNat], rfl, rfl, he5, by omega, by omega, ?_, List.getElem?_eq_getElem hlt, ?_⟩
          · unfold seqIndex?
            have e1 : ¬ r < 0 := by omega
            simp only [if_neg e1]
            rw [if_pos]
            simp only [Bool.and_eq_true, decide_eq_true_eq]
            exact ⟨r0, r1⟩
          · have hel : (xs4.eraseIdx r.toNat).length = xs4.length - 1 := List.length_eraseIdx_of_lt hlt
            have hpe := paired_erase r.toNat hc4
            have hsub := List.eraseIdx_sublist cs4 r.toNat
            refine ⟨(xs4.eraseIdx r.toNat).length, by omega, e4, _, cs4.eraseIdx r.toNat, y8, y9, y10, rfl, he0, hep, upd_same, cellsT_kt ((KTt.of_keepX po4' k5).trans (KTt.upd he5)) hpe,
              ⟨gd4.asc.sublist hsub, fun c hc => gd4.grid c (hsub.subset hc), fun z => ?_⟩, Nat.le_trans hsub.length_le hl4, ?_, ?_, rfl⟩
            · have q1 := Paired.length hpe
              rw [z, hel] at q1
              have : xs4.length - 1 = 0 := q1
              omega
            · intro b o n z
              rw [upd_ne (ne_of_none z he0)]
              exact k5 _ _ n (kx4 _ _ n z)
            · rw [upd_ne (Ne.symm hep)]
              exact po5
        · have c' : ¬ m < (xs4.length : Int) := fun z => c (decide_eq_true z)
          refine ⟨_, rfl, e4, xs4, rfl, .inl ⟨SqL.of he4, fun l nl => ?_⟩⟩
          have sl := same_new (o := .tup xs4) nl
          refine q _ l cs4 (kx4.trans (.of_same sl)) (po4'.same sl) ⟨xs4, SqT.of upd_same, cellsT_kt (.of_same sl) hc4⟩ gd4 (by omega) ?_
          cases z : H l with
          | none => rfl
          | some o =>
            have := kx4 l o (Ne.symm (po4'.ne nl)) z
            rw [nl] at this
            cases this
end
end KS
namespace KS
open PySem PySem.Spec PyProof.Rows L2
abbrev sValues : Stmt := topS 29
abbrev nValues : List Str := ["_law_pool_here", "_law_size", "_law_mode", "_law_left", "_law_step", "_law_found", "_law_turn", "_law_one"]
theorem scValues : FnScope nValues ["_law_pool_here", "_law_size"] (defScope sValues) := ⟨rfl, rfl, rfl, by decide +kernel, rfl, by decide +kernel, by decide +kernel⟩
section
variable {P : Program} {w : World} {K : PySem.W.Frag} {mg : Str → Option Value} {base : Heap}
theorem ok_values {f fD : Addr} {fd fdD : FuncData} (F : Fun K "_law_values" "_law_values" sValues f fd) (GD : FnOk P w K mg base CX0 1 fD fdD ["_law_pool_here", "_law_most"] spDraw)
    (bD : Binds K fdD ["_law_pool_here", "_law_most"] []) (gD : mg "_law_draw" = some (.ref fD)) (kD : PySem.W.keepIn K (.ref fD) = true)
    (mL : mg "list" = none) (mr : mg "range" = none) (ml : mg "len" = none) (mt : mg "tuple" = none) :
    FnOk P w K mg base CX0 2 f fd ["_law_pool_here", "_law_size"] (spValues K) := by
  refine F.ok scValues (fun vs H Q E h => ?_) (fun cdv A outer s H vs Q E hr h => ?_)
  · obtain ⟨p, m, rfl, _⟩ := h
    rfl
  · obtain ⟨p, n, rfl, po, n0, n1, q⟩ := h
    have nd := scValues.nd
    refine ⟨_, pss_cons (ps_par (i := 2) (j := 3) (by rfl) nd rfl rfl (by decide) rfl rfl
        (pa_cons (pe_call GD hr (by rfl) gD kD bD .nil pass0 (pa_cons (pv 0) (pa_cons pe_int pa_nil)))
          (pa_cons (pe_listRg rfl (by rfl) mL (prg_2 (by rfl) mr pe_int (pe_op op_add (pv 1) pe_int))) pa_nil)) (by rfl))
      (pss_cons (ps_if (pt_cmpR op_eq (pv 2) pe_int (nomark _)) (pss_one (ps_set (i := 3) nd rfl (.inl rfl) (pe_listRg rfl (by rfl) mL (prg_2 (by rfl) mr (pe_op op_sub pe_int (pv 1)) pe_int)))) pss_nil)
      (pss_cons (ps_if (pt_cmpR op_gt (pv 2) pe_int (nomark _)) (pss_cons (ps_set (i := 4) nd rfl (.inr rfl) (pe_op op_add pe_int (pe_call GD hr (by rfl) gD kD bD .nil pass0 (pa_cons (pv 0) (pa_cons (pe_op op_fdiv pe_int (pv 1)) pa_nil)))))
          (pss_one (ps_setLc (i := 3) (own := [("_law_one", 7)]) (g := gName 7) rfl nd rfl rfl (sw_true rfl rfl rfl (by decide +kernel))
            (pi_list (pv 3)) (blkOk_by (N := nValues) (sc := defScope sValues) (by decide +kernel))
            (fun _ _ _ _ _ => pg_name (i := 7) nd rfl (Or.inl rfl)) (fun _ _ _ _ _ => pts_nil) (fun _ _ _ _ _ => pe_op op_mul (pv 4) (pv 7))))) pss_nil)
      (pss_cons (ps_set (i := 5) nd rfl (.inl rfl) (pe_lst pa_nil))
      (pss_cons (ps_for PassesOwn.never rfl (pi_range1 (by rfl) mr (pa_cons (pv 1) pa_nil)) (pg_name (i := 6) nd rfl (.inl rfl))
        (pss_one (ps_expr (pe_bm PySem.F.plainAttrs_list PySem.F.slot_list_append PySem.F.type_list_append mt_append (pv 5)
          (pa_cons (pe_bm PySem.F.plainAttrs_list PySem.F.slot_list_pop PySem.F.type_list_pop mt_popAt (pv 3)
            (pa_cons (pe_call GD hr (by rfl) gD kD bD .nil pass0 (pa_cons (pv 0) (pa_cons (pe_callB call_len_seq (by rfl) ml PySem.boot_len (pa_cons (pv 3) pa_nil)) pa_nil))) pa_nil)) pa_nil)))))
      (pss_one (ps_ret (pe_callTy call_tuple_of (by rfl) mt (by decide +kernel) (pa_cons (pv 5) pa_nil)))))))), ?_⟩
    refine ⟨_, rfl, p, 4, rfl, po, by decide, by decide, fun H1 mode k1 po1 _ _ => ?_⟩
    refine ⟨_, rfl, _, _, rfl, rfl, _, _, rfl, rfl, ⟨by omega, by omega, by omega, by omega, by omega⟩, fun e ne => ?_⟩
    have s2 := same_new (o := .lst (rgV 1 ((n : Int) + 1))) ne
    refine ⟨_, _, rfl, vals_ifs (K := K) (p := p) (e := e) n0 n1 (k1.free po1 ne) (Ne.symm (po1.ne ne)) upd_same (k1.trans (.of_same s2)) (po1.same s2) ?_⟩
    rintro σ G ⟨e, y4, ls, rfl, he0, hep, he, v9, kx, po'⟩
    refine ⟨Nat.zero_le _, fun o no => ?_⟩
    have so := same_new (o := .lst []) no
    have neo : e ≠ o := ne_of_none he no
    have npo : p ≠ o := po'.ne no
    have ho0 : H o = none := kx.free po' no
    refine ⟨_, rfl, (n : Int), rfl, by omega, by omega, for_range (lo := 0) (n := n) (fun i σ G' => ∃ (y6 : Option V) (ls fs : List Int),
      σ = [some (.ref p), some (.int n), some (.int mode), some (.ref e), y4, some (.ref o), y6, none] ∧ KeepX p H G' ∧ PoolO (G' p) ∧ G' e = some (.lst (ls.map V.int)) ∧ G' o = some (.lst (fs.map V.int)) ∧
      fs.length = i ∧ Vals9 n (fs ++ ls)) ?_ ?_ ?_⟩
    · exact ⟨none, ls, [], rfl, kx.trans (.of_same so), po'.same so, so _ _ he, upd_same, rfl, v9⟩
    · rintro i σ G' hi ⟨y6, ls, fs, rfl, kx', po2, he', ho', fl, v9'⟩
      have hlen := v9'.len
      rw [List.length_append] at hlen
      have hll : (ls.map V.int).length = ls.length := List.length_map ..
      refine ⟨_, rfl, .inl ⟨rfl, _, SqL.of ho'⟩, _, rfl, .inl ⟨rfl, _, SqL.of he'⟩, _, rfl, _, rfl, e, _, rfl, .inl (SqL.of he'), p, _, rfl, po2, by omega, by omega, fun G5 r k5 po5 r0 r1 => ?_⟩
      have hlt : r.toNat < ls.length := by omega
      have he5 := k5 _ _ hep he'
      have ho5 := k5 _ _ (Ne.symm npo) ho'
      refine ⟨e, ls.map V.int, r, r.toNat, .int ls[r.toNat], rfl, rfl, he5, by omega, by omega, ?_, ?_, ?_⟩
      · unfold seqIndex?
        have e1 : ¬ r < 0 := by omega
        simp only [if_neg e1]
        rw [if_pos]
        simp only [Bool.and_eq_true, decide_eq_true_eq]
        exact ⟨r0, r1⟩
      · rw [List.getElem?_map, List.getElem?_eq_getElem hlt]
        rfl
      · refine ⟨o, fs.map V.int, _, rfl, rfl, by rw [upd_ne (Ne.symm neo)]; exact ho5, ?_, ?_⟩
        · rw [List.length_map]
          exact small64 (by omega)
        · refine ⟨_, ls.eraseIdx r.toNat, fs ++ [ls[r.toNat]], rfl, ?_, ?_, ?_, ?_, ?_, ?_⟩
          · intro b u nb z
            rw [upd_ne (ne_of_none z ho0), upd_ne (ne_of_none z he0)]
            exact k5 _ _ nb (kx' _ _ nb z)
          · rw [upd_ne npo, upd_ne (Ne.symm hep)]
            exact po5
          · rw [upd_ne neo, upd_same, map_eraseIdx]
          · rw [upd_same, List.map_append]
            rfl
          · rw [List.length_append, fl]
            rfl
          · exact v9'.perm (pick_perm hlt)
    · rintro σ G' ⟨y6, ls, fs, rfl, kx', po2, he', ho', fl, v9'⟩
      have hlen := v9'.len
      rw [List.length_append] at hlen
      have e0 : ls = [] := List.eq_nil_of_length_eq_zero (by omega)
      subst e0
      rw [List.append_nil] at v9'
      refine ⟨_, rfl, o, _, rfl, .inl ⟨SqL.of ho', fun l nl => ?_⟩⟩
      have sl := same_new (o := .tup (fs.map V.int)) nl
      exact q _ l fs (kx'.trans (.of_same sl)) (po2.same sl) (SqT.of upd_same) v9' (kx'.free po2 nl)
end
end KS
namespace KS
open PySem PySem.Spec PyProof.Rows L2 RZ TL
abbrev sLaw : Stmt := topS 32
abbrev nLaw : List Str := ["_law_script", "_law_far", "_law_k", "_law_spots", "_law_pool_here", "_law_turn"]
theorem scLaw : FnScope nLaw ["_law_script"] (defScope sLaw) := ⟨rfl, rfl, rfl, by decide +kernel, rfl, by decide +kernel, by decide +kernel⟩
def fp1 : List Cell := [(0, 0), (0, 1), (1, 1), (2, 0)]
def far7 : List (List Cell) := [[(0, 0)], [(0, 7)], [(7, 0)], [(7, 7)], [(0, 0), (7, 7)], [(0, 7), (7, 0)], [(0, 3), (2, 1), (5, 6)]]
def far10 : List (List Cell) := far7 ++ [rowCells 0 0 8, (List.range 8).map fun k => ((k : Nat), 0), [(2, 2), (2, 4), (4, 2), (4, 4)]]
def goodB (cs : List Cell) : Bool := decide (cs.Pairwise lt2) && cs.all (fun c => decide (0 ≤ c.1) && decide (c.1 ≤ 7) && decide (0 ≤ c.2) && decide (c.2 ≤ 7)) && !cs.isEmpty
theorem goodB_ok {cs : List Cell} (h : goodB cs = true) : Good cs := by
  unfold goodB at h
  simp only [Bool.and_eq_true, decide_eq_true_eq, List.all_eq_true, Bool.not_eq_true', List.isEmpty_eq_false_iff] at h
  obtain ⟨⟨h1, h2⟩, h3⟩ := h
  exact ⟨h1, fun c hc => by
    have := h2 c hc
    unfold InGrid
    omega, h3⟩
theorem far_gd : ∀ cs ∈ far10, Good cs ∧ cs.length ≤ 24 := by
  have h : (far10.all fun cs => goodB cs && decide (cs.length ≤ 24)) = true := by decide +kernel
  intro cs hc
  have := List.all_eq_true.mp h cs hc
  rw [Bool.and_eq_true, decide_eq_true_eq] at this
  exact ⟨goodB_ok this.1, this.2⟩
theorem v9_fix {vs : List Int} {n : Nat} (h : (decide (vs.length = n) && decide vs.Nodup && vs.all fun v => decide (1 ≤ v) && decide (v ≤ 9999)) = true) : Vals9 n vs := by
  simp only [Bool.and_eq_true, decide_eq_true_eq, List.all_eq_true] at h
  exact ⟨h.1.1, h.1.2, h.2⟩
theorem pg1_txt : page fp1 [20, 3, 1, 400] = "20 3\n. 1\n400 ." := by decide +kernel
theorem pg2_txt : page [(1, 2)] [9999] = ". . .\n. . 9999" := by decide +kernel
theorem pg7_txt : page [(0, 0)] [7] = "7" := by decide +kernel
theorem fp1_gd : Good fp1 := goodB_ok (by decide +kernel)
theorem g12 : Good [(1, 2)] := goodB_ok (by decide +kernel)
theorem g00 : Good [(0, 0)] := goodB_ok (by decide +kernel)
theorem tabD_shaped : SeqAt.shaped (tabD [(0, 0)] [7]) = true := by decide +kernel
theorem none_same {H G : Hp} (s : Same H G) {a : Addr} (h : G a = none) : H a = none := by
  cases e : H a with
  | none => rfl
  | some o =>
    rw [s _ _ e] at h
    cases h
section
variable {P : Program} {w : World} {K : PySem.W.Frag} {mg : Str → Option Value} {base : Heap}
theorem ok_law25 {f fC fP fR fG fD fV fF fA : Addr} {fd fdC fdP fdR fdG fdD fdV fdF fdA : FuncData} (F : Fun K "law" "law" sLaw f fd)
    (GC : FnOk P w K mg base CX0 1 fC fdC ["_law_script", "_law_k"] (spCell K)) (bC : Binds K fdC ["_law_script", "_law_k"] []) (gC : mg "_law_cell" = some (.ref fC)) (kC : PySem.W.keepIn K (.ref fC) = true)
    (GP : FnOk P w K mg base CX0 1 fP fdP ["_law_number"] spPool) (bP : Binds K fdP ["_law_number"] []) (gP : mg "_law_pool" = some (.ref fP)) (kP : PySem.W.keepIn K (.ref fP) = true)
    (GR : FnG P w K mg base 8 fR fdR ["_law_spots", "_law_some"] (spTold25 K)) (bR : Binds K fdR ["_law_spots", "_law_some"] []) (gR : mg "_law_told_right" = some (.ref fR)) (kR : PySem.W.keepIn K (.ref fR) = true)
    (GG : FnOk P w K mg base CX0 2 fG fdG ["_law_pool_here", "_law_most"] (spPlanT K)) (bG : Binds K fdG ["_law_pool_here", "_law_most"] []) (gG : mg "_law_plan" = some (.ref fG)) (kG : PySem.W.keepIn K (.ref fG) = true)
    (GD : FnOk P w K mg base CX0 1 fD fdD ["_law_pool_here", "_law_most"] spDraw) (bD : Binds K fdD ["_law_pool_here", "_law_most"] []) (gD : mg "_law_draw" = some (.ref fD)) (kD : PySem.W.keepIn K (.ref fD) = true)
    (GV : FnOk P w K mg base CX0 2 fV fdV ["_law_pool_here", "_law_size"] (spValues K)) (bV : Binds K fdV ["_law_pool_here", "_law_size"] []) (gV : mg "_law_values" = some (.ref fV)) (kV' : PySem.W.keepIn K (.ref fV) = true)
    (GF : FnOk P w K mg base CX0 6 fF fdF ["plan", "filling"] (spFmtT K)) (bF : Binds K fdF ["plan", "filling"] []) (gF : mg "format_table" = some (.ref fF)) (kF : PySem.W.keepIn K (.ref fF) = true)
    (GA : FnOk P w K mg base CX0 7 fA fdA ["text"] (spRdT K)) (bA : Binds K fdA ["text"] []) (gA : mg "parse_table" = some (.ref fA)) (kA : PySem.W.keepIn K (.ref fA) = true)
    (mt : mg "tuple" = none) (mr : mg "range" = none) (mx : mg "max" = none) (mn : mg "min" = none) (ml : mg "len" = none) : FnG P w K mg base 9 f fd ["_law_script"] (spLaw K) := by
  refine okG F scLaw (fun vs H Q E h => ?_) (fun cdv A outer s H vs Q E hr hgd h => ?_)
  · obtain ⟨a, ns, rfl, _⟩ := h
    rfl
  · obtain ⟨a, ns, rfl, hS, hl, q⟩ := h
    have nd := scLaw.nd
    have hr1 : Room 1 _ := hr.mono (by omega)
    have hr2 : Room 2 _ := hr.mono (by omega)
    have hr6 : Room 6 _ := hr.mono (by omega)
    have hr7 : Room 7 _ := hr.mono (by omega)
    refine ⟨_, pss_cons (ps_if (pt_cmpR op_ne (pe_call GF hr6 (by rfl) gF kF bF .nil pass0 (pa_cons (cl_pl (K := K) (cs := fp1) (cl_cons pe_int pe_int (cl_cons pe_int pe_int (cl_cons pe_int pe_int (cl_cons pe_int pe_int cl_nil)))) (by decide)) (pa_cons (pe_tup (pa_cons pe_int (pa_cons pe_int (pa_cons pe_int (pa_cons pe_int pa_nil))))) pa_nil))) pe_str (nomark _)) (pss_one ps_never) pss_nil)
      (pss_cons (ps_if (PW.pt (pw_or (pt_cmpR op_ne (pe_call GF hr6 (by rfl) gF kF bF .nil pass0 (pa_cons (cl_pl (K := K) (cs := [(1, 2)]) (cl_cons pe_int pe_int cl_nil) (by decide)) (pa_cons (pe_tup (pa_cons pe_int pa_nil)) pa_nil))) pe_str (nomark _))
          (pw_or1 (pt_cmpR (op_neD hr.units) (pe_call GA hr7 (by rfl) gA kA bA .nil pass0 (pa_cons pe_str pa_nil)) (pe_tup (pa_cons (cl_pl (K := K) (cs := [(0, 0)]) (cl_cons pe_int pe_int cl_nil) (by decide)) (pa_cons (pe_tup (pa_cons pe_int pa_nil)) pa_nil))) (nomark _))))) (pss_one ps_never) pss_nil)
      (pss_cons (ps_set (i := 1) nd rfl (.inl rfl) (ls_list (K := K) (css := far7) (ls_cons (cl_pl (cl_cons pe_int pe_int cl_nil) (by decide)) (ls_cons (cl_pl (cl_cons pe_int pe_int cl_nil) (by decide)) (ls_cons (cl_pl (cl_cons pe_int pe_int cl_nil) (by decide)) (ls_cons (cl_pl (cl_cons pe_int pe_int cl_nil) (by decide)) (ls_cons (cl_pl (cl_cons pe_int pe_int (cl_cons pe_int pe_int cl_nil)) (by decide)) (ls_cons (cl_pl (cl_cons pe_int pe_int (cl_cons pe_int pe_int cl_nil)) (by decide)) (ls_cons (cl_pl (cl_cons pe_int pe_int (cl_cons pe_int pe_int (cl_cons pe_int pe_int cl_nil))) (by decide)) ls_nil))))))) (by decide)))
      (pss_cons (ps_set (i := 1) nd rfl (.inl rfl) (pe_op op_cat (pv 1) (pe_lst (pa_cons (pe_callTy call_tuple_of (by rfl) mt (by decide +kernel) (pa_cons (pe_lc (own := [("_law_k", 2)]) (g := gName 2) (tt := tYes) rfl nd (pi_range1 (by rfl) mr (pa_cons pe_int pa_nil)) (blkOk_by (N := nLaw) (sc := defScope sLaw) (by decide +kernel))
              (fun _ _ _ _ _ => pg_name (i := 2) nd rfl (Or.inl rfl)) (fun _ _ _ _ _ => pts_nil) (fun _ _ _ _ _ => pe_tup (pa_cons pe_int (pa_cons (pv 2) pa_nil)))) pa_nil))
          (pa_cons (pe_callTy call_tuple_of (by rfl) mt (by decide +kernel) (pa_cons (pe_lc (own := [("_law_k", 2)]) (g := gName 2) (tt := tYes) rfl nd (pi_range1 (by rfl) mr (pa_cons pe_int pa_nil)) (blkOk_by (N := nLaw) (sc := defScope sLaw) (by decide +kernel))
              (fun _ _ _ _ _ => pg_name (i := 2) nd rfl (Or.inl rfl)) (fun _ _ _ _ _ => pts_nil) (fun _ _ _ _ _ => pe_tup (pa_cons (pv 2) (pa_cons pe_int pa_nil)))) pa_nil))
          (pa_cons (cl_pl (K := K) (cs := [(2, 2), (2, 4), (4, 2), (4, 4)]) (cl_cons pe_int pe_int (cl_cons pe_int pe_int (cl_cons pe_int pe_int (cl_cons pe_int pe_int cl_nil)))) (by decide)) pa_nil))))))
      (pss_cons (ps_for PassesOwn.never rfl (pi_list (pv 1)) (pg_name (i := 3) nd rfl (.inl rfl))
        (pss_one (ps_if (pt_not (pt_val (pe_callG GR hr hgd (by rfl) gR kR bR (pa_cons (pv 3) (pa_cons (pe_tupRg rfl (by rfl) mt (prg_2 (by rfl) mr pe_int (pe_op op_add (pe_callB call_len_seq (by rfl) ml PySem.boot_len (pa_cons (pv 3) pa_nil)) pe_int))) pa_nil))))) (pss_one ps_never) pss_nil)))
      (pss_cons (ps_for PassesOwn.never rfl (pi_list (pe_lst (pa_cons (pe_ix ix_list (pv 1) pe_int (fun _ _ => rfl)) (pa_cons (pe_ix ix_list (pv 1) pe_int (fun _ _ => rfl)) (pa_cons (pe_ix ix_list (pv 1) pe_int (fun _ _ => rfl)) (pa_cons (pe_ix ix_list (pv 1) pe_int (fun _ _ => rfl)) pa_nil)))))) (pg_name (i := 3) nd rfl (.inl rfl))
        (pss_one (ps_if (pt_not (pt_val (pe_callG GR hr hgd (by rfl) gR kR bR (pa_cons (pv 3) (pa_cons (pe_tup (pa_cons pe_int (pa_cons pe_int pa_nil))) pa_nil))))) (pss_one ps_never) pss_nil)))
      (pss_cons (ps_for PassesOwn.never rfl (pi_range1 (by rfl) mr (pa_cons (pe_callB (call_max2 rfl) (by rfl) mx (by decide +kernel) (pa_cons pe_int (pa_cons (pe_callB (call_min2 rfl) (by rfl) mn (by decide +kernel)
          (pa_cons (pe_callB call_len_seq (by rfl) ml PySem.boot_len (pa_cons (pv 0) pa_nil)) (pa_cons pe_int pa_nil))) pa_nil))) pa_nil)) (pg_name (i := 2) nd rfl (.inl rfl))
        (pss_cons (ps_set (i := 4) nd rfl (.inl rfl) (pe_call GP hr1 (by rfl) gP kP bP .nil pass0 (pa_cons (pe_call GC hr1 (by rfl) gC kC bC .nil pass0 (pa_cons (pv 0) (pa_cons (pv 2) pa_nil))) pa_nil)))
        (pss_one (ps_for PassesOwn.never rfl (pi_range1 (by rfl) mr (pa_cons pe_int pa_nil)) (pg_name (i := 5) nd rfl (.inl rfl))
          (pss_cons (ps_set (i := 3) nd rfl (.inl rfl) (pe_call GG hr2 (by rfl) gG kG bG .nil pass0 (pa_cons (pv 4) (pa_cons (pe_ifExp (pt_cmpR op_eq (pe_call GD hr1 (by rfl) gD kD bD .nil pass0 (pa_cons (pv 4) (pa_cons pe_int pa_nil))) pe_int (nomark _)) pe_int pe_int) pa_nil))))
          (pss_one (ps_if (pt_not (pt_val (pe_callG GR hr hgd (by rfl) gR kR bR (pa_cons (pv 3) (pa_cons (pe_call GV hr2 (by rfl) gV kV' bV .nil pass0 (pa_cons (pv 4) (pa_cons (pe_callB call_len_seq (by rfl) ml PySem.boot_len (pa_cons (pv 3) pa_nil)) pa_nil))) pa_nil))))) (pss_one ps_never) pss_nil)))))))
      (pss_one (ps_ret pe_bl)))))))), ?_⟩
    refine fun H1 t1 s1 p1 => ⟨by show 4 ≤ sizeLine; decide, fun U1 n1 => ?_⟩
    have u1 := same_new (o := .tup [.int 20, .int 3, .int 1, .int 400]) n1
    refine ⟨t1, U1, fp1, [20, 3, 1, 400], rfl, p1.same u1, fp1_gd, by decide, SqT.of upd_same, v9_fix (by decide +kernel), fun H2 s2 => ⟨rfl, false, ?_, ?_⟩⟩
    · rw [pg1_txt, decide_eq_true rfl]
      rfl
    have S2 := (s1.trans u1).trans s2
    clear p1
    refine fun H3 t3 s3 p3 => ⟨by show 1 ≤ sizeLine; decide, fun U3 n3 => ?_⟩
    have u3 := same_new (o := .tup [.int 9999]) n3
    refine ⟨t3, U3, [(1, 2)], [9999], rfl, p3.same u3, g12, by decide, SqT.of upd_same, v9_fix (by decide +kernel), fun H4 s4 => ⟨rfl, false, ?_, ?_⟩⟩
    · rw [pg2_txt, decide_eq_true rfl]
      rfl
    have S4 := ((S2.trans s3).trans u3).trans s4
    clear p3
    refine ⟨[(0, 0)], [7], congrArg (fun z => [V.str z]) pg7_txt.symm, g00, by decide, v9_fix (by decide +kernel), fun H5 T5 a5 b5 s5 q1 q2 q3 => ?_⟩
    refine fun H6 t6 s6 p6 => ⟨by show 1 ≤ sizeLine; decide, fun U6 n6 => ?_⟩
    have u6 := same_new (o := .tup [.int 7]) n6
    have h6 : SqT K (upd H6 U6 (.tup [.int 7])) U6 [.int 7] := SqT.of upd_same
    refine ⟨by show 2 ≤ sizeLine; decide, fun U7 n7 => ?_⟩
    have u7 := same_new (o := .tup [.ref t6, .ref U6]) n7
    have s57 := (s6.trans u6).trans u7
    refine ⟨tabD [(0, 0)] [7], tabD [(0, 0)] [7], tab_dp (same_seqT s57 q1) (q2.same s57) (same_seqT s57 q3), tab_dp (SqT.of upd_same) ((p6.same u6).same u7) (same_seqT u7 h6), tabD_shaped, tabD_shaped, false, rfl, ?_⟩
    have S7 := (S4.trans s5).trans s57
    generalize upd (upd H6 U6 (.tup [.int 7])) U7 (.tup [.ref t6, .ref U6]) = H7 at S7 ⊢
    clear p6 h6 q1 q2 q3
    -- the fixed plans
    refine fun H8 L vs8 s8 hL nL pl => ?_
    have S8 := S7.trans s8
    refine ⟨_, rfl, ?_⟩
    -- item 1
    refine ⟨8, rfl, by decide, by decide, fun D1 nD1 => ?_⟩
    refine lc_range (lo := 0) (n := 8) (fun j G => ∃ acc : List V, G D1 = some (.lst acc) ∧ CellsT G acc (rowCells 0 0 j) ∧ (∀ b o, b ≠ D1 → H8 b = some o → G b = some o)) ?_ ?_ ?_
    · exact ⟨[], upd_same, .nil, fun b o n z => by rw [upd_ne n]; exact z⟩
    · rintro j G hj ⟨acc, a1, a2, a3⟩
      refine ⟨rfl, _, rfl, by show 2 ≤ sizeLine; decide, fun t nt => ?_⟩
      have ndt : D1 ≠ t := ne_of_none a1 nt
      have st := same_new (o := .tup [.int 0, .int (0 + (j : Int))]) nt
      have hal : acc.length = j := by
        rw [Paired.length a2]
        simp [rowCells]
      refine ⟨acc, st _ _ a1, small64 (by omega), acc ++ [.ref t], upd_same, ?_, fun b o n z => ?_⟩
      · have e : (rowCells 0 0 (j + 1)) = (rowCells 0 0 j) ++ [(0, 0 + (j : Int))] := by
          exact rowCells_succ 0 0 j
        rw [e]
        refine paired_append (cellsT_kt ((KTt.of_same st).trans (KTt.upd (st _ _ a1))) a2) (.cons ⟨t, rfl, ?_⟩ .nil)
        rw [upd_ne (Ne.symm ndt), upd_same]
      · rw [upd_ne n]
        exact st _ _ (a3 b o n z)
    rintro G1 ⟨acc1, a1, a2, a3⟩
    have sG1 : Same H8 G1 := fun b o e => a3 b o (ne_of_none e nD1) e
    refine ⟨D1, acc1, rfl, .inl ⟨SqL.of a1, fun T1 nT1 => ?_⟩⟩
    have sT1 := same_new (o := .tup acc1) nT1
    have P1 : PlanT K (upd G1 T1 (.tup acc1)) T1 (rowCells 0 0 8) := ⟨acc1, SqT.of upd_same, cellsT_kt (.of_same sT1) a2⟩
    have x1 := sG1.trans sT1
    generalize upd G1 T1 (.tup acc1) = J1 at P1 x1 ⊢
    clear a1 a2 a3 sG1 sT1
    -- item 2
    refine ⟨8, rfl, by decide, by decide, fun D2 nD2 => ?_⟩
    refine lc_range (lo := 0) (n := 8) (fun j G => ∃ acc : List V, G D2 = some (.lst acc) ∧ CellsT G acc ((List.range j).map fun k => (((k : Nat) : Int), (0 : Int))) ∧ (∀ b o, b ≠ D2 → J1 b = some o → G b = some o)) ?_ ?_ ?_
    · exact ⟨[], upd_same, .nil, fun b o n z => by rw [upd_ne n]; exact z⟩
    · rintro j G hj ⟨acc, a1, a2, a3⟩
      refine ⟨rfl, _, rfl, by show 2 ≤ sizeLine; decide, fun t nt => ?_⟩
      have ndt : D2 ≠ t := ne_of_none a1 nt
      have st := same_new (o := .tup [.int (0 + (j : Int)), .int 0]) nt
      have hal : acc.length = j := by
        rw [Paired.length a2]
        simp [rowCells]
      refine ⟨acc, st _ _ a1, small64 (by omega), acc ++ [.ref t], upd_same, ?_, fun b o n z => ?_⟩
      · have e : ((List.range (j + 1)).map fun k => (((k : Nat) : Int), (0 : Int))) = ((List.range j).map fun k => (((k : Nat) : Int), (0 : Int))) ++ [(((j : Nat) : Int), 0)] := by
          rw [List.range_succ, List.map_append]; rfl
        rw [e]
        refine paired_append (cellsT_kt ((KTt.of_same st).trans (KTt.upd (st _ _ a1))) a2) (.cons ⟨t, rfl, ?_⟩ .nil)
        rw [upd_ne (Ne.symm ndt), upd_same, Int.zero_add]
      · rw [upd_ne n]
        exact st _ _ (a3 b o n z)
    rintro G2 ⟨acc2, a1, a2, a3⟩
    have sG2 : Same J1 G2 := fun b o e => a3 b o (ne_of_none e nD2) e
    refine ⟨D2, acc2, rfl, .inl ⟨SqL.of a1, fun T2 nT2 => ?_⟩⟩
    have sT2 := same_new (o := .tup acc2) nT2
    have P2 : PlanT K (upd G2 T2 (.tup acc2)) T2 ((List.range 8).map fun k => (((k : Nat) : Int), (0 : Int))) := ⟨acc2, SqT.of upd_same, cellsT_kt (.of_same sT2) a2⟩
    have x2 := sG2.trans sT2
    generalize upd G2 T2 (.tup acc2) = J2 at P2 x2 ⊢
    clear a1 a2 a3 sG2 sT2
    refine fun J3 t3' x3 P3 => ⟨by show 3 ≤ sizeLine; decide, fun M nM => ?_⟩
    have xM := same_new (o := .lst [.ref T1, .ref T2, .ref t3']) nM
    have hM : upd J3 M (.lst [.ref T1, .ref T2, .ref t3']) M = some (.lst [.ref T1, .ref T2, .ref t3']) := upd_same
    have y3 := x3.trans xM
    have y2 := x2.trans y3
    have y1 := x1.trans y2
    have p3 : PlansT K (upd J3 M (.lst [.ref T1, .ref T2, .ref t3'])) [.ref T1, .ref T2, .ref t3'] [rowCells 0 0 8, (List.range 8).map fun k => (((k : Nat) : Int), (0 : Int)), [(2, 2), (2, 4), (4, 2), (4, 4)]] :=
      .cons ⟨T1, rfl, P1.same y2⟩ (.cons ⟨T2, rfl, P2.same y3⟩ (.cons ⟨t3', rfl, P3.same xM⟩ .nil))
    generalize upd J3 M (.lst [.ref T1, .ref T2, .ref t3']) = J4 at hM p3 y1 ⊢
    clear y2 y3 xM P1 P2 P3 x1 x2 x3
    have l7 := Paired.length pl
    refine ⟨L, M, _, _, rfl, rfl, y1 _ _ hL, hM, by rw [l7]; show 10 ≤ sizeLine; decide, fun N nN => ?_⟩
    have xN := same_new (o := .lst (vs8 ++ [.ref T1, .ref T2, .ref t3'])) nN
    have hN : upd J4 N (.lst (vs8 ++ [.ref T1, .ref T2, .ref t3'])) N = some (.lst (vs8 ++ [.ref T1, .ref T2, .ref t3'])) := upd_same
    have p10 : PlansT K (upd J4 N (.lst (vs8 ++ [.ref T1, .ref T2, .ref t3']))) (vs8 ++ [.ref T1, .ref T2, .ref t3']) far10 :=
      plansT_same xN (paired_append (plansT_same y1 pl) p3)
    have S9 := S8.trans (y1.trans xN)
    generalize upd J4 N (.lst (vs8 ++ [.ref T1, .ref T2, .ref t3'])) = J5 at hN p10 S9 ⊢
    generalize vs8 ++ [.ref T1, .ref T2, .ref t3'] = ws at hN p10 ⊢
    clear p3 y1 xN pl hL hM
    have l10 : ws.length = 10 := Paired.length p10
    -- each of them
    refine ⟨_, rfl, N, rfl, ⟨_, SqL.of hN⟩, for_list (K := K) (a := N) (xs := ws) (fun i σ G => ∃ y3 : Option V, σ = [some (.ref a), some (.ref N), none, y3, none, none] ∧ Same J5 G) ?_ ?_ ?_ ?_⟩
    · exact ⟨none, rfl, Same.refl _⟩
    · rintro i σ G _ ⟨_, _, sG⟩
      exact SqL.of (sG _ _ hN)
    · rintro i x σ G hi ⟨y3, rfl, sG⟩
      obtain ⟨cs, ec, t, rfl, pt⟩ := paired_get p10 hi
      obtain ⟨gd, cl⟩ := far_gd cs (List.mem_of_getElem? ec)
      have pt := pt.same sG
      obtain ⟨xs, hx, hc⟩ := id pt
      have el := Paired.length hc
      refine ⟨_, rfl, _, rfl, t, xs, rfl, .inr hx, _, _, rfl, rfl, _, _, rfl, rfl, ⟨by omega, by omega, by omega, by omega, by omega⟩, fun u nu => ?_⟩
      have su := same_new (o := .tup (rgV 1 ((xs.length : Int) + 1))) nu
      have v9 := vals9_low (n := xs.length) (by omega)
      rw [el] at v9
      refine ⟨t, u, cs, rgI 1 ((cs.length : Int) + 1), rfl, pt.same su, gd, cl, ?_, v9, fun G2 s2 => ⟨true, rfl, ?_⟩⟩
      · rw [← rgV_ints, el]
        exact SqT.of upd_same
      · exact ⟨_, rfl, (sG.trans su).trans s2⟩
    rintro σ G ⟨y3, rfl, sG⟩
    have hN := sG _ _ hN
    have p10 : PlansT K G ws far10 := plansT_same sG p10
    have S10 := S9.trans sG
    clear sG S9
    -- two of them in turns
    have e4 : ws[4]? = some (ws[4]'(by omega)) := List.getElem?_eq_getElem (by omega)
    have e5 : ws[5]? = some (ws[5]'(by omega)) := List.getElem?_eq_getElem (by omega)
    generalize ws[4]'(by omega) = w4 at e4
    generalize ws[5]'(by omega) = w5 at e5
    obtain ⟨c4, f4, t4, r4, P4⟩ := paired_get p10 e4
    obtain ⟨c5, f5, t5, r5, P5⟩ := paired_get p10 e5
    subst r4 r5
    have f4' : some [((0 : Int), (0 : Int)), (7, 7)] = some c4 := f4
    have f5' : some [((0 : Int), (7 : Int)), (7, 0)] = some c5 := f5
    have g4 := (far_gd c4 (List.mem_of_getElem? f4)).1
    have g5 := (far_gd c5 (List.mem_of_getElem? f5)).1
    have n4 : c4.length = 2 := by cases f4'; rfl
    have n5 : c5.length = 2 := by cases f5'; rfl
    clear f4 f5 f4' f5'
    have a4 : atI ws 4 = some (.ref t4) := atI_nat (j := 4) e4
    have a5 : atI ws 5 = some (.ref t5) := atI_nat (j := 5) e5
    refine ⟨_, rfl, N, ws, 4, .ref t4, rfl, rfl, SqL.of hN, a4, _, rfl, N, ws, 5, .ref t5, rfl, rfl, SqL.of hN, a5, _, rfl, N, ws, 4, .ref t4, rfl, rfl, SqL.of hN, a4, _, rfl, N, ws, 5, .ref t5, rfl, rfl, SqL.of hN, a5, by show 4 ≤ sizeLine; decide, fun O nO => ?_⟩
    have sO := same_new (o := .lst [.ref t4, .ref t5, .ref t4, .ref t5]) nO
    have hO : upd G O (.lst [.ref t4, .ref t5, .ref t4, .ref t5]) O = some (.lst [.ref t4, .ref t5, .ref t4, .ref t5]) := upd_same
    have four : PlansT K (upd G O (.lst [.ref t4, .ref t5, .ref t4, .ref t5])) [.ref t4, .ref t5, .ref t4, .ref t5] [c4, c5, c4, c5] :=
      .cons ⟨t4, rfl, P4.same sO⟩ (.cons ⟨t5, rfl, P5.same sO⟩ (.cons ⟨t4, rfl, P4.same sO⟩ (.cons ⟨t5, rfl, P5.same sO⟩ .nil)))
    have fg : ∀ cs ∈ [c4, c5, c4, c5], Good cs ∧ cs.length = 2 := by
      intro cs hc
      simp only [List.mem_cons, List.not_mem_nil, or_false] at hc
      rcases hc with rfl | rfl | rfl | rfl
      · exact ⟨g4, n4⟩
      · exact ⟨g5, n5⟩
      · exact ⟨g4, n4⟩
      · exact ⟨g5, n5⟩
    have S11 := S10.trans sO
    generalize upd G O (.lst [.ref t4, .ref t5, .ref t4, .ref t5]) = J6 at hO four S11 ⊢
    generalize [V.ref t4, .ref t5, .ref t4, .ref t5] = os at hO four ⊢
    refine ⟨O, rfl, ⟨_, SqL.of hO⟩, for_list (K := K) (a := O) (xs := os) (fun i σ G => ∃ y3 : Option V, σ = [some (.ref a), some (.ref N), none, y3, none, none] ∧ Same J6 G) ?_ ?_ ?_ ?_⟩
    · exact ⟨y3, rfl, Same.refl _⟩
    · rintro i σ G _ ⟨_, _, sG⟩
      exact SqL.of (sG _ _ hO)
    · rintro i x σ G hi ⟨y3, rfl, sG⟩
      obtain ⟨cs, ec, t, rfl, pt⟩ := paired_get four hi
      obtain ⟨gd, cl⟩ := fg cs (List.mem_of_getElem? ec)
      refine ⟨_, rfl, by show 2 ≤ sizeLine; decide, fun u nu => ?_⟩
      have su := same_new (o := .tup [.int 8, .int 5]) nu
      refine ⟨t, u, cs, [8, 5], rfl, (pt.same sG).same su, gd, by omega, SqT.of upd_same, by rw [cl]; exact v9_fix (by decide +kernel), fun G2 s2 => ⟨true, rfl, ?_⟩⟩
      exact ⟨_, rfl, (sG.trans su).trans s2⟩
    rintro σ J7 ⟨y3, rfl, sG⟩
    have sC := S11.trans sG
    clear S10 sO S11 sG hO four
    -- drawn ones
    refine ⟨_, rfl, a, _, rfl, .inl (sC.seq hS), _, _, rfl, _, _, rfl, _, rfl, ?_, ?_, ?_⟩
    · (repeat' split) <;> omega
    · (repeat' split) <;> omega
    generalize hNN : (if (if (6 : Int) < ((ns.map V.int).length : Int) then (6 : Int) else ((ns.map V.int).length : Int)) > 2 then (if (6 : Int) < ((ns.map V.int).length : Int) then (6 : Int) else ((ns.map V.int).length : Int)) else 2) = NN
    have hNb : 0 ≤ NN ∧ NN ≤ 6 := by
      rw [← hNN]
      (repeat' split) <;> omega
    refine for_range (lo := 0) (n := NN.toNat) (fun i σ J => ∃ y2 y3 y4 y5 : Option V, σ = [some (.ref a), some (.ref N), y2, y3, y4, y5] ∧ Same H J) ?_ ?_ ?_
    · exact ⟨none, y3, none, none, rfl, sC⟩
    · rintro i σ J hi ⟨y2, y3, y4, y5, rfl, sJ⟩
      refine ⟨_, rfl, _, rfl, a, ns, i, by
        show [V.ref a, V.int (0 + (i : Int))] = _
        rw [Int.zero_add], sJ.seq hS, by omega, fun J1 n j1 => ⟨n, rfl, fun J2 p j2 np po => ?_⟩⟩
      have sJ2 := (sJ.trans j1).trans j2
      have pH : H p = none := none_same (sJ.trans j1) np
      refine ⟨4, rfl, by decide, by decide, for_range (lo := 0) (n := 4) (fun k σ G' => ∃ y3 y5 : Option V, σ = [some (.ref a), some (.ref N), some (.int (0 + (i : Int))), y3, some (.ref p), y5] ∧ PoolO (G' p) ∧ (∀ b o, b ≠ p → J2 b = some o → G' b = some o)) ?_ ?_ ?_⟩
      · exact ⟨y3, y5, rfl, po, fun b o _ e => e⟩
      · rintro k σ G' hk ⟨y3, y5, rfl, a2, a3⟩
        refine ⟨_, rfl, _, rfl, p, 8, rfl, a2, by decide, by decide, fun G2 r k2 po2 r0 r1 => ?_⟩
        have k2' : KeepX p G' G2 := k2
        refine ⟨rfl, _, rfl, ite2 (fun e => ?_) (fun e => ?_)⟩
        all_goals
          refine ⟨p, _, rfl, po2, by decide, by decide, fun G3 t cs k3 po3 hpl gd hcl _ => ?_⟩
          obtain ⟨xs, hx, hc⟩ := id hpl
          have el := Paired.length hc
          have gz : 1 ≤ cs.length := List.length_pos_iff.mpr gd.ne
          have cl : cs.length ≤ 24 := by omega
          refine ⟨_, rfl, _, rfl, _, rfl, t, xs, rfl, .inr hx, p, xs.length, rfl, po3, by omega, by omega, fun G4 u fs k4 po4 hu v9 _ => ?_⟩
          rw [el] at v9
          refine ⟨t, u, cs, fs, rfl, hpl.keepX po3 k4, gd, cl, hu, v9, fun G5 s5 => ⟨true, rfl, ?_⟩⟩
          refine ⟨_, _, rfl, po4.same s5, fun b o n e => ?_⟩
          exact s5 _ _ (k4 _ _ n (k3 _ _ n (k2' _ _ n (a3 b o n e))))
      · rintro σ G' ⟨y3, y5, rfl, a2, a3⟩
        refine ⟨_, _, _, _, rfl, fun b o e => ?_⟩
        exact a3 b o (ne_of_none e pH) (sJ2 _ _ e)
    · rintro σ J ⟨y2, y3, y4, y5, rfl, sJ⟩
      exact q J
end
end KS
namespace KS
open PySem PySem.Spec PyProof.Rows L2
-- topS
theorem all_mk {l : PySem.W.OpenLaw} {w : World} {K : PySem.W.Frag} {h : Heap} {mg : Str → Option Value} {fa f0 f1 f2 f3 f4 f5 f6 f7 f8 f9 f10 f11 f12 f13 f14 f15 f16 f17 f18 f19 f20 : Addr} (X : K.In h) (G : h.Ns mainGlobals mg) (hfa : mg "law" = some (.ref fa))
    {od0 an0 od1 an1 od2 an2 od3 an3 od4 an4 od5 an5 od6 an6 od7 an7 od8 an8 od9 an9 od10 an10 od11 an11 od12 an12 od13 an13 od14 an14 od15 an15 od16 an16 od17 an17 od18 an18 od19 an19 od20 an20 : Option Addr} {sl0 sl1 sl2 sl3 sl4 sl5 sl6 sl7 sl8 sl9 sl10 sl11 sl12 sl13 sl14 sl15 sl16 sl17 sl18 sl19 sl20 : Array (Option Value)}
    {oc0 kV0 dc0 pm0 cd0 ct0 oc1 kV1 dc1 pm1 cd1 ct1 oc2 kV2 dc2 pm2 cd2 ct2 oc3 kV3 dc3 pm3 cd3 ct3 oc4 kV4 dc4 pm4 cd4 ct4 oc5 kV5 dc5 pm5 cd5 ct5 oc6 kV6 dc6 pm6 cd6 ct6 oc7 kV7 dc7 pm7 cd7 ct7 oc8 kV8 dc8 pm8 cd8 ct8 oc9 kV9 dc9 pm9 cd9 ct9 oc10 kV10 dc10 pm10 cd10 ct10 oc11 kV11 dc11 pm11 cd11 ct11 oc12 kV12 dc12 pm12 cd12 ct12 oc13 kV13 dc13 pm13 cd13 ct13 oc14 kV14 dc14 pm14 cd14 ct14 oc15 kV15 dc15 pm15 cd15 ct15 oc16 kV16 dc16 pm16 cd16 ct16 oc17 kV17 dc17 pm17 cd17 ct17 oc18 kV18 dc18 pm18 cd18 ct18 oc19 kV19 dc19 pm19 cd19 ct19 oc20 kV20 dc20 pm20 cd20 ct20 : Value} {tk0 tk1 tk2 : Tok}
    (a0 : PySem.W.nsIn K mainGlobals "is_whole" = some (some (.ref f0)))
    (l0 : K.lookup f0 = some ⟨oc0, od0, .func (PySem.W.fnOf "is_whole" "is_whole" (defArgs sWhole) (defBody sWhole) (defScope sWhole) .none kV0 dc0 pm0 an0 cd0 ct0), sl0⟩)
    (c0 : PySem.W.codeIn K cd0 "is_whole" = true) (k0 : PySem.W.keepIn K (.ref f0) = true)
    (a1 : PySem.W.nsIn K mainGlobals "is_between" = some (some (.ref f1)))
    (l1 : K.lookup f1 = some ⟨oc1, od1, .func (PySem.W.fnOf "is_between" "is_between" (defArgs sBetween) (defBody sBetween) (defScope sBetween) .none kV1 dc1 pm1 an1 cd1 ct1), sl1⟩)
    (c1 : PySem.W.codeIn K cd1 "is_between" = true) (k1 : PySem.W.keepIn K (.ref f1) = true)
    (a2 : PySem.W.nsIn K mainGlobals "is_place" = some (some (.ref f2)))
    (l2 : K.lookup f2 = some ⟨oc2, od2, .func (PySem.W.fnOf "is_place" "is_place" (defArgs sPlace) (defBody sPlace) (defScope sPlace) .none kV2 dc2 pm2 an2 cd2 ct2), sl2⟩)
    (c2 : PySem.W.codeIn K cd2 "is_place" = true) (k2 : PySem.W.keepIn K (.ref f2) = true)
    (a3 : PySem.W.nsIn K mainGlobals "is_cell" = some (some (.ref f3)))
    (l3 : K.lookup f3 = some ⟨oc3, od3, .func (PySem.W.fnOf "is_cell" "is_cell" (defArgs sIsCell) (defBody sIsCell) (defScope sIsCell) .none kV3 dc3 pm3 an3 cd3 ct3), sl3⟩)
    (c3 : PySem.W.codeIn K cd3 "is_cell" = true) (k3 : PySem.W.keepIn K (.ref f3) = true)
    (a4 : PySem.W.nsIn K mainGlobals "check_plan" = some (some (.ref f4)))
    (l4 : K.lookup f4 = some ⟨oc4, od4, .func (PySem.W.fnOf "check_plan" "check_plan" (defArgs sCheck) (defBody sCheck) (defScope sCheck) .none kV4 dc4 pm4 an4 cd4 ct4), sl4⟩)
    (c4 : PySem.W.codeIn K cd4 "check_plan" = true) (k4 : PySem.W.keepIn K (.ref f4) = true)
    (a5 : PySem.W.nsIn K mainGlobals "is_plan" = some (some (.ref f5)))
    (l5 : K.lookup f5 = some ⟨oc5, od5, .func (PySem.W.fnOf "is_plan" "is_plan" (defArgs sIsPlan) (defBody sIsPlan) (defScope sIsPlan) .none kV5 dc5 pm5 an5 cd5 ct5), sl5⟩)
    (c5 : PySem.W.codeIn K cd5 "is_plan" = true) (k5 : PySem.W.keepIn K (.ref f5) = true)
    (a6 : PySem.W.nsIn K mainGlobals "first_fault" = some (some (.ref f6)))
    (l6 : K.lookup f6 = some ⟨oc6, od6, .func (PySem.W.fnOf "first_fault" "first_fault" (defArgs sFF) (defBody sFF) (defScope sFF) .none kV6 dc6 pm6 an6 cd6 ct6), sl6⟩)
    (c6 : PySem.W.codeIn K cd6 "first_fault" = true) (k6 : PySem.W.keepIn K (.ref f6) = true)
    (a7 : PySem.W.nsIn K mainGlobals "check_filling" = some (some (.ref f7)))
    (l7 : K.lookup f7 = some ⟨oc7, od7, .func (PySem.W.fnOf "check_filling" "check_filling" (defArgs sCheckF) (defBody sCheckF) (defScope sCheckF) .none kV7 dc7 pm7 an7 cd7 ct7), sl7⟩)
    (c7 : PySem.W.codeIn K cd7 "check_filling" = true) (k7 : PySem.W.keepIn K (.ref f7) = true)
    (a8 : PySem.W.nsIn K mainGlobals "is_filling" = some (some (.ref f8)))
    (l8 : K.lookup f8 = some ⟨oc8, od8, .func (PySem.W.fnOf "is_filling" "is_filling" (defArgs sIsFill) (defBody sIsFill) (defScope sIsFill) .none kV8 dc8 pm8 an8 cd8 ct8), sl8⟩)
    (c8 : PySem.W.codeIn K cd8 "is_filling" = true) (k8 : PySem.W.keepIn K (.ref f8) = true)
    (a9 : PySem.W.nsIn K mainGlobals "read_number" = some (some (.ref f9)))
    (l9 : K.lookup f9 = some ⟨oc9, od9, .func (PySem.W.fnOf "read_number" "read_number" (defArgs sRdN) (defBody sRdN) (defScope sRdN) .none kV9 dc9 pm9 an9 cd9 ct9), sl9⟩)
    (c9 : PySem.W.codeIn K cd9 "read_number" = true) (k9 : PySem.W.keepIn K (.ref f9) = true)
    (a10 : PySem.W.nsIn K mainGlobals "format_table" = some (some (.ref f10)))
    (l10 : K.lookup f10 = some ⟨oc10, od10, .func (PySem.W.fnOf "format_table" "format_table" (defArgs sFmtT) (defBody sFmtT) (defScope sFmtT) .none kV10 dc10 pm10 an10 cd10 ct10), sl10⟩)
    (c10 : PySem.W.codeIn K cd10 "format_table" = true) (k10 : PySem.W.keepIn K (.ref f10) = true)
    (a11 : PySem.W.nsIn K mainGlobals "read_table" = some (some (.ref f11)))
    (l11 : K.lookup f11 = some ⟨oc11, od11, .func (PySem.W.fnOf "read_table" "read_table" (defArgs sRdT) (defBody sRdT) (defScope sRdT) .none kV11 dc11 pm11 an11 cd11 ct11), sl11⟩)
    (c11 : PySem.W.codeIn K cd11 "read_table" = true) (k11 : PySem.W.keepIn K (.ref f11) = true)
    (a12 : PySem.W.nsIn K mainGlobals "parse_table" = some (some (.ref f12)))
    (l12 : K.lookup f12 = some ⟨oc12, od12, .func (PySem.W.fnOf "parse_table" "parse_table" (defArgs sParT) (defBody sParT) (defScope sParT) .none kV12 dc12 pm12 an12 cd12 ct12), sl12⟩)
    (c12 : PySem.W.codeIn K cd12 "parse_table" = true) (k12 : PySem.W.keepIn K (.ref f12) = true)
    (a13 : PySem.W.nsIn K mainGlobals "_law_cell" = some (some (.ref f13)))
    (l13 : K.lookup f13 = some ⟨oc13, od13, .func (PySem.W.fnOf "_law_cell" "_law_cell" (defArgs sCell) (defBody sCell) (defScope sCell) .none kV13 dc13 pm13 an13 cd13 ct13), sl13⟩)
    (c13 : PySem.W.codeIn K cd13 "_law_cell" = true) (k13 : PySem.W.keepIn K (.ref f13) = true)
    (a14 : PySem.W.nsIn K mainGlobals "_law_pool" = some (some (.ref f14)))
    (l14 : K.lookup f14 = some ⟨oc14, od14, .func (PySem.W.fnOf "_law_pool" "_law_pool" (defArgs sPool) (defBody sPool) (defScope sPool) .none kV14 dc14 pm14 an14 cd14 ct14), sl14⟩)
    (c14 : PySem.W.codeIn K cd14 "_law_pool" = true) (k14 : PySem.W.keepIn K (.ref f14) = true)
    (a15 : PySem.W.nsIn K mainGlobals "_law_draw" = some (some (.ref f15)))
    (l15 : K.lookup f15 = some ⟨oc15, od15, .func (PySem.W.fnOf "_law_draw" "_law_draw" (defArgs sDraw) (defBody sDraw) (defScope sDraw) .none kV15 dc15 pm15 an15 cd15 ct15), sl15⟩)
    (c15 : PySem.W.codeIn K cd15 "_law_draw" = true) (k15 : PySem.W.keepIn K (.ref f15) = true)
    (a16 : PySem.W.nsIn K mainGlobals "_law_plan" = some (some (.ref f16)))
    (l16 : K.lookup f16 = some ⟨oc16, od16, .func (PySem.W.fnOf "_law_plan" "_law_plan" (defArgs sPlan) (defBody sPlan) (defScope sPlan) .none kV16 dc16 pm16 an16 cd16 ct16), sl16⟩)
    (c16 : PySem.W.codeIn K cd16 "_law_plan" = true) (k16 : PySem.W.keepIn K (.ref f16) = true)
    (a17 : PySem.W.nsIn K mainGlobals "_law_values" = some (some (.ref f17)))
    (l17 : K.lookup f17 = some ⟨oc17, od17, .func (PySem.W.fnOf "_law_values" "_law_values" (defArgs sValues) (defBody sValues) (defScope sValues) .none kV17 dc17 pm17 an17 cd17 ct17), sl17⟩)
    (c17 : PySem.W.codeIn K cd17 "_law_values" = true) (k17 : PySem.W.keepIn K (.ref f17) = true)
    (a18 : PySem.W.nsIn K mainGlobals "_law_page" = some (some (.ref f18)))
    (l18 : K.lookup f18 = some ⟨oc18, od18, .func (PySem.W.fnOf "_law_page" "_law_page" (defArgs sPage) (defBody sPage) (defScope sPage) .none kV18 dc18 pm18 an18 cd18 ct18), sl18⟩)
    (c18 : PySem.W.codeIn K cd18 "_law_page" = true) (k18 : PySem.W.keepIn K (.ref f18) = true)
    (a19 : PySem.W.nsIn K mainGlobals "_law_told_right" = some (some (.ref f19)))
    (l19 : K.lookup f19 = some ⟨oc19, od19, .func (PySem.W.fnOf "_law_told_right" "_law_told_right" (defArgs sToldR) (defBody sToldR) (defScope sToldR) .none kV19 dc19 pm19 an19 cd19 ct19), sl19⟩)
    (c19 : PySem.W.codeIn K cd19 "_law_told_right" = true) (k19 : PySem.W.keepIn K (.ref f19) = true)
    (a20 : PySem.W.nsIn K mainGlobals "law" = some (some (.ref f20)))
    (l20 : K.lookup f20 = some ⟨oc20, od20, .func (PySem.W.fnOf "law" "law" (defArgs sLaw) (defBody sLaw) (defScope sLaw) .none kV20 dc20 pm20 an20 cd20 ct20), sl20⟩)
    (c20 : PySem.W.codeIn K cd20 "law" = true) (k20 : PySem.W.keepIn K (.ref f20) = true)
    (z0 : PySem.W.nsIn K mainGlobals "isinstance" = some none)
    (z1 : PySem.W.nsIn K mainGlobals "int" = some none)
    (z2 : PySem.W.nsIn K mainGlobals "bool" = some none)
    (z3 : PySem.W.nsIn K mainGlobals "tuple" = some none)
    (z4 : PySem.W.nsIn K mainGlobals "len" = some none)
    (z5 : PySem.W.nsIn K mainGlobals "enumerate" = some none)
    (z6 : PySem.W.nsIn K mainGlobals "str" = some none)
    (z7 : PySem.W.nsIn K mainGlobals "zip" = some none)
    (z8 : PySem.W.nsIn K mainGlobals "max" = some none)
    (z9 : PySem.W.nsIn K mainGlobals "range" = some none)
    (z10 : PySem.W.nsIn K mainGlobals "abs" = some none)
    (z11 : PySem.W.nsIn K mainGlobals "divmod" = some none)
    (z12 : PySem.W.nsIn K mainGlobals "min" = some none)
    (z13 : PySem.W.nsIn K mainGlobals "sum" = some none)
    (z14 : PySem.W.nsIn K mainGlobals "list" = some none)
    (z15 : PySem.W.nsIn K mainGlobals "dict" = some none)
    (z16 : PySem.W.nsIn K mainGlobals "repr" = some none)
    (w0 : PySem.W.nsIn K mainGlobals "MOST_INDEX" = some (some (.int 7 tk0)))
    (w1 : PySem.W.nsIn K mainGlobals "MOST_CELLS" = some (some (.int 24 tk1)))
    (w2 : PySem.W.nsIn K mainGlobals "MOST_VALUE" = some (some (.int 9999 tk2)))
    {C0 : Addr} (aC0 : PySem.W.nsIn K mainGlobals "InvalidPlan" = some (some (.ref C0)))
    {C1 : Addr} (aC1 : PySem.W.nsIn K mainGlobals "InvalidFilling" = some (some (.ref C1)))
    : ∃ fd : FuncData, (∀ (s : Shared) (v : Value), BindsTo s fd ⟨[v], []⟩ [("_law_script", v)]) ∧ ∀ base : Heap, K.In base → base.Ns mainGlobals mg → FnG l.prog w K mg base 9 fa fd ["_law_script"] (spLaw K) := by
  have e := hfa.symm.trans (PySem.W.mg_of X G a20)
  cases e
  have F0 := fun_mk (st := sWhole) l0 c0 k0
  have m0 := PySem.W.mg_of X G a0
  have F1 := fun_mk (st := sBetween) l1 c1 k1
  have m1 := PySem.W.mg_of X G a1
  have F2 := fun_mk (st := sPlace) l2 c2 k2
  have m2 := PySem.W.mg_of X G a2
  have F3 := fun_mk (st := sIsCell) l3 c3 k3
  have m3 := PySem.W.mg_of X G a3
  have F4 := fun_mk (st := sCheck) l4 c4 k4
  have m4 := PySem.W.mg_of X G a4
  have F5 := fun_mk (st := sIsPlan) l5 c5 k5
  have m5 := PySem.W.mg_of X G a5
  have F6 := fun_mk (st := sFF) l6 c6 k6
  have m6 := PySem.W.mg_of X G a6
  have F7 := fun_mk (st := sCheckF) l7 c7 k7
  have m7 := PySem.W.mg_of X G a7
  have F8 := fun_mk (st := sIsFill) l8 c8 k8
  have m8 := PySem.W.mg_of X G a8
  have F9 := fun_mk (st := sRdN) l9 c9 k9
  have m9 := PySem.W.mg_of X G a9
  have F10 := fun_mk (st := sFmtT) l10 c10 k10
  have m10 := PySem.W.mg_of X G a10
  have F11 := fun_mk (st := sRdT) l11 c11 k11
  have m11 := PySem.W.mg_of X G a11
  have F12 := fun_mk (st := sParT) l12 c12 k12
  have m12 := PySem.W.mg_of X G a12
  have F13 := fun_mk (st := sCell) l13 c13 k13
  have m13 := PySem.W.mg_of X G a13
  have F14 := fun_mk (st := sPool) l14 c14 k14
  have m14 := PySem.W.mg_of X G a14
  have F15 := fun_mk (st := sDraw) l15 c15 k15
  have m15 := PySem.W.mg_of X G a15
  have F16 := fun_mk (st := sPlan) l16 c16 k16
  have m16 := PySem.W.mg_of X G a16
  have F17 := fun_mk (st := sValues) l17 c17 k17
  have m17 := PySem.W.mg_of X G a17
  have F18 := fun_mk (st := sPage) l18 c18 k18
  have m18 := PySem.W.mg_of X G a18
  have F19 := fun_mk (st := sToldR) l19 c19 k19
  have m19 := PySem.W.mg_of X G a19
  have F20 := fun_mk (st := sLaw) l20 c20 k20
  have m20 := PySem.W.mg_of X G a20
  have n_isinstance := PySem.W.mg_none_of X G z0
  have n_int := PySem.W.mg_none_of X G z1
  have n_bool := PySem.W.mg_none_of X G z2
  have n_tuple := PySem.W.mg_none_of X G z3
  have n_len := PySem.W.mg_none_of X G z4
  have n_enumerate := PySem.W.mg_none_of X G z5
  have n_str := PySem.W.mg_none_of X G z6
  have n_zip := PySem.W.mg_none_of X G z7
  have n_max := PySem.W.mg_none_of X G z8
  have n_range := PySem.W.mg_none_of X G z9
  have n_abs := PySem.W.mg_none_of X G z10
  have n_divmod := PySem.W.mg_none_of X G z11
  have n_min := PySem.W.mg_none_of X G z12
  have n_sum := PySem.W.mg_none_of X G z13
  have n_list := PySem.W.mg_none_of X G z14
  have n_dict := PySem.W.mg_none_of X G z15
  have n_repr := PySem.W.mg_none_of X G z16
  have c_MOST_INDEX := PySem.W.mg_of X G w0
  have c_MOST_CELLS := PySem.W.mg_of X G w1
  have c_MOST_VALUE := PySem.W.mg_of X G w2
  have b0 := F0.binds (ps := ["value"]) fun _ _ _ _ _ _ us hl => match us, hl with | [_], _ => rfl
  have b1 := F1.binds (ps := ["value", "least", "most"]) fun _ _ _ _ _ _ us hl => match us, hl with | [_, _, _], _ => rfl
  have b2 := F2.binds (ps := ["value"]) fun _ _ _ _ _ _ us hl => match us, hl with | [_], _ => rfl
  have b3 := F3.binds (ps := ["value"]) fun _ _ _ _ _ _ us hl => match us, hl with | [_], _ => rfl
  have b4 := F4.binds (ps := ["plan"]) fun _ _ _ _ _ _ us hl => match us, hl with | [_], _ => rfl
  have b5 := F5.binds (ps := ["value"]) fun _ _ _ _ _ _ us hl => match us, hl with | [_], _ => rfl
  have b6 := F6.binds (ps := ["values", "most"]) fun _ _ _ _ _ _ us hl => match us, hl with | [_, _], _ => rfl
  have b7 := F7.binds (ps := ["size", "filling"]) fun _ _ _ _ _ _ us hl => match us, hl with | [_, _], _ => rfl
  have b8 := F8.binds (ps := ["plan", "value"]) fun _ _ _ _ _ _ us hl => match us, hl with | [_, _], _ => rfl
  have b9 := F9.binds (ps := ["text", "digits"]) fun _ _ _ _ _ _ us hl => match us, hl with | [_, _], _ => rfl
  have b10 := F10.binds (ps := ["plan", "filling"]) fun _ _ _ _ _ _ us hl => match us, hl with | [_, _], _ => rfl
  have w10 : KwBinds _ ["plan", "filling"] ["filling", "plan"] swap2 swap2 := kw_binds F10 (fun _ _ _ _ _ _ ws hl => match ws, hl with | [_, _], _ => rfl) (fun r => swap2_rel r)
  have b11 := F11.binds (ps := ["text"]) fun _ _ _ _ _ _ us hl => match us, hl with | [_], _ => rfl
  have b12 := F12.binds (ps := ["text"]) fun _ _ _ _ _ _ us hl => match us, hl with | [_], _ => rfl
  have w12 : KwBinds _ ["text"] ["text"] id id := kw_binds F12 (fun _ _ _ _ _ _ ws hl => match ws, hl with | [_], _ => rfl) (fun r => r)
  have b13 := F13.binds (ps := ["_law_script", "_law_k"]) fun _ _ _ _ _ _ us hl => match us, hl with | [_, _], _ => rfl
  have b14 := F14.binds (ps := ["_law_number"]) fun _ _ _ _ _ _ us hl => match us, hl with | [_], _ => rfl
  have b15 := F15.binds (ps := ["_law_pool_here", "_law_most"]) fun _ _ _ _ _ _ us hl => match us, hl with | [_, _], _ => rfl
  have b16 := F16.binds (ps := ["_law_pool_here", "_law_most"]) fun _ _ _ _ _ _ us hl => match us, hl with | [_, _], _ => rfl
  have b17 := F17.binds (ps := ["_law_pool_here", "_law_size"]) fun _ _ _ _ _ _ us hl => match us, hl with | [_, _], _ => rfl
  have b18 := F18.binds (ps := ["_law_spots", "_law_some"]) fun _ _ _ _ _ _ us hl => match us, hl with | [_, _], _ => rfl
  have b19 := F19.binds (ps := ["_law_spots", "_law_some"]) fun _ _ _ _ _ _ us hl => match us, hl with | [_, _], _ => rfl
  have gInvalidPlan : mg "InvalidPlan" = some (.ref C0) := PySem.W.mg_of X G aC0
  have gInvalidFilling : mg "InvalidFilling" = some (.ref C1) := PySem.W.mg_of X G aC1
  refine ⟨PySem.W.fnOf "law" "law" (defArgs sLaw) (defBody sLaw) (defScope sLaw) .none kV20 dc20 pm20 an20 cd20 ct20, fun s v => .of_eq rfl, fun base _ _ => ?_⟩
  have G0 := ok_whole (P := l.prog) (w := w) (mg := mg) (base := base) F0 n_isinstance n_int n_bool
  have G1 := ok_between (P := l.prog) (w := w) (mg := mg) (base := base) F1 G0 b0 m0 k0
  have G2 := ok_place (P := l.prog) (w := w) (mg := mg) (base := base) F2 G1 b1 m1 k1 c_MOST_INDEX
  have G3 := ok_isCell (P := l.prog) (w := w) (mg := mg) (base := base) F3 G2 b2 m2 k2 n_isinstance n_tuple n_len
  have G4 := ok_check (P := l.prog) (w := w) (mg := mg) (base := base) F4 G3 b3 m3 k3 n_isinstance n_tuple n_len n_enumerate c_MOST_CELLS
  have G5 := ok_isPlanT (P := l.prog) (w := w) (mg := mg) (base := base) F5 G4 b4 m4 k4 gInvalidPlan
  have G6 := ok_ff (P := l.prog) (w := w) (mg := mg) (base := base) F6 G1 b1 m1 k1 n_enumerate
  have G7 := ok_checkF (P := l.prog) (w := w) (mg := mg) (base := base) F7 G6 b6 m6 k6 n_isinstance n_tuple n_len c_MOST_VALUE
  have G8 := ok_isFillT (P := l.prog) (w := w) (mg := mg) (base := base) F8 G4 b4 m4 k4 G7 b7 m7 k7 n_len gInvalidFilling
  have G9 := ok_readN (P := l.prog) (w := w) (mg := mg) (base := base) F9 n_len n_int n_str
  have G10 := ok_fmtT (P := l.prog) (w := w) (mg := mg) (base := base) F10 G4 b4 m4 k4 G7 b7 m7 k7 n_len n_zip n_max n_range n_str
  have G11 := ok_rdT (P := l.prog) (w := w) (mg := mg) (base := base) F11 G9 b9 m9 k9 n_enumerate n_len n_str n_tuple c_MOST_VALUE
  have G12 := ok_parT (P := l.prog) (w := w) (mg := mg) (base := base) F12 G11 b11 m11 k11 G5 b5 m5 k5 G8 b8 m8 k8 G10 b10 m10 k10 n_isinstance n_str
  have G13 := ok_cell (P := l.prog) (w := w) (mg := mg) (base := base) F13 n_len
  have G14 := ok_pool (P := l.prog) (w := w) (mg := mg) (base := base) F14 n_abs
  have G15 := ok_draw (P := l.prog) (w := w) (mg := mg) (base := base) F15 n_divmod
  have G16 := ok_planT (P := l.prog) (w := w) (mg := mg) (base := base) F16 G15 b15 m15 k15 n_min n_range n_len n_tuple n_sum
  have G17 := ok_values (P := l.prog) (w := w) (mg := mg) (base := base) F17 G15 b15 m15 k15 n_list n_range n_len n_tuple
  have G18 := ok_page (P := l.prog) (w := w) (mg := mg) (base := base) F18 n_dict n_zip n_max n_range n_str
  have G19 := ok_told25 (P := l.prog) (w := w) (mg := mg) (base := base) F19 G18 b18 m18 k18 G10 b10 w10 m10 k10 G12 b12 w12 m12 k12 n_repr
  exact ok_law25 F20 G13 b13 m13 k13 G14 b14 m14 k14 G19 b19 m19 k19 G16 b16 m16 k16 G15 b15 m15 k15 G17 b17 m17 k17 G10 b10 m10 k10 G12 b12 m12 k12 n_tuple n_range n_max n_min n_len
end KS
open PySem PySem.W PyProof.Rows
set_option maxHeartbeats 0 in
theorem PySem.Challenge.cw_keepsort_k25_table_texts_holds : PySem.Challenge.rw_keepsort_k25_table_texts.Holds := by
  w_on; o_law; k_head; (case hw => w_witness2)
  k_fill
  refine KS.walk_ofG (l := PySem.Challenge.rw_keepsort_k25_table_texts) (n := 63) (k := 9) (x := "_law_script") (sp := fun w => KS.spLaw _) rfl (by decide) rfl ⟨rfl, by decide, by decide⟩ (fun w h Y => PySem.W.kIn_of Y) ?F (fun _ _ a ns hl _ hS => ⟨a, ns, rfl, hS, hl, fun _ => rfl⟩)
  case F =>
    intro w mg fa h KX G hmg
    refine' KS.all_mk KX G hmg ?a0 ?l0 ?c0 ?k0 ?a1 ?l1 ?c1 ?k1 ?a2 ?l2 ?c2 ?k2 ?a3 ?l3 ?c3 ?k3 ?a4 ?l4 ?c4 ?k4 ?a5 ?l5 ?c5 ?k5 ?a6 ?l6 ?c6 ?k6 ?a7 ?l7 ?c7 ?k7 ?a8 ?l8 ?c8 ?k8 ?a9 ?l9 ?c9 ?k9 ?a10 ?l10 ?c10 ?k10 ?a11 ?l11 ?c11 ?k11 ?a12 ?l12 ?c12 ?k12 ?a13 ?l13 ?c13 ?k13 ?a14 ?l14 ?c14 ?k14 ?a15 ?l15 ?c15 ?k15 ?a16 ?l16 ?c16 ?k16 ?a17 ?l17 ?c17 ?k17 ?a18 ?l18 ?c18 ?k18 ?a19 ?l19 ?c19 ?k19 ?a20 ?l20 ?c20 ?k20 ?z0 ?z1 ?z2 ?z3 ?z4 ?z5 ?z6 ?z7 ?z8 ?z9 ?z10 ?z11 ?z12 ?z13 ?z14 ?z15 ?z16 ?w0 ?w1 ?w2 ?xaC0 ?xaC1
    (case a0 => k_is)
    (case l0 => k_is)
    (case c0 => k_is)
    (case k0 => k_is)
    (case a1 => k_is)
    (case l1 => k_is)
    (case c1 => k_is)
    (case k1 => k_is)
    (case a2 => k_is)
    (case l2 => k_is)
    (case c2 => k_is)
    (case k2 => k_is)
    (case a3 => k_is)
    (case l3 => k_is)
    (case c3 => k_is)
    (case k3 => k_is)
    (case a4 => k_is)
    (case l4 => k_is)
    (case c4 => k_is)
    (case k4 => k_is)
    (case a5 => k_is)
    (case l5 => k_is)
    (case c5 => k_is)
    (case k5 => k_is)
    (case a6 => k_is)
    (case l6 => k_is)
    (case c6 => k_is)
    (case k6 => k_is)
    (case a7 => k_is)
    (case l7 => k_is)
    (case c7 => k_is)
    (case k7 => k_is)
    (case a8 => k_is)
    (case l8 => k_is)
    (case c8 => k_is)
    (case k8 => k_is)
    (case a9 => k_is)
    (case l9 => k_is)
    (case c9 => k_is)
    (case k9 => k_is)
    (case a10 => k_is)
    (case l10 => k_is)
    (case c10 => k_is)
    (case k10 => k_is)
    (case a11 => k_is)
    (case l11 => k_is)
    (case c11 => k_is)
    (case k11 => k_is)
    (case a12 => k_is)
    (case l12 => k_is)
    (case c12 => k_is)
    (case k12 => k_is)
    (case a13 => k_is)
    (case l13 => k_is)
    (case c13 => k_is)
    (case k13 => k_is)
    (case a14 => k_is)
    (case l14 => k_is)
    (case c14 => k_is)
    (case k14 => k_is)
    (case a15 => k_is)
    (case l15 => k_is)
    (case c15 => k_is)
    (case k15 => k_is)
    (case a16 => k_is)
    (case l16 => k_is)
    (case c16 => k_is)
    (case k16 => k_is)
    (case a17 => k_is)
    (case l17 => k_is)
    (case c17 => k_is)
    (case k17 => k_is)
    (case a18 => k_is)
    (case l18 => k_is)
    (case c18 => k_is)
    (case k18 => k_is)
    (case a19 => k_is)
    (case l19 => k_is)
    (case c19 => k_is)
    (case k19 => k_is)
    (case a20 => k_is)
    (case l20 => k_is)
    (case c20 => k_is)
    (case k20 => k_is)
    (case z0 => k_is)
    (case z1 => k_is)
    (case z2 => k_is)
    (case z3 => k_is)
    (case z4 => k_is)
    (case z5 => k_is)
    (case z6 => k_is)
    (case z7 => k_is)
    (case z8 => k_is)
    (case z9 => k_is)
    (case z10 => k_is)
    (case z11 => k_is)
    (case z12 => k_is)
    (case z13 => k_is)
    (case z14 => k_is)
    (case z15 => k_is)
    (case z16 => k_is)
    (case w0 => k_is)
    (case w1 => k_is)
    (case w2 => k_is)
    (case xaC0 => k_is)
    (case xaC1 => k_is)
