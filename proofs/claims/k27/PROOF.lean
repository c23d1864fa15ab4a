import PyProof.Rows.All
import Wide.All
import OpenK.AllK
import Wide.FinOn
import HandS.ForMost
import HandS.Style
import HandS.Flow
import KE.GoesMore
import KE.GoesEnum
import KE.KTupSum
import PyProof.ReprRoads
import PyProof.ReprLen
import HandS.IsInst
import HandS.TupLe
import HandS.SetKeys
import HandS.SortRule
import HandS.More
import HandS.SortInts
import HandS.Zip
import HandS.Iter
import HandS.Text
import HandS.Walk
import KE.IntBitsLaws
import PyProof.Rows.StrCountLaw
import PyProof.Rows.RegReprOcc
import HandS.Conv
import HandS.TupAny
import PyProof.P3In
import HandS.Deep
import PyProof.StrOps2
import PyProof.Rows.ReprOcc
import HandS.StrMore
import KE.GoesZip
import HandS.DictComp
import KE.KDictZip
import KE.SortData
import HandS.MapObj
import HandS.DictTup
import HandS.SortKw
import KE.DataMinMax
import PyProof.CallFns
import KE.KRevSl
import HandS.TupMul
import HandS.SetFor
import HandS.ForExc
import HandS.FStr
import PyProof.TupleOfSeq
import PySem.Challenge.RW_keepsort_k27_whole_texts_written_and_rea
set_option Elab.async false
set_option linter.all false
set_option maxRecDepth 100000
set_option maxHeartbeats 4000000
namespace KS
open PySem PySem.Spec PyProof.Rows L2
/-- three whole numbers: the state, the digits left, how many draws -/
def PoolO (o : Option HO) : Prop := ∃ a b c : Int, o = some (.lst [.int a, .int b, .int c]) ∧ 0 ≤ a ∧ a < 2147483249 ∧ 0 ≤ b
/-- what stood, but at p, stands -/
def KeepX (p : Addr) (H H' : Hp) : Prop := ∀ b o, b ≠ p → H b = some o → H' b = some o
theorem KeepX.refl (p : Addr) (H : Hp) : KeepX p H H := fun _ _ _ e => e
theorem KeepX.trans {p : Addr} {H H1 H2 : Hp} (a : KeepX p H H1) (b : KeepX p H1 H2) : KeepX p H H2 := fun c o n e => b c o n (a c o n e)
theorem KeepX.of_same {p : Addr} {H H1 : Hp} (a : Same H H1) : KeepX p H H1 := fun c o _ e => a c o e
theorem same_new {H : Hp} {p : Addr} {o : HO} (h : H p = none) : Same H (upd H p o) := fun b x e => by
  rw [upd_ne (ne_of_none e h)]
  exact e
theorem keepX_upd {H : Hp} {p : Addr} {o : HO} : KeepX p H (upd H p o) := fun b x n e => by
  rw [upd_ne n]
  exact e
theorem PoolO.same {H H' : Hp} {p : Addr} (s : Same H H') (h : PoolO (H p)) : PoolO (H' p) := by
  obtain ⟨a, b, c, e, r⟩ := h
  exact ⟨a, b, c, s _ _ e, r⟩
theorem PoolO.ne {H : Hp} {p q : Addr} (h : PoolO (H p)) (n : H q = none) : p ≠ q := by
  obtain ⟨a, b, c, e, r⟩ := h
  exact ne_of_none e n
theorem same_seqT {K : PySem.W.Frag} {H H' : Hp} {a : Addr} {xs : List V} (e : Same H H') (h : SqT K H a xs) : SqT K H' a xs := by
  rcases h with (h | ⟨o, h⟩) | h
  · exact .inl (.inl (e _ _ h))
  · exact .inl (.inr ⟨o, e _ _ h⟩)
  · exact .inr h
theorem keepX_seqT {K : PySem.W.Frag} {H H' : Hp} {a p : Addr} {xs : List V} (hp : PoolO (H p)) (e : KeepX p H H') (h : SqT K H a xs) : SqT K H' a xs := by
  obtain ⟨x, y, z, ep, _⟩ := hp
  rcases h with (h | ⟨o, h⟩) | h
  · exact .inl (.inl (e _ _ (fun q => by rw [q, ep] at h; cases h) h))
  · exact .inl (.inr ⟨o, e _ _ (fun q => by rw [q, ep] at h; cases h) h⟩)
  · exact .inr h
theorem int_mod_bd (x : Int) {m : Int} (h : 0 < m) : 0 ≤ x % m ∧ x % m < m := ⟨Int.emod_nonneg x (by omega), Int.emod_lt_of_pos x h⟩
def spCell (K : PySem.W.Frag) : Sp := fun vs H Q _ => ∃ (a : Addr) (ns : List Int) (k : Nat), vs = [.ref a, .int k] ∧ SqL K H a (ns.map V.int) ∧ k ≤ 63 ∧ ∀ H' n, Same H H' → Q (.int n) H'
def spPool : Sp := fun vs H Q _ => ∃ (n : Int), vs = [.int n] ∧ ∀ H' p, Same H H' → H p = none → PoolO (H' p) → Q (.ref p) H'
def spDraw : Sp := fun vs H Q _ => ∃ (p : Addr) (m : Int), vs = [.ref p, .int m] ∧ PoolO (H p) ∧ 0 < m ∧ m < 1073741824 ∧ ∀ H' r, KeepX p H H' → PoolO (H' p) → 0 ≤ r → r < m → Q (.int r) H'
end KS
namespace KS
open PySem PySem.Spec PyProof.Rows L2
open Sem (wp)
open AutoSeq1 (wpAny_loadPart')
/-! ### sum(t), t a tuple of whole numbers -/
def rSumT (K : PySem.W.Frag) : List V → Hp → VK → Prop := fun vs H Q => ∃ (a : Addr) (ns : List Int), vs = [V.ref a] ∧ SqT K H a (ns.map V.int) ∧ Q (.int ns.sum) H
theorem cr_sumT {X : Cx} (hc : X.calm = true) : CallR X (.builtin "sum") (rSumT X.K) := by
  intro pins s σ H vs us Q I r h
  obtain ⟨a, ns, rfl, hs, q⟩ := h
  obtain ⟨its, rv, hl, _⟩ := I.tuple hs
  rw [Vals.ref1 r]
  have hi := rv.ints
  obtain ⟨xs, e⟩ := hi.allInts.items
  have hn : numsOf (intItems xs).toList = ns := by
    rw [← e]
    exact hi.numsOf
  rw [nums_intItems] at hn
  have hl2 : s.heap.IsTuple a (intItems xs) := by
    rw [← e]
    exact hl
  refine PySem.W.ktm_sumG (I.ok.hd hc) hl2 fun h' tk t' hk => ⟨.int ns.sum, H, I.kept hk, ⟨t', ?_⟩, q⟩
  rw [preSum_eq, List.take_of_length_le (by simp), hn]
/-- tuple(x), x a list or a tuple -/
def rTupOf (K : PySem.W.Frag) : List V → Hp → VK → Prop := fun xs H Q => ∃ p ys, xs = [.ref p] ∧ ((SqL K H p ys ∧ ∀ l, H l = none → Q (.ref l) (upd H l (.tup ys))) ∨ (SqT K H p ys ∧ Q (.ref p) H))
theorem cr_tupOf {X : Cx} : CallR X (.type "tuple") (rTupOf X.K) := call_tuple_of
/-! ### enumerate(t), t a tuple -/
abbrev tupItO (l : Addr) : Obj := { cls := .type "tuple_iterator", data := .fields #[.ref l, .int 0 0] }
abbrev enumO (it : Addr) : Obj := { cls := .type "enumerate", data := .fields #[.none, .bool false, .ref it, rawInt 0, .none, .none] }
theorem meets_enumT (l : Addr) (items : Array Value) (n : Nat) (dct : Option Addr) (sl : Array (Option Value)) :
    Meets (Builtin.«enumerate.__new__» ⟨[.type "enumerate", .ref l], []⟩) (fun _ R s =>
      s.heap.get? l = some { cls := .type "tuple", dict := dct, data := .seq items n, slots := sl } ∧
      R (.ok (.ret (.ref (s.heap.push (tupItO l)).objs.size))) { s with heap := (s.heap.push (tupItO l)).push (enumO s.heap.objs.size) }) :=
  .of_wp fun prog w A R s h => by
    obtain ⟨hp, g, d, tk, os⟩ := s
    obtain ⟨hl, h⟩ := h
    have hsub := sub_enumerate
    have hT : Heap.IsTuple (Shared.heap ⟨hp, g, d, tk, os⟩) l items := ⟨_, hl, rfl, n, rfl⟩
    wp_walk using wpAny_loadPart' hl
    refine wpAny_stack_any fun st => wpAny_pure ?_
    split
    · rename_i c _ _ _ _ _
      cases (c == Value.type "enumerate")
      · wp_walk using wpAny_loadPart' hl, wpAny_pyIter_tuple hT
        exact ⟨_, rfl, h⟩
      · wp_walk using wpAny_loadPart' hl, wpAny_pyIter_tuple hT
        exact ⟨_, rfl, h⟩
    · wp_walk using wpAny_loadPart' hl, wpAny_pyIter_tuple hT
      exact ⟨_, rfl, h⟩
theorem call_enumT {prog : Program} {w : World} {A : Around} {E : Value → Shared → Prop} {s : Shared} {l : Addr} {items : Array Value} {Q : Value → Shared → Prop} (hL : s.heap.IsTuple l items)
    (h : ∀ h', IsEnum h' (s.heap.objs.size + 1) s.heap.objs.size 0 .none → h'.IsTupleIter s.heap.objs.size l 0 →
      (∀ b o, s.heap.get? b = some o → h'.get? b = some o) → Q (.ref (s.heap.objs.size + 1)) { s with heap := h' }) :
    wpAny (model prog w) A (call (.type "enumerate") [.ref l]) Q E s := by
  obtain ⟨⟨c, dct, dt, sl⟩, hl, hc, n, hd⟩ := hL
  replace hc : c = .type "tuple" := hc
  replace hd : dt = .seq items n := hd
  subst hc
  subst hd
  refine callType_new F.called_enumerate (by decide) (F.typeCall_enumerate_1 _) (F.newCall_enumerate_1 _)
    (fun obj => F.args_object_init_2 obj _) F.entry_enumerate_new (meets_enumT l items n dct sl) ⟨hl, ?_⟩
  generalize hg1 : s.heap.push (tupItO l) = g1
  have hz : g1.objs.size = s.heap.objs.size + 1 := by
    rw [← hg1]
    exact Heap.size_push ..
  have hit : g1.get? s.heap.objs.size = some (tupItO l) := by
    rw [← hg1]
    exact Heap.get?_push_size _ rfl
  have hold : ∀ b o, s.heap.get? b = some o → g1.get? b = some o := fun b o e => by
    rw [← hg1]
    exact Heap.get?_push_of_some _ e
  show _ ∧ _
  rw [hz]
  have he : IsEnum (g1.push (enumO s.heap.objs.size))
      (s.heap.objs.size + 1) s.heap.objs.size 0 .none := by
    have z := Heap.get?_push_size g1 (o := enumO s.heap.objs.size) rfl
    rw [hz] at z
    exact z
  exact ⟨⟨_, he, rfl⟩, h _ he ⟨tupItO l, Heap.get?_push_of_some _ hit, rfl, rfl⟩ fun b o x => Heap.get?_push_of_some _ (hold b o x)⟩
/-- the pairs (i, item i) of the tuple at a, each a new tuple -/
def IteT (K : PySem.W.Frag) (a : Addr) : It :=
  ⟨fun i H => ∃ (xs : List V) (x : V), SqT K H a xs ∧ xs[i]? = some x,
   fun i H v H' => ∃ T x, v = .ref T ∧ H T = none ∧ H' = upd H T (.tup [.int (i : Nat), x]) ∧ ∀ xs, SqT K H a xs → xs[i]? = some x,
   fun i H => ∃ xs : List V, SqT K H a xs ∧ xs.length ≤ i⟩
theorem turn_enumT {P : Program} {w : World} {K : PySem.W.Frag} {elts : List Expr} {kk : Nat} {tpos : Pos} (a e it : Addr) :
    Turn P w K (.Tuple elts kk tpos) (IteT K a) [e, it] e
      (fun i h => (∃ old, IsEnum h e it ((i : Nat) : Int) old) ∧ h.IsTupleIter it a i ∧ e ≠ it) where
  mem := by simp
  obj := fun i h st b hb => by
    obtain ⟨⟨old, he⟩, ⟨o, ho, hc, hd⟩, _⟩ := st
    rcases (by simpa using hb : b = e ∨ b = it) with z | z
    · subst z
      exact ⟨_, he, fun v q => nomatch q⟩
    · subst z
      exact ⟨o, ho, fun v q => by rw [hd] at q; cases q⟩
  keep := fun i h h' st k => by
    obtain ⟨⟨old, he⟩, hi, hne⟩ := st
    exact ⟨⟨old, k e (by simp) _ he⟩, hi.at fun o q => k it (by simp) o q, hne⟩
  item := by
    intro X hP hw hK hc i pins s σ H E I hf st hg
    subst hP hw hK
    obtain ⟨⟨old, he⟩, hit, hne⟩ := st
    obtain ⟨xs, x, hq, hx⟩ := hg
    obtain ⟨its, rv, p, hz⟩ := I.tuple hq
    have p1 : s.heap.IsTuple a its.toArray := p
    obtain ⟨u0, hu0, ru0⟩ := rv.get hx
    have hel : e < s.heap.objs.size := Heap.lt_size he
    have hil : it < s.heap.objs.size := by
      obtain ⟨_, q, _⟩ := hit
      exact Heap.lt_size q
    have hai : a ≠ it := fun z => by
      obtain ⟨o1, g1, c1, _⟩ := p1
      obtain ⟨o2, g2, c2, _⟩ := hit
      rw [z, g2] at g1
      cases g1
      rw [c1] at c2
      injection c2 with c3
      exact absurd c3 (by decide)
    have hea : e ≠ a := fun z => by
      obtain ⟨o1, g1, c1, _⟩ := p1
      have g2 : s.heap.get? e = some _ := he
      rw [z, g1] at g2
      cases g2
      have c2 : Value.type "enumerate" = Value.type "tuple" := c1
      injection c2 with c3
      exact absurd c3 (by decide)
    have hlt : i < its.toArray.size := by
      have z : i < its.length := (List.getElem?_eq_some_iff.mp hu0).1
      simpa using z
    have DD : Draws X.prog X.w X.A.in1 it [it, a] its.toArray.size (fun i v => its.toArray[i]? = some v) (fun i h => h.IsTupleIter it a i ∧ h.IsTuple a its.toArray) :=
      Draws.tuple (show X.A.in1.handled = none from I.ok.hd hc) it a hai its.toArray
    refine wpAny_pyNext_enum_itemD DD he ⟨hit, p1⟩ hlt hne (by simp [hne, hea]) fun u h' tk hu ho hst hT hsz hk => ?_
    have eu : u = u0 := by
      have z : its[i]? = some u := by simpa using hu
      rw [hu0] at z
      exact (Option.some.inj z).symm
    subst eu
    refine ⟨_, rfl, wpAny_letOwnedTupleGo_enum (s := { s with heap := h', toks := tk + 1 }) ho fun h'' he' sb => ?_⟩
    have hT2 : h''.get? s.heap.objs.size = some { cls := .type "tuple", data := .seq #[.int i tk, u] } := (sb.2 _ (Nat.ne_of_gt hel)).trans hT
    have new : ObjOk X.prog X.w (upd H s.heap.objs.size (.tup [.int (i : Nat), x])) h'' s.heap.objs.size (.tup [.int (i : Nat), x]) :=
      ⟨by show 2 ≤ sizeLine; decide, [.int i tk, u], .cons ⟨_, rfl⟩ (.cons ru0 .nil), ⟨_, hT2, rfl, _, rfl⟩⟩
    have I1 : Inv X pins σ (upd H s.heap.objs.size (.tup [.int (i : Nat), x])) { s with heap := h'', toks := tk + 1 } :=
      I.turnedNew (ch := [e, it]) (fun b ob hb q => (sb.2 b (fun z => hb (by simp [z]))).trans
        (hk b ob (fun z => hb (by simp [z])) (fun z => hb (by simp [z])) q)) hf (Nat.le_refl _) new
    refine ⟨.ref s.heap.objs.size, _, I1, rfl, ⟨_, x, rfl, I.hok.fresh (Nat.le_refl _), rfl, fun ys hy => ?_⟩,
      ⟨⟨u, ?_⟩, hst.1.at fun o q => (sb.2 it (Ne.symm hne)).trans q, hne⟩, fun b hb => ?_⟩
    · rw [I.tuple_inj hy hq]
      exact hx
    · have e1 : ((i + 1 : Nat) : Int) = (i : Int) + 1 := by omega
      rw [e1]
      exact he'
    · have hb' : b < s.heap.objs.size := by
        rcases (by simpa using hb : b = e ∨ b = it) with z | z
        · rw [z]
          exact hel
        · rw [z]
          exact hil
      rw [upd_ne (Nat.ne_of_lt hb')]
      exact (hf b hb).1
  done := by
    intro X hP hw hK hc i pins s σ H E I hf st hg
    subst hP hw hK
    obtain ⟨⟨old, he⟩, hit, hne⟩ := st
    obtain ⟨xs, hq, hx⟩ := hg
    obtain ⟨its, rv, p, hz⟩ := I.tuple hq
    have p1 : s.heap.IsTuple a its.toArray := p
    obtain ⟨f0, f1, f2, f3, f4, f5⟩ := hf it (by simp)
    have hl := rv.length
    have DD : Draws X.prog X.w X.A.in1 it [it, a] i (fun _ _ => True) (fun j h => j = i ∧ h.IsTupleIter it a i ∧ h.IsTuple a its.toArray) :=
      { live := fun _ _ st => let ⟨o, ho, _⟩ := st.2.1; ⟨o, ho⟩
        frame := fun _ _ _ st hk => ⟨st.1, st.2.1.at fun o e => hk it (by simp) o e, st.2.2.at fun o e => hk a (by simp) o e⟩
        item := fun j s Q E hj st hQ => absurd st.1 (by omega)
        done := fun s Q E st hE => wpAny_nextOf_tuple_end (show X.A.in1.handled = none from I.ok.hd hc) st.2.1 st.2.2 (by simp; omega) hE }
    exact wpAny_pyNext_enum_endD DD he ⟨rfl, hit, p1⟩ fun h' eb => ⟨rfl, I.turned (t' := s.toks) (fun b o hb q => eb b o hb q) f0 f1 f3 f4 f5⟩
  self := fun A i s Q E st h => by
    obtain ⟨⟨_, he⟩, _⟩ := st
    exact wpAny_pyIter_enum he h
def iEnumT (K : PySem.W.Frag) (ta : TA) : TI := fun σ H R => ta σ H fun vs H1 => ∃ a xs, vs = [.ref a] ∧ SqT K H1 a xs ∧ R (IteT K a) H1
theorem pi_enumT {X : Cx} {e : Expr} {ta : TA} {p pos tpos : Pos} {elts : List Expr} {kk : Nat} (hg : Gl X "enumerate") (hm : X.mg "enumerate" = none) (ha : PA X [e] ta)
    (hs : starEach [e] X.env = [(false, eval e X.env)] := by rfl) : PI X (.Tuple elts kk tpos) (.Call (.Name "enumerate" p) [e] [] pos) (iEnumT X.K ta) := by
  refine ⟨fun pins s σ H R I h => ?_⟩
  refine Call_ (ld_blt I hg hm boot_enumerate (PyProof.Rows.callWith_type1 (thn (ha.run pos pins s σ H _ I h) fun us s1 hh => ?_) hs rfl))
  obtain ⟨vs, H1, I1, r1, a, xs, ex, hq, q⟩ := hh
  subst ex
  cases r1 with
  | cons r rr =>
    cases rr
    cases r
    obtain ⟨its, rv, p1, hz⟩ := I1.tuple hq
    refine call_enumT (items := its.toArray) p1 fun h' he hit hk => wpAny_pyIter_enum he ?_
    have I2 : Inv X pins σ H1 { s1 with heap := h' } := I1.kept (t' := s1.toks) hk
    refine ⟨s1.heap.objs.size + 1, [s1.heap.objs.size + 1, s1.heap.objs.size], _, _, H1, rfl, I2, turn_enumT a (s1.heap.objs.size + 1) s1.heap.objs.size,
      ⟨⟨.none, he⟩, hit, Nat.succ_ne_self _⟩, fun b hb => ?_, q⟩
    have hle : s1.heap.objs.size ≤ b := by
      rcases (by simpa using hb : b = s1.heap.objs.size + 1 ∨ b = s1.heap.objs.size) with z | z
      · rw [z]
        exact Nat.le_succ _
      · rw [z]
        exact Nat.le_refl _
    exact I1.fpOk hle (I1.hok.fresh hle)
/-- a for over enumerate(t): Pv at each turn; the pair stands in a new tuple at T -/
theorem for_enumT {K : PySem.W.Frag} {a : Addr} {xs : List V} {g : TG} {tb : TS} {D : Ends} {σ : L2.St} {H : Hp} (Pv : Nat → L2.St → Hp → Prop) (h0 : Pv 0 σ H)
    (hl : ∀ i σ H, i ≤ xs.length → Pv i σ H → SqT K H a xs)
    (hs : ∀ i x σ H T, xs[i]? = some x → Pv i σ H → H T = none → g (.ref T) σ (upd H T (.tup [.int (i : Nat), x])) fun σ2 H2 => tb { D with nx := Pv (i + 1), ct := Pv (i + 1), bk := D.nx } σ2 H2)
    (hd : ∀ σ H, Pv xs.length σ H → D.nx σ H) :
    ∃ W : Nat → Nat → L2.St → Hp → Prop, (∃ m, W 0 m σ H) ∧ ∀ i m σ H, W i m σ H →
      ((IteT K a).stop i H ∧ D.nx σ H) ∨ ((IteT K a).go i H ∧ ∃ N : L2.St → Hp → Prop, (∀ σ' H', N σ' H' → ∃ m', m' < m ∧ W (i + 1) m' σ' H') ∧
        ∀ x H', (IteT K a).yld i H x H' → g x σ H' fun σ2 H2 => tb { D with nx := N, ct := N, bk := D.nx } σ2 H2) := by
  refine ⟨fun i m σ H => m = xs.length - i ∧ i ≤ xs.length ∧ Pv i σ H, ⟨xs.length, by simp, Nat.zero_le _, h0⟩, ?_⟩
  rintro i m σ H ⟨rfl, hi, p⟩
  have q := hl i σ H hi p
  by_cases hlt : i < xs.length
  · refine .inr ⟨⟨xs, xs[i], q, by simp [hlt]⟩, Pv (i + 1), fun σ' H' p' => ⟨xs.length - (i + 1), by omega, rfl, hlt, p'⟩, fun x H' y => ?_⟩
    obtain ⟨T, x1, rfl, nT, rfl, hx⟩ := y
    exact hs i x1 σ H T (hx _ q) p nT
  · have e : i = xs.length := by omega
    subst e
    exact .inl ⟨⟨xs, q, Nat.le_refl _⟩, hd σ H p⟩
end KS
namespace KS
open PySem PySem.Spec PyProof.Rows L2
/-! ### promises of defs that are only called where no repr is under way -/
structure FnG (P : Program) (w : World) (K : PySem.W.Frag) (mg : Str → Option Value) (base : Heap) (k : Nat) (f : Addr) (fd : FuncData) (ps : List Str) (sp : Sp) : Prop where
  len : ∀ vs H Q E, sp vs H Q E → vs.length = ps.length
  run : ∀ (A : Around) (outer : List Env) (s : Shared) (H : Hp) (args : Args) (us : List Value) (vs : List V) (Q : VK) (E : XK),
    Room k A → A.guards = some [] → Env0 P w K mg base A outer s H → BindsTo s fd args (ps.zip us) → Vals vs us → sp vs H Q E →
    codeAny (model P w) A (.call (.ref f) args) (CR CX0 outer P w H s Q E) s
section
variable {P : Program} {w : World} {K : PySem.W.Frag} {mg : Str → Option Value} {base : Heap}
theorem okG {x qual : Str} {st : Stmt} {f : Addr} {fd : FuncData} {N ps : List Str} {k : Nat} {sp : Sp} (F : Fun K x qual st f fd) (S : FnScope N ps (defScope st))
    (len : ∀ vs H Q E, sp vs H Q E → vs.length = ps.length)
    (hbody : ∀ (cdv : Value) (A : Around) (outer : List Env) (s : Shared) (H : Hp) (vs : List V) (Q : VK) (E : XK),
      Room k (A.deeper (envOfC qual (defScope st) s.heap.objs.size f cdv)) → A.guards = some [] → sp vs H Q E →
      ∃ t, PSs (cxOf CX0 P w K mg base N qual (defScope st) f cdv A outer s H E).nox (defBody st) t ∧ t { nx := fun _ H' => Q .non H', rt := Q } (start N vs) H) :
    FnG P w K mg base (k + 1) f fd ps sp := by
  obtain ⟨oc, od, kV, doc, pm, an, cdv, ct, osl, rfl, lk, hcd⟩ := F.ex
  refine ⟨len, fun A outer s H args us vs Q E hr hgd e0 hb r hsp => ?_⟩
  have hl := len _ _ _ _ hsp
  have kept : ∀ b o, base.get? b = some o → s.heap.get? b = some o := fun b o e => (e0.bs b o e).1
  have KX : K.In s.heap := e0.mod.kin.keeps kept
  have lim : s.heap.NoLimit := e0.mod.nolimit.keeps kept
  have hkind : ∀ y ∈ ps.zip us, (defScope st).names.lookup y.1 = some .local ∨
      ((defScope st).names.lookup y.1 = some .cell ∧ ((cellsFrom (s.heap.objs.size + 1) (defScope st).names []).lookup y.1).isSome = true) := by
    rintro ⟨n, v⟩ hy
    rcases S.par n (List.of_mem_zip hy).1 with q | q
    · left
      exact q
    · right
      exact ⟨q, PySem.W.cellsFrom_some _ _ _ (.inl q)⟩
  refine codeAny_call_function hr.depth (KX _ _ lk) rfl S.co S.gen rfl
    (PySem.W.codeRec_of KX hcd) (hb _ _ _ _ ?_)
  refine wpAny_newFunctionEnv_cells S.kind hkind fun env he s1 x => ?_
  subst he
  refine ⟨lim.keeps x.toInCall.keep, codeAny_func ?_⟩
  obtain ⟨t, ht0, hq⟩ := hbody cdv A outer s H vs Q E (hr.deeper _) hgd hsp
  have ht := ht0.nox
  have I := inv_start (CX := CX0) (E := E) (cd := cdv) (qual := qual) (f := f) S hr.hd e0 hl r x
  refine wpAny_mono (ht.run [] s1 (start N vs) H _ I hq) (fun fl s' hs => ?_)
    fun e s' hs => hs
  cases fl with
  | ret u =>
    obtain ⟨v, σ', H', J, rv, q⟩ := hs
    exact ⟨v, H', J.os, J.bare, J.base, J.hok, rv, q⟩
  | next =>
    obtain ⟨σ', H', J, q⟩ := hs
    exact ⟨V.non, H', J.os, J.bare, J.base, J.hok, rfl, q⟩
  | brk =>
    obtain ⟨_, _, _, q⟩ := hs
    cases q
  | cont =>
    obtain ⟨_, _, _, q⟩ := hs
    cases q
end
section
variable {X : Cx} {k : Nat} {f : Addr} {fd : FuncData} {ps : List Str} {sp : Sp} {x : Str} {p pos : Pos} {e : Expr} {es : List Expr} {t : TA}
theorem pe_callG (F : FnG X.prog X.w X.K X.mg X.base k f fd ps sp) (hr : Room k X.A) (hgd : X.A.guards = some []) (hg : Gl X x) (hm : X.mg x = some (.ref f))
    (hk : PySem.W.keepIn X.K (.ref f) = true) (hb : Binds X.K fd ps []) (ha : PA X (e :: es) t) (hdb : (x == ("__debug__" : Str)) = false := by decide)
    (he : starEach (e :: es) X.env = (false, eval e X.env) :: starEach es X.env := by rfl)
    (hpl : (backTo pos (starEach es X.env)).any (·.1) = false := by rfl) :
    PE X (.Call (.Name x p) (e :: es) [] pos) (tCall sp [] E0 t) := by
  refine ⟨fun pins s σ H Q I h => wpAny_Call_Name_kw (ld_glob I hg hm ?_ hdb)⟩
  refine PySem.W.callWith_K (h₀ := X.base) I.ok.mod.kin hk (thn (ha.run pos pins s σ H _ I h) fun us s1 hh => ?_) he hpl
  obtain ⟨vs, H1, I1, r, q⟩ := hh
  refine ⟨I1.kIn, ?_⟩
  have q1 : sp (vs ++ []) H1 Q E0 := q
  rw [List.append_nil] at q1
  have hl : (us ++ []).length = ps.length := by
    rw [List.append_nil, ← r.length]
    exact F.len _ _ _ _ q1
  have bb := hb s1 us I1.kIn hl
  rw [List.append_nil] at bb
  refine wpAny_call (codeAny_mono (F.run X.A X.stack s1 H1 ⟨us, []⟩ us vs Q E0 hr hgd I1.env0 bb r q1) fun z s' hq => ?_)
  cases z with
  | error e => cases hq
  | ok fl =>
    cases fl with
    | ret u => exact I1.after hq
    | next => cases hq
    | brk => cases hq
    | cont => cases hq
/-- repr(x), x a list or tuple of plain data, where no repr is under way -/
theorem call_reprD (hgd : X.A.guards = some []) (hu : X.A.units + 100 < cLine) : CallR X (.builtin "repr") (fun xs H Q => ∃ (a : Addr) (d : PyData), xs = [.ref a] ∧ Dp X.K H (.ref a) d ∧
    d.showable = true ∧ d.hasDict = false ∧ d.shown.length ≤ sizeLine ∧ d.depth ≤ 64 ∧ Q (.str d.shown) H) := by
  intro pins s σ H xs us Q I r h
  obtain ⟨a, d, rfl, hd, h1, h2, h3, h4, q⟩ := h
  rw [Vals.ref1 r]
  obtain ⟨as, R⟩ := Dp.reads I d (.ref a) (.ref a) hd rfl
  exact repr_of_reads' R h1 (PyData.noDict_hsm h2) hgd (by omega) (fun _ _ e => e) (fun h' u tk hk => ⟨.str d.shown, H, I.kept hk, ⟨u, rfl⟩, q⟩) h3
end
/-! ### the end of a row whose law has such a promise -/
theorem law_callG {P : Program} {w : World} {K : PySem.W.Frag} {mg mb : Str → Option Value} {k : Nat} {fa a : Addr} {fd : FuncData} {x : Str} {sp : Sp} {s₁ : Shared} {vs : List Value} {ns : List Int}
    (KX : K.In s₁.heap) (hns : s₁.heap.Ns mainGlobals mg) (hb : s₁.heap.Ns builtinsNs mb) (hbb : ∀ x : Str, x ≠ "__name__" → mb x = bootBuiltins x) (hlim : s₁.heap.NoLimit) (hg : s₁.gens = #[])
    (ha : s₁.heap.get? a = some { cls := .type "list", data := .seq vs.toArray }) (hi : IntsAre vs ns) (hl : ns.length ≤ sizeLine) (hr : Room k callerA)
    (F : ∀ base : Heap, K.In base → base.Ns mainGlobals mg → FnG P w K mg base k fa fd [x] sp)
    (hbind : ∀ (s : Shared) (u : Value), BindsTo s fd ⟨[u], []⟩ [(x, u)])
    (hsp : ∀ H : Hp, Only H → SqL K H a (ns.map V.int) → sp [.ref a] H (fun v _ => v = .bl true) fun _ _ _ => False) :
    codeAny (model P w) callerA (.call (.ref fa) ⟨[.ref a], []⟩)
      (fun r s' => r = .ok (.ret (.bool true)) ∧ OldK s₁.heap s'.heap ∧ s'.os = s₁.os ∧ AllBare s'.gens) s₁ := by
  have rv := vals_ints hi
  have lenV := hi.length
  have core : ∀ H : Hp, Only H → SqL K H a (ns.map V.int) → HOk P w H s₁.heap → (∀ b, H b ≠ none → b = a) → (H a ≠ none → K.lookup a = none) →
      codeAny (model P w) callerA (.call (.ref fa) ⟨[.ref a], []⟩)
        (fun r s' => r = .ok (.ret (.bool true)) ∧ OldK s₁.heap s'.heap ∧ s'.os = s₁.os ∧ AllBare s'.gens) s₁ := by
    intro H hO hS hok hA hK
    have only_a : ∀ {b : Addr} {u : HO}, H b = some u → b = a := fun {b u} q => hA b (by
      rw [q]
      simp)
    have noA : ∀ {b : Addr} {o : Obj} {es : Array DictEntry} {ep : Nat}, s₁.heap.get? b = some o → o.data = .dict es ep → H b = none := by
      intro b o es ep e d
      cases q : H b with
      | none => rfl
      | some u =>
        have e' := only_a q
        subst e'
        rw [ha] at e
        cases e
        have d' : Data.seq vs.toArray _ = Data.dict es ep := d
        cases d'
    have nsK : ∀ {b : Addr} {m : Str → Option Value}, s₁.heap.Ns b m → (hidT s₁.heap H).Ns b m := by
      rintro b m ⟨o, es, ep, e, d, r⟩
      exact ⟨o, es, ep, hidT_get e (noA e d), d, r⟩
    have hKb : K.In (hidT s₁.heap H) := by
      intro b o e
      refine hidT_get (KX b o e) ?_
      cases q : H b with
      | none => rfl
      | some u =>
        have e' := only_a q
        subst e'
        rw [hK (by rw [q]; simp)] at e
        cases e
    have hM : Mod K mg (hidT s₁.heap H) := by
      obtain ⟨mc, h1, h2⟩ := hlim
      exact ⟨hKb, nsK hns, ⟨mb, nsK hb, hbb⟩, ⟨mc, nsK h1, h2⟩⟩
    have e0 : Env0 P w K mg (hidT s₁.heap H) callerA [] s₁ H :=
      ⟨rfl, hM, fun b o e => of_hidT e, Nat.le_of_eq (hidT_size _ _), trivial,
        fun b hb => absurd (show b ∈ ([] : List Addr) from hb) (by simp), hok, .of_eq hg⟩
    have go := (F _ hKb (nsK hns)).run callerA [] s₁ H ⟨[.ref a], []⟩ [.ref a] [.ref a] _ _ hr rfl e0 (hbind s₁ (.ref a)) (.cons rfl .nil) (hsp H hO hS)
    refine codeAny_mono go fun r s' h => ?_
    cases r with
    | error e => cases h
    | ok fl =>
      cases fl with
      | next => cases h
      | brk => cases h
      | cont => cases h
      | ret u =>
        obtain ⟨v, H', os, bare, un, hok', r', q⟩ := h
        have q' : v = .bl true := q
        subst q'
        obtain rfl : u = Value.bool true := r'
        refine ⟨rfl, OldK.of_keep fun b o e => ?_, os, bare⟩
        cases q : H b with
        | none =>
          exact un.keep b o e q (fun z => absurd (show b ∈ ([] : List Addr) from z) (by simp)) (by simp)
        | some u =>
          rcases hO b with z | ⟨ob, xs, z⟩
          · rw [q] at z
            cases z
          · obtain ⟨e1, _⟩ := hok b _ z
            obtain ⟨e2, _⟩ := hok' b _ (un.frzs b ob _ z)
            rw [e] at e1
            cases e1
            exact e2
  cases hk : K.lookup a with
  | some o =>
    have e := KX a o hk
    rw [ha] at e
    cases e
    have sq : SqL K (fun _ => none) a (ns.map V.int) :=
      .inr ⟨_, vs.toArray, _, hk, rfl, rfl, rfl, by rw [List.size_toArray, lenV]; exact hl, by simpa using rv⟩
    exact core (fun _ => none) (fun _ => .inl rfl) sq (fun b u z => by cases z) (fun b z => absurd rfl z) fun z => absurd rfl z
  | none =>
    refine core (fun b => if b = a then some (.frz { cls := .type "list", data := .seq vs.toArray } (.lst (ns.map V.int))) else none)
      (fun b => ?_) (.inl (.inr ⟨{ cls := .type "list", data := .seq vs.toArray }, if_pos rfl⟩)) (fun b u z => ?_) (fun b z => ?_) fun _ => hk
    · by_cases hb : b = a
      · exact .inr ⟨_, _, if_pos hb⟩
      · exact .inl (if_neg hb)
    · by_cases hb : b = a
      · have z' := (if_pos hb).symm.trans z
        cases z'
        subst hb
        exact ⟨ha, by rw [List.length_map]; exact hl, vs, _, rv, ha⟩
      · have z' := (if_neg hb).symm.trans z
        cases z'
    · by_cases hb : b = a
      · exact hb
      · exact absurd (if_neg hb) z
theorem walk_ofG {l : PySem.W.OpenLaw} {n k : Nat} {q : Program} {loose : List Str} {XP : (Str → Option Value) → Heap → Prop} {YP : World → Heap → Prop} {d : DefRec} {K : Params → PySem.W.Frag} {sp : World → Sp} {x : Str}
    (hn : l.most = some n) (hn2 : n ≤ sizeLine) (hdf : d.params.defaults = []) (hr : Room k callerA) (hY : ∀ (w : World) (h : Heap), YP w h → (K w.params).In h)
    (F : ∀ (w : World) (mg : Str → Option Value) (fa : Addr) (h : Heap), (K w.params).In h → h.Ns mainGlobals mg → mg d.name = some (.ref fa) →
      ∃ fd : FuncData, (∀ (s : Shared) (u : Value), BindsTo s fd ⟨[u], []⟩ [(x, u)]) ∧
        ∀ base : Heap, (K w.params).In base → base.Ns mainGlobals mg → FnG l.prog w (K w.params) mg base k fa fd [x] (sp w))
    (hsp : ∀ (w : World) (H : Hp) (a : Addr) (ns : List Int), ns.length ≤ n → Only H → SqL (K w.params) H a (ns.map V.int) →
      sp w [.ref a] H (fun v _ => v = .bl true) fun _ _ _ => False) :
    PySem.W.WalkO q loose XP YP l.row.toRowW d [] (fun f vs => PySem.call f vs) := by
  refine Att.attach_call hn hdf fun w s₀ s₁ mg mb fa o pm cd doc a vs ns G Y ho hd hcd hmg hobj hints hlen hg => ?_
  obtain ⟨fd, hb, hF⟩ := F w mg fa _ (hY w _ Y) G.T.g hmg
  exact law_callG (hY w _ Y) G.T.g G.T.b G.T.builtins G.T.nolimit hg hobj hints (Nat.le_trans hlen hn2) hr hF hb
    (fun H hO hS => hsp w H a ns hlen hO hS)
end KS
namespace KS
open PySem PySem.Spec PyProof.Rows L2
/-! ### cells and plans -/
abbrev Cell := Int × Int
def CellAt (K : PySem.W.Frag) (H : Hp) (x : V) (c : Cell) : Prop := ∃ t, x = .ref t ∧ SqT K H t [.int c.1, .int c.2]
abbrev CellsAt (K : PySem.W.Frag) (H : Hp) : List V → List Cell → Prop := Paired (CellAt K H)
def lt2 (a b : Cell) : Prop := a.1 < b.1 ∨ (a.1 = b.1 ∧ a.2 < b.2)
def InGrid (c : Cell) : Prop := 0 ≤ c.1 ∧ c.1 ≤ 7 ∧ 0 ≤ c.2 ∧ c.2 ≤ 7
structure Good (cs : List Cell) : Prop where
  asc : cs.Pairwise lt2
  grid : ∀ c ∈ cs, InGrid c
  ne : cs ≠ []
/-- tuples are kept -/
def KT (K : PySem.W.Frag) (H H' : Hp) : Prop := ∀ a xs, SqT K H a xs → SqT K H' a xs
section
variable {K : PySem.W.Frag} {H H1 H2 H' : Hp}
theorem KT.trans (a : KT K H H1) (b : KT K H1 H2) : KT K H H2 := fun x xs h => b x xs (a x xs h)
theorem KT.of_same (a : Same H H1) : KT K H H1 := fun _ _ h => same_seqT a h
theorem KT.of_keepX {p : Addr} (hp : PoolO (H p)) (a : KeepX p H H1) : KT K H H1 := fun _ _ h => keepX_seqT hp a h
theorem KT.upd {e : Addr} {ys : List V} {o : HO} (h : H e = some (.lst ys)) : KT K H (upd H e o) := fun a xs q => by
  rcases q with (q | ⟨ob, q⟩) | q
  · exact .inl (.inl (by rw [upd_ne (ne_of q h (by intro z; cases z))]; exact q))
  · exact .inl (.inr ⟨ob, by rw [upd_ne (ne_of q h (by intro z; cases z))]; exact q⟩)
  · exact .inr q
theorem CellAt.kt {x : V} {c : Cell} (k : KT K H H') (h : CellAt K H x c) : CellAt K H' x c := by
  obtain ⟨t, e, q⟩ := h
  exact ⟨t, e, k _ _ q⟩
theorem cells_kt {xs : List V} {cs : List Cell} (k : KT K H H') (h : CellsAt K H xs cs) : CellsAt K H' xs cs := Paired.mono (fun _ _ q => q.kt k) h
end
theorem paired_append {α β : Type} {F : α → β → Prop} : ∀ {l₁ l₁' : List α} {l₂ l₂' : List β}, Paired F l₁ l₂ → Paired F l₁' l₂' → Paired F (l₁ ++ l₁') (l₂ ++ l₂')
  | _, _, _, _, .nil, h => h
  | _, _, _, _, .cons r t, h => .cons r (paired_append t h)
theorem paired_get {α β : Type} {F : α → β → Prop} : ∀ {l₁ : List α} {l₂ : List β} {i : Nat} {x : α}, Paired F l₁ l₂ → l₁[i]? = some x → ∃ y, l₂[i]? = some y ∧ F x y
  | _, _, _, _, .nil, h => by simp at h
  | _, _, 0, _, .cons r t, h => by
    simp at h
    subst h
    exact ⟨_, rfl, r⟩
  | _, _, i + 1, _, .cons r t, h => by
    simp at h
    obtain ⟨y, e, f⟩ := paired_get t h
    exact ⟨y, by simpa using e, f⟩
theorem paired_erase {α β : Type} {F : α → β → Prop} : ∀ {l₁ : List α} {l₂ : List β} (i : Nat), Paired F l₁ l₂ → Paired F (l₁.eraseIdx i) (l₂.eraseIdx i)
  | _, _, _, .nil => .nil
  | _, _, 0, .cons r t => t
  | _, _, i + 1, .cons r t => .cons r (paired_erase i t)
/-- the cells of one row -/
def rowCells (r c : Int) (n : Nat) : List Cell := (List.range n).map fun (s : Nat) => (r, c + (s : Int))
theorem rowCells_succ (r c : Int) (n : Nat) : rowCells r c (n + 1) = rowCells r c n ++ [(r, c + (n : Int))] := by
  unfold rowCells
  rw [List.range_succ, List.map_append]
  rfl
theorem rowCells_mem {r c : Int} {n : Nat} {x : Cell} (h : x ∈ rowCells r c n) : x.1 = r ∧ c ≤ x.2 ∧ x.2 < c + n := by
  unfold rowCells at h
  obtain ⟨s, hs, rfl⟩ := List.mem_map.mp h
  have := List.mem_range.mp hs
  refine ⟨rfl, ?_, ?_⟩ <;> show _ <;> simp <;> omega
theorem rowCells_asc (r c : Int) : ∀ n : Nat, (rowCells r c n).Pairwise lt2
  | 0 => List.Pairwise.nil
  | n + 1 => by
    rw [rowCells_succ, List.pairwise_append]
    refine ⟨rowCells_asc r c n, List.pairwise_singleton _ _, fun a ha b hb => ?_⟩
    obtain ⟨e1, e2, e3⟩ := rowCells_mem ha
    rw [List.mem_singleton] at hb
    subst hb
    exact .inr ⟨e1, e3⟩
theorem rowCells_len (r c : Int) (n : Nat) : (rowCells r c n).length = n := by
  unfold rowCells
  rw [List.length_map, List.length_range]
def PlanAt (K : PySem.W.Frag) (H : Hp) (a : Addr) (cs : List Cell) : Prop := ∃ xs, SqT K H a xs ∧ CellsAt K H xs cs
theorem PlanAt.kt {K : PySem.W.Frag} {H H' : Hp} {a : Addr} {cs : List Cell} (k : KT K H H') (h : PlanAt K H a cs) : PlanAt K H' a cs := by
  obtain ⟨xs, h1, h2⟩ := h
  exact ⟨xs, k _ _ h1, cells_kt k h2⟩
def spPlan (K : PySem.W.Frag) : Sp := fun vs H Q _ => ∃ (p : Addr) (m : Int), vs = [.ref p, .int m] ∧ PoolO (H p) ∧ 1 ≤ m ∧ m ≤ 24 ∧
  ∀ H' a cs, KeepX p H H' → PoolO (H' p) → PlanAt K H' a cs → Good cs → (cs.length : Int) ≤ m → H a = none → Q (.ref a) H'
/-- where _law_plan stands behind its first loop -/
structure PlSt (K : PySem.W.Frag) (p : Addr) (H : Hp) (m mode wide high top left : Int) (σ : L2.St) (H' : Hp) : Prop where
  ex : ∃ (e : Addr) (xs : List V) (cs : List Cell) (y8 y9 y10 : Option V),
    σ = [some (.ref p), some (.int m), some (.int mode), some (.int wide), some (.int high), some (.int top), some (.int left), some (.ref e), y8, y9, y10, none, none] ∧
    H e = none ∧ e ≠ p ∧ H' e = some (.lst xs) ∧ CellsAt K H' xs cs ∧ Good cs ∧ cs.length ≤ 64
  kx : KeepX p H H'
  po : PoolO (H' p)
/-- every = [spot for spot in every if ..] or every -/
def tFil (K : PySem.W.Frag) (tc : TT) : TS := tAsg (tOrT K (tLc (iList K (tVar 7)) (gName 12) tc (tVar 12) [12]) (tVar 7)) (gName 7)
theorem small64 {n : Nat} (h : n ≤ 64) : n < sizeLine := by
  rw [sizeLine_eq]
  omega
theorem fil_ok {K : PySem.W.Frag} {p : Addr} {H : Hp} {m mode wide high top left : Int} {tc : TT} {D : Ends} {σ : L2.St} {H' : Hp} (h : PlSt K p H m mode wide high top left σ H')
    (htc : ∀ (t : Addr) (c : Cell) (H2 : Hp) (R : Bool → Hp → Prop), SqT K H2 t [.int c.1, .int c.2] → PoolO (H2 p) → (∀ b H3, KeepX p H2 H3 → PoolO (H3 p) → R b H3) → tc (σ.set 12 (some (.ref t))) H2 R)
    (k : ∀ σ' H'', PlSt K p H m mode wide high top left σ' H'' → D.nx σ' H'') : tFil K tc D σ H' := by
  obtain ⟨⟨e, xs, cs, y8, y9, y10, rfl, he0, hep, he, hc, gd, hl⟩, kx, po⟩ := h
  have hlen := Paired.length hc
  refine ⟨_, rfl, e, rfl, ⟨_, SqL.of he⟩, fun d nd => ?_⟩
  have ned : e ≠ d := ne_of_none he nd
  have npd : p ≠ d := po.ne nd
  refine lc_list (K := K) (a := e) (xs := xs) (fun i H2 => ∃ (acc : List V) (cs' : List Cell), H2 d = some (.lst acc) ∧ CellsAt K H2 acc cs' ∧ cs'.Sublist (cs.take i) ∧
    KeepX p H H2 ∧ PoolO (H2 p) ∧ H2 e = some (.lst xs) ∧ CellsAt K H2 xs cs) ?_ ?_ ?_ ?_
  · have s1 := same_new (o := .lst []) nd
    refine ⟨[], [], upd_same, .nil, List.nil_sublist _, kx.trans (.of_same s1), po.same s1, s1 _ _ he, cells_kt (.of_same s1) hc⟩
  · rintro i H2 _ ⟨acc, cs', _, _, _, _, _, h6, _⟩
    exact SqL.of h6
  · rintro i x H2 hi ⟨acc, cs', h1, h2, h3, h4, h5, h6, h7⟩
    obtain ⟨c, hci, t, rfl, ht⟩ := paired_get h7 hi
    have hlt : i < cs.length := (List.getElem?_eq_some_iff.mp hci).1
    have tk : cs.take (i + 1) = cs.take i ++ [c] := by
      rw [List.take_add_one, hci]
      rfl
    refine ⟨rfl, htc t c H2 _ ht h5 (fun b H3 k3 p3 => ?_)⟩
    have q3 : KT K H2 H3 := KT.of_keepX h5 k3
    have hd3 : H3 d = some (.lst acc) := k3 _ _ (Ne.symm npd) h1
    have he3 : H3 e = some (.lst xs) := k3 _ _ hep h6
    have hal : acc.length ≤ 64 := by
      rw [Paired.length h2]
      exact Nat.le_trans h3.length_le (by rw [List.length_take]; omega)
    refine ite2 (fun _ => ?_) (fun _ => ?_)
    · refine ⟨_, rfl, acc, hd3, small64 hal, acc ++ [.ref t], cs' ++ [c], upd_same, ?_, ?_, ?_, ?_, ?_, ?_⟩
      · exact cells_kt (q3.trans (KT.upd hd3)) (paired_append h2 (.cons ⟨t, rfl, ht⟩ .nil))
      · rw [tk]
        exact List.Sublist.append h3 (List.Sublist.refl _)
      · intro b o n e2
        rw [upd_ne (fun z => by
          subst z
          have q := kx b o n e2
          rw [nd] at q
          cases q)]
        exact k3 _ _ n (h4 _ _ n e2)
      · rw [upd_ne npd]
        exact p3
      · rw [upd_ne ned]
        exact he3
      · exact cells_kt (q3.trans (KT.upd hd3)) h7
    · refine ⟨acc, cs', hd3, cells_kt q3 h2, ?_, h4.trans k3, p3, he3, cells_kt q3 h7⟩
      rw [tk]
      exact List.Sublist.trans h3 (List.sublist_append_left _ _)
  · rintro H2 ⟨acc, cs', h1, h2, h3, h4, h5, h6, h7⟩
    have h3' : cs'.Sublist cs := List.Sublist.trans h3 (List.take_sublist _ _)
    refine ⟨!acc.isEmpty, .inl ⟨acc, SqL.of h1, rfl⟩, ite2 (fun e1 => ?_) (fun e1 => ?_)⟩
    · refine k _ _ ⟨⟨d, acc, cs', y8, y9, y10, rfl, ?_, Ne.symm npd, h1, h2, ⟨gd.asc.sublist h3', fun c hc => gd.grid c (h3'.subset hc), ?_⟩, Nat.le_trans h3'.length_le hl⟩, h4, h5⟩
      · cases q : H d with
        | none => rfl
        | some o =>
          have z := kx d o (Ne.symm npd) q
          rw [nd] at z
          cases z
      · intro z
        subst z
        cases h2
        cases e1
    · exact ⟨_, rfl, k _ _ ⟨⟨e, xs, cs, y8, y9, y10, rfl, he0, hep, h6, h7, gd, hl⟩, h4, h5⟩⟩
end KS
namespace KS
open PySem PySem.Spec PyProof.Rows L2
abbrev tDr (tm : TE) : TE := tCall spDraw [] E0 (tCons (tVar 0) (tCons tm tNil))
abbrev rAdd : V → V → Hp → VK → Prop := rI0 fun i j => .int (i + j)
/-- if mode == 2: high, wide = 1 + draw(pool, 8), 1 + draw(pool, 8) -/
theorem par_if {p : Addr} {m mode wide high : Int} {σr : L2.St} {H2 : Hp} {D : Ends} (po : PoolO (H2 p)) (hw : 1 ≤ wide ∧ wide ≤ 8) (hh : 1 ≤ high ∧ high ≤ 8)
    (k : ∀ (wide' high' : Int) (H3 : Hp), KeepX p H2 H3 → PoolO (H3 p) → 1 ≤ wide' ∧ wide' ≤ 8 → 1 ≤ high' ∧ high' ≤ 8 → D.nx (some (.ref p) :: some (.int m) :: some (.int mode) :: some (.int wide') :: some (.int high') :: σr) H3) :
    tIfS (tTest (tOp rEq (tVar 2) (tC (.int 2)))) (tPar 4 3 (tCons (tOp rAdd (tC (.int 1)) (tDr (tC (.int 8)))) (tCons (tOp rAdd (tC (.int 1)) (tDr (tC (.int 8)))) tNil))) tNext D
      (some (.ref p) :: some (.int m) :: some (.int mode) :: some (.int wide) :: some (.int high) :: σr) H2 := by
  refine ⟨_, rfl, rfl, _, rfl, ite2 (fun e => ?_) (fun e => ?_)⟩
  · refine ⟨_, rfl, p, 8, rfl, po, by decide, by decide, fun H3 a k3 po3 a0 a1 => ?_⟩
    refine ⟨_, _, rfl, rfl, _, rfl, p, 8, rfl, po3, by decide, by decide, fun H4 b k4 po4 b0 b1 => ?_⟩
    exact ⟨_, _, rfl, rfl, _, _, rfl, k (1 + b) (1 + a) H4 (k3.trans k4) po4 ⟨by omega, by omega⟩ ⟨by omega, by omega⟩⟩
  · exact k wide high H2 (KeepX.refl _ _) po hw hh
/-- if mode == n: every = [spot for spot in every if ..] or every -/
theorem fil_if {K : PySem.W.Frag} {p : Addr} {H : Hp} {m mode wide high top left n : Int} {tc : TT} {D : Ends} {σ : L2.St} {H' : Hp} (h : PlSt K p H m mode wide high top left σ H')
    (htc : ∀ (t : Addr) (c : Cell) (H2 : Hp) (R : Bool → Hp → Prop), SqT K H2 t [.int c.1, .int c.2] → PoolO (H2 p) → (∀ b H3, KeepX p H2 H3 → PoolO (H3 p) → R b H3) → tc (σ.set 12 (some (.ref t))) H2 R)
    (k : ∀ σ' H'', PlSt K p H m mode wide high top left σ' H'' → D.nx σ' H'') : tIfS (tTest (tOp rEq (tVar 2) (tC (.int n)))) (tFil K tc) tNext D σ H' := by
  obtain ⟨e, xs, cs, y8, y9, y10, es, rest⟩ := h.ex
  refine ⟨.int mode, by rw [es]; rfl, rfl, _, rfl, ite2 (fun e => ?_) (fun e => ?_)⟩
  · exact fil_ok h htc k
  · exact k _ _ h
theorem draw_test {K : PySem.W.Frag} {p : Addr} {H : Hp} {m mode wide high top left n : Int} {σ : L2.St} {H' : Hp} (h : PlSt K p H m mode wide high top left σ H') (n0 : 0 < n) (n1 : n < 1073741824)
    (t : Addr) (c : Cell) (H2 : Hp) (R : Bool → Hp → Prop) (ht : SqT K H2 t [.int c.1, .int c.2]) (po : PoolO (H2 p)) (k : ∀ b H3, KeepX p H2 H3 → PoolO (H3 p) → R b H3) :
    tTest (tOp (rI0 fun i j => .bl (decide (i > j))) (tDr (tC (.int n))) (tC (.int 0))) (σ.set 12 (some (.ref t))) H2 R := by
  obtain ⟨e, xs, cs, y8, y9, y10, es, rest⟩ := h.ex
  subst es
  exact ⟨_, rfl, p, n, rfl, po, n0, n1, fun H3 r k3 po3 r0 r1 => ⟨_, _, rfl, rfl, _, rfl, k _ _ k3 po3⟩⟩
end KS
namespace KS
open PySem PySem.Spec PyProof.Rows L2
abbrev rSub : V → V → Hp → VK → Prop := rI0 fun i j => .int (i - j)
abbrev rLe : V → V → Hp → VK → Prop := rI0 fun i j => .bl (decide (i ≤ j))
theorem fil3_if {K : PySem.W.Frag} {p : Addr} {H : Hp} {m mode wide high top left : Int} {D : Ends} {σ : L2.St} {H' : Hp} (h : PlSt K p H m mode wide high top left σ H')
    (k : ∀ σ' H'', PlSt K p H m mode wide high top left σ' H'' → D.nx σ' H'') :
    tIfS (tTest (tOp rEq (tVar 2) (tC (.int 3)))) (tSeq (tAsg (tOp rAdd (tOp rAdd (tVar 5) (tVar 6)) (tDr (tC (.int 4)))) (gName 9))
      (tSeq (tAsg (tOp rSub (tOp rSub (tOp rAdd (tOp rAdd (tOp rAdd (tVar 5) (tVar 6)) (tVar 4)) (tVar 3)) (tC (.int 2))) (tDr (tC (.int 4)))) (gName 10))
      (tFil K (tTest (tChain rLe rLe (tVar 9) (tCB (rSumT K) (tCons (tVar 12) tNil)) (tVar 10)))))) tNext D σ H' := by
  obtain ⟨⟨e, xs, cs, y8, y9, y10, rfl, he0, hep, he, hc, gd, hl⟩, kx, po⟩ := id h
  refine ⟨_, rfl, rfl, _, rfl, ite2 (fun e => ?_) (fun e => ?_)⟩
  · refine ⟨_, rfl, _, rfl, _, _, rfl, rfl, _, rfl, p, 4, rfl, po, by decide, by decide, fun H1 a k1 po1 _ _ => ⟨_, _, rfl, rfl, ?_⟩⟩
    refine ⟨_, rfl, _, rfl, _, _, rfl, rfl, _, rfl, _, _, rfl, rfl, _, rfl, _, _, rfl, rfl, _, _, rfl, rfl, _, rfl, p, 4, rfl, po1, by decide, by decide, fun H2 b k2 po2 _ _ => ⟨_, _, rfl, rfl, ?_⟩⟩
    have k12 := k1.trans k2
    refine fil_ok (p := p) (H := H) (m := m) (mode := mode) (wide := wide) (high := high) (top := top) (left := left)
      ⟨⟨_, xs, cs, y8, _, _, rfl, he0, hep, k12 _ _ hep he, cells_kt (KT.of_keepX po k12) hc, gd, hl⟩, kx.trans k12, po2⟩ (fun t c H3 R ht p3 kk => ?_) k
    refine ⟨_, rfl, _, rfl, t, [c.1, c.2], rfl, ht, _, _, rfl, rfl, _, rfl, ite2 (fun e1 => ?_) (fun e1 => ?_)⟩
    · exact ⟨_, rfl, _, _, rfl, rfl, _, rfl, kk _ _ (KeepX.refl _ _) p3⟩
    · exact ⟨_, rfl, kk _ _ (KeepX.refl _ _) p3⟩
  · exact k _ _ h
end KS
namespace KS
open PySem PySem.Spec PyProof.Rows L2
/-! ### plans whose cells are tuples made at run time -/
def CellT (H : Hp) (x : V) (c : Cell) : Prop := ∃ t, x = .ref t ∧ H t = some (.tup [.int c.1, .int c.2])
abbrev CellsT (H : Hp) : List V → List Cell → Prop := Paired (CellT H)
/-- such tuples are kept -/
def KTt (H H' : Hp) : Prop := ∀ a xs, H a = some (.tup xs) → H' a = some (.tup xs)
section
variable {K : PySem.W.Frag} {H H1 H2 H' : Hp}
theorem KTt.trans (a : KTt H H1) (b : KTt H1 H2) : KTt H H2 := fun x xs h => b x xs (a x xs h)
theorem KTt.of_same (a : Same H H1) : KTt H H1 := fun _ _ h => a _ _ h
theorem KTt.of_keepX {p : Addr} (hp : PoolO (H p)) (a : KeepX p H H1) : KTt H H1 := fun x xs h => by
  obtain ⟨_, _, _, ep, _⟩ := hp
  exact a _ _ (fun q => by rw [q, ep] at h; cases h) h
theorem KTt.upd {e : Addr} {ys : List V} {o : HO} (h : H e = some (.lst ys)) : KTt H (upd H e o) := fun a xs q => by
  rw [upd_ne (ne_of q h (by intro z; cases z))]
  exact q
theorem cellsT_kt {xs : List V} {cs : List Cell} (k : KTt H H') (h : CellsT H xs cs) : CellsT H' xs cs := Paired.mono (fun _ _ ⟨t, e, q⟩ => ⟨t, e, k _ _ q⟩) h
theorem cellsT_at {xs : List V} {cs : List Cell} (h : CellsT H xs cs) : CellsAt K H xs cs := Paired.mono (fun _ _ ⟨t, e, q⟩ => ⟨t, e, SqT.of q⟩) h
end
def PlanT (K : PySem.W.Frag) (H : Hp) (a : Addr) (cs : List Cell) : Prop := ∃ xs, SqT K H a xs ∧ CellsT H xs cs
theorem PlanT.at {K : PySem.W.Frag} {H : Hp} {a : Addr} {cs : List Cell} (h : PlanT K H a cs) : PlanAt K H a cs := by
  obtain ⟨xs, h1, h2⟩ := h
  exact ⟨xs, h1, cellsT_at h2⟩
theorem PlanT.same {K : PySem.W.Frag} {H H' : Hp} {a : Addr} {cs : List Cell} (h : PlanT K H a cs) (s : Same H H') : PlanT K H' a cs := by
  obtain ⟨xs, h1, h2⟩ := h
  exact ⟨xs, same_seqT s h1, cellsT_kt (.of_same s) h2⟩
theorem PlanT.keepX {K : PySem.W.Frag} {H H' : Hp} {a p : Addr} {cs : List Cell} (h : PlanT K H a cs) (hp : PoolO (H p)) (s : KeepX p H H') : PlanT K H' a cs := by
  obtain ⟨xs, h1, h2⟩ := h
  exact ⟨xs, keepX_seqT hp s h1, cellsT_kt (.of_keepX hp s) h2⟩
def spPlanT (K : PySem.W.Frag) : Sp := fun vs H Q _ => ∃ (p : Addr) (m : Int), vs = [.ref p, .int m] ∧ PoolO (H p) ∧ 1 ≤ m ∧ m ≤ 24 ∧
  ∀ H' a cs, KeepX p H H' → PoolO (H' p) → PlanT K H' a cs → Good cs → (cs.length : Int) ≤ m → H a = none → Q (.ref a) H'
/-- where _law_plan stands behind its first loop -/
structure PlStT (K : PySem.W.Frag) (p : Addr) (H : Hp) (m mode wide high top left : Int) (σ : L2.St) (H' : Hp) : Prop where
  ex : ∃ (e : Addr) (xs : List V) (cs : List Cell) (y8 y9 y10 : Option V),
    σ = [some (.ref p), some (.int m), some (.int mode), some (.int wide), some (.int high), some (.int top), some (.int left), some (.ref e), y8, y9, y10, none, none] ∧
    H e = none ∧ e ≠ p ∧ H' e = some (.lst xs) ∧ CellsT H' xs cs ∧ Good cs ∧ cs.length ≤ 64
  kx : KeepX p H H'
  po : PoolO (H' p)
theorem filT_ok {K : PySem.W.Frag} {p : Addr} {H : Hp} {m mode wide high top left : Int} {tc : TT} {D : Ends} {σ : L2.St} {H' : Hp} (h : PlStT K p H m mode wide high top left σ H')
    (htc : ∀ (t : Addr) (c : Cell) (H2 : Hp) (R : Bool → Hp → Prop), SqT K H2 t [.int c.1, .int c.2] → PoolO (H2 p) → (∀ b H3, KeepX p H2 H3 → PoolO (H3 p) → R b H3) → tc (σ.set 12 (some (.ref t))) H2 R)
    (k : ∀ σ' H'', PlStT K p H m mode wide high top left σ' H'' → D.nx σ' H'') : tFil K tc D σ H' := by
  obtain ⟨⟨e, xs, cs, y8, y9, y10, rfl, he0, hep, he, hc, gd, hl⟩, kx, po⟩ := h
  have hlen := Paired.length hc
  refine ⟨_, rfl, e, rfl, ⟨_, SqL.of he⟩, fun d nd => ?_⟩
  have ned : e ≠ d := ne_of_none he nd
  have npd : p ≠ d := po.ne nd
  refine lc_list (K := K) (a := e) (xs := xs) (fun i H2 => ∃ (acc : List V) (cs' : List Cell), H2 d = some (.lst acc) ∧ CellsT H2 acc cs' ∧ cs'.Sublist (cs.take i) ∧
    KeepX p H H2 ∧ PoolO (H2 p) ∧ H2 e = some (.lst xs) ∧ CellsT H2 xs cs) ?_ ?_ ?_ ?_
  · have s1 := same_new (o := .lst []) nd
    refine ⟨[], [], upd_same, .nil, List.nil_sublist _, kx.trans (.of_same s1), po.same s1, s1 _ _ he, cellsT_kt (.of_same s1) hc⟩
  · rintro i H2 _ ⟨acc, cs', _, _, _, _, _, h6, _⟩
    exact SqL.of h6
  · rintro i x H2 hi ⟨acc, cs', h1, h2, h3, h4, h5, h6, h7⟩
    obtain ⟨c, hci, t, rfl, ht⟩ := paired_get h7 hi
    have hlt : i < cs.length := (List.getElem?_eq_some_iff.mp hci).1
    have tk : cs.take (i + 1) = cs.take i ++ [c] := by
      rw [List.take_add_one, hci]
      rfl
    refine ⟨rfl, htc t c H2 _ (SqT.of ht) h5 (fun b H3 k3 p3 => ?_)⟩
    have q3 : KTt H2 H3 := KTt.of_keepX h5 k3
    have hd3 : H3 d = some (.lst acc) := k3 _ _ (Ne.symm npd) h1
    have he3 : H3 e = some (.lst xs) := k3 _ _ hep h6
    have hal : acc.length ≤ 64 := by
      rw [Paired.length h2]
      exact Nat.le_trans h3.length_le (by rw [List.length_take]; omega)
    refine ite2 (fun _ => ?_) (fun _ => ?_)
    · refine ⟨_, rfl, acc, hd3, small64 hal, acc ++ [.ref t], cs' ++ [c], upd_same, ?_, ?_, ?_, ?_, ?_, ?_⟩
      · exact cellsT_kt (q3.trans (KTt.upd hd3)) (paired_append h2 (.cons ⟨t, rfl, ht⟩ .nil))
      · rw [tk]
        exact List.Sublist.append h3 (List.Sublist.refl _)
      · intro b o n e2
        rw [upd_ne (fun z => by
          subst z
          have q := kx b o n e2
          rw [nd] at q
          cases q)]
        exact k3 _ _ n (h4 _ _ n e2)
      · rw [upd_ne npd]
        exact p3
      · rw [upd_ne ned]
        exact he3
      · exact cellsT_kt (q3.trans (KTt.upd hd3)) h7
    · refine ⟨acc, cs', hd3, cellsT_kt q3 h2, ?_, h4.trans k3, p3, he3, cellsT_kt q3 h7⟩
      rw [tk]
      exact List.Sublist.trans h3 (List.sublist_append_left _ _)
  · rintro H2 ⟨acc, cs', h1, h2, h3, h4, h5, h6, h7⟩
    have h3' : cs'.Sublist cs := List.Sublist.trans h3 (List.take_sublist _ _)
    refine ⟨!acc.isEmpty, .inl ⟨acc, SqL.of h1, rfl⟩, ite2 (fun e1 => ?_) (fun e1 => ?_)⟩
    · refine k _ _ ⟨⟨d, acc, cs', y8, y9, y10, rfl, ?_, Ne.symm npd, h1, h2, ⟨gd.asc.sublist h3', fun c hc => gd.grid c (h3'.subset hc), ?_⟩, Nat.le_trans h3'.length_le hl⟩, h4, h5⟩
      · cases q : H d with
        | none => rfl
        | some o =>
          have z := kx d o (Ne.symm npd) q
          rw [nd] at z
          cases z
      · intro z
        subst z
        cases h2
        cases e1
    · exact ⟨_, rfl, k _ _ ⟨⟨e, xs, cs, y8, y9, y10, rfl, he0, hep, h6, h7, gd, hl⟩, h4, h5⟩⟩
end KS
namespace KS
open PySem PySem.Spec PyProof.Rows L2
/-- if mode == n: every = [spot for spot in every if ..] or every -/
theorem filT_if {K : PySem.W.Frag} {p : Addr} {H : Hp} {m mode wide high top left n : Int} {tc : TT} {D : Ends} {σ : L2.St} {H' : Hp} (h : PlStT K p H m mode wide high top left σ H')
    (htc : ∀ (t : Addr) (c : Cell) (H2 : Hp) (R : Bool → Hp → Prop), SqT K H2 t [.int c.1, .int c.2] → PoolO (H2 p) → (∀ b H3, KeepX p H2 H3 → PoolO (H3 p) → R b H3) → tc (σ.set 12 (some (.ref t))) H2 R)
    (k : ∀ σ' H'', PlStT K p H m mode wide high top left σ' H'' → D.nx σ' H'') : tIfS (tTest (tOp rEq (tVar 2) (tC (.int n)))) (tFil K tc) tNext D σ H' := by
  obtain ⟨e, xs, cs, y8, y9, y10, es, rest⟩ := h.ex
  refine ⟨.int mode, by rw [es]; rfl, rfl, _, rfl, ite2 (fun e => ?_) (fun e => ?_)⟩
  · exact filT_ok h htc k
  · exact k _ _ h
theorem drawT_test {K : PySem.W.Frag} {p : Addr} {H : Hp} {m mode wide high top left n : Int} {σ : L2.St} {H' : Hp} (h : PlStT K p H m mode wide high top left σ H') (n0 : 0 < n) (n1 : n < 1073741824)
    (t : Addr) (c : Cell) (H2 : Hp) (R : Bool → Hp → Prop) (ht : SqT K H2 t [.int c.1, .int c.2]) (po : PoolO (H2 p)) (k : ∀ b H3, KeepX p H2 H3 → PoolO (H3 p) → R b H3) :
    tTest (tOp (rI0 fun i j => .bl (decide (i > j))) (tDr (tC (.int n))) (tC (.int 0))) (σ.set 12 (some (.ref t))) H2 R := by
  obtain ⟨e, xs, cs, y8, y9, y10, es, rest⟩ := h.ex
  subst es
  exact ⟨_, rfl, p, n, rfl, po, n0, n1, fun H3 r k3 po3 r0 r1 => ⟨_, _, rfl, rfl, _, rfl, k _ _ k3 po3⟩⟩
end KS
namespace KS
open PySem PySem.Spec PyProof.Rows L2
theorem filT3_if {K : PySem.W.Frag} {p : Addr} {H : Hp} {m mode wide high top left : Int} {D : Ends} {σ : L2.St} {H' : Hp} (h : PlStT K p H m mode wide high top left σ H')
    (k : ∀ σ' H'', PlStT K p H m mode wide high top left σ' H'' → D.nx σ' H'') :
    tIfS (tTest (tOp rEq (tVar 2) (tC (.int 3)))) (tSeq (tAsg (tOp rAdd (tOp rAdd (tVar 5) (tVar 6)) (tDr (tC (.int 4)))) (gName 9))
      (tSeq (tAsg (tOp rSub (tOp rSub (tOp rAdd (tOp rAdd (tOp rAdd (tVar 5) (tVar 6)) (tVar 4)) (tVar 3)) (tC (.int 2))) (tDr (tC (.int 4)))) (gName 10))
      (tFil K (tTest (tChain rLe rLe (tVar 9) (tCB (rSumT K) (tCons (tVar 12) tNil)) (tVar 10)))))) tNext D σ H' := by
  obtain ⟨⟨e, xs, cs, y8, y9, y10, rfl, he0, hep, he, hc, gd, hl⟩, kx, po⟩ := id h
  refine ⟨_, rfl, rfl, _, rfl, ite2 (fun e => ?_) (fun e => ?_)⟩
  · refine ⟨_, rfl, _, rfl, _, _, rfl, rfl, _, rfl, p, 4, rfl, po, by decide, by decide, fun H1 a k1 po1 _ _ => ⟨_, _, rfl, rfl, ?_⟩⟩
    refine ⟨_, rfl, _, rfl, _, _, rfl, rfl, _, rfl, _, _, rfl, rfl, _, rfl, _, _, rfl, rfl, _, _, rfl, rfl, _, rfl, p, 4, rfl, po1, by decide, by decide, fun H2 b k2 po2 _ _ => ⟨_, _, rfl, rfl, ?_⟩⟩
    have k12 := k1.trans k2
    refine filT_ok (p := p) (H := H) (m := m) (mode := mode) (wide := wide) (high := high) (top := top) (left := left)
      ⟨⟨_, xs, cs, y8, _, _, rfl, he0, hep, k12 _ _ hep he, cellsT_kt (KTt.of_keepX po k12) hc, gd, hl⟩, kx.trans k12, po2⟩ (fun t c H3 R ht p3 kk => ?_) k
    refine ⟨_, rfl, _, rfl, t, [c.1, c.2], rfl, ht, _, _, rfl, rfl, _, rfl, ite2 (fun e1 => ?_) (fun e1 => ?_)⟩
    · exact ⟨_, rfl, _, _, rfl, rfl, _, rfl, kk _ _ (KeepX.refl _ _) p3⟩
    · exact ⟨_, rfl, kk _ _ (KeepX.refl _ _) p3⟩
  · exact k _ _ h
end KS
namespace KS
open PySem PySem.Spec PyProof.Rows L2
theorem tyx_tup {K : PySem.W.Frag} {H : Hp} {a : Addr} {xs : List V} (h : SqT K H a xs) : TyX K H (.ref a) (.type "tuple") := by
  rcases h with (h | ⟨o, h⟩) | h
  · exact .base (.tup h)
  · exact .fTuple h
  · obtain ⟨o, its, n, e, c, r⟩ := h
    exact .kTuple e c
theorem bl_true {p : Prop} [Decidable p] (h : p) : V.bl (decide p) = V.bl true := by rw [decide_eq_true h]
theorem bl_false {p : Prop} [Decidable p] (h : ¬ p) : V.bl (decide p) = V.bl false := by rw [decide_eq_false h]
/-- a number of a row or column -/
def Place (v : Int) : Prop := 0 ≤ v ∧ v ≤ 7
def spWhole : Sp := fun vs H Q _ => ∃ i : Int, vs = [.int i] ∧ Q (.bl true) H
def spBetween : Sp := fun vs H Q _ => ∃ i lo hi : Int, vs = [.int i, .int lo, .int hi] ∧ lo ≤ i ∧ i ≤ hi ∧ Q (.bl true) H
def spPlace : Sp := fun vs H Q _ => ∃ i : Int, vs = [.int i] ∧ Place i ∧ Q (.bl true) H
def spIsCell (K : PySem.W.Frag) : Sp := fun vs H Q _ => ∃ (a : Addr) (c : Cell), vs = [.ref a] ∧ SqT K H a [.int c.1, .int c.2] ∧ InGrid c ∧ Q (.bl true) H
def spCheck (K : PySem.W.Frag) : Sp := fun vs H Q _ => ∃ (a : Addr) (cs : List Cell), vs = [.ref a] ∧ PlanAt K H a cs ∧ Good cs ∧ cs.length ≤ 24 ∧ ∀ H', Same H H' → Q .non H'
theorem good_step {cs : List Cell} (g : cs.Pairwise lt2) {i : Nat} {a b : Cell} (h1 : cs[i]? = some a) (h2 : cs[i + 1]? = some b) : lt2 a b := by
  obtain ⟨l1, e1⟩ := List.getElem?_eq_some_iff.mp h1
  obtain ⟨l2, e2⟩ := List.getElem?_eq_some_iff.mp h2
  have := (List.pairwise_iff_getElem.mp g) i (i + 1) l1 l2 (by omega)
  rw [e1, e2] at this
  exact this
theorem not_le2 {a b : Cell} (h : lt2 a b) : Ob.lexAt (fun j => decide (([b.1, b.2] : List Int).getD j 0 = ([a.1, a.2] : List Int).getD j 0)) (fun j => decide (([b.1, b.2] : List Int).getD j 0 ≤ ([a.1, a.2] : List Int).getD j 0)) (decide (([b.1, b.2] : List Int).length ≤ ([a.1, a.2] : List Int).length)) 0 (min ([b.1, b.2] : List Int).length ([a.1, a.2] : List Int).length) = false := by
  show Ob.lexAt _ _ _ 0 2 = false
  rw [Ob.lexAt_succ, Ob.lexAt_succ]
  show (if decide (b.1 = a.1) = true then (if decide (b.2 = a.2) = true then _ else decide (b.2 ≤ a.2)) else decide (b.1 ≤ a.1)) = false
  rcases h with h | ⟨h1, h2⟩
  · rw [if_neg (by simp; omega)]
    simp
    omega
  · rw [if_pos (by simp; omega), if_neg (by simp; omega)]
    simp
    omega
end KS
namespace KS
open PySem PySem.Spec PyProof.Rows L2
/-! ### f(k = v, ..), keywords alone -/
structure KwBinds (fd : FuncData) (ps ks : List Str) (g : List Value → List Value) (gV : List V → List V) : Prop where
  to : ∀ (s : Shared) (ws : List Value), (g ws).length = ps.length → BindsTo s fd ⟨[], ks.zip ws⟩ (ps.zip (g ws))
  rel : ∀ {zs : List V} {ws : List Value}, Vals zs ws → Vals (gV zs) (g ws)
def tCallKw (sp : Sp) (gV : List V → List V) (E : XK) (tk : TA) : TE := fun σ H Q => tk σ H fun zs H2 => sp (gV zs) H2 Q E
section
variable {X : Cx} {CX : CXT} {k : Nat} {f : Addr} {fd : FuncData} {ps ks : List Str} {sp : Sp} {E : XK} {x : Str} {p pos : Pos} {kws : List Keyword} {tk : TA} {g : List Value → List Value} {gV : List V → List V}
theorem pe_callKw (F : FnOk X.prog X.w X.K X.mg X.base CX k f fd ps sp) (hr : Room k X.A) (hg : Gl X x) (hm : X.mg x = some (.ref f)) (hk : PySem.W.keepIn X.K (.ref f) = true) (hb : KwBinds fd ps ks g gV)
    (hx : Passes CX X E) (hkw : PK X kws tk) (hall : (backToKw pos (keywordEach kws X.env)).all (·.1.isSome) = true := by rfl)
    (hks : (backToKw pos (keywordEach kws X.env)).filterMap (·.1) = ks := by rfl) (hdb : (x == ("__debug__" : Str)) = false := by decide)
    (hpl : ((backTo pos (starEach [] X.env)).any (·.1) || (backToKw pos (keywordEach kws X.env)).any (·.1.isNone)) = false := by rfl) :
    PE X (.Call (.Name x p) [] kws pos) (tCallKw sp gV E tk) := by
  refine ⟨fun pins s σ H Q I h => wpAny_Call_Name_kw (ld_glob I hg hm ?_ hdb)⟩
  refine PySem.W.callWith_KW0 (h₀ := X.base) I.ok.mod.kin hk hall ?_ hpl
  refine thn (hkw.run pos pins s σ H _ I h) fun ws s2 hh => ?_
  obtain ⟨zs, H2, I2, rz, q2⟩ := hh
  refine ⟨I2.kIn, ?_⟩
  rw [hks]
  have r2 := hb.rel rz
  have hl : (g ws).length = ps.length := by
    rw [← r2.length]
    exact F.len _ _ _ _ q2
  show wpAny _ _ (call (.ref f) [] (ks.zip ws)) _ _ _
  refine wpAny_call (codeAny_mono (F.run X.A X.stack s2 H2 ⟨[], ks.zip ws⟩ (g ws) (gV zs) Q E hr I2.env0 (hb.to s2 ws hl) r2 q2) fun z s' hq => ?_)
  cases z with
  | error e => exact hx pins σ H2 s2 e s' I2 hq
  | ok fl =>
    cases fl with
    | ret u => exact I2.after hq
    | next => cases hq
    | brk => cases hq
    | cont => cases hq
end
theorem kw_binds {K : PySem.W.Frag} {x qual : Str} {st : Stmt} {f : Addr} {fd : FuncData} {ps ks : List Str} {g : List Value → List Value} {gV : List V → List V} (F : Fun K x qual st f fd)
    (h : ∀ (kV doc pm : Value) (an : Option Addr) (cdv ct : Value) (ws : List Value), (g ws).length = ps.length →
      bindArgs (PySem.W.fnOf x qual (defArgs st) (defBody st) (defScope st) .none kV doc pm an cdv ct) ⟨[], ks.zip ws⟩ = pure (ps.zip (g ws)))
    (rel : ∀ {zs : List V} {ws : List Value}, Vals zs ws → Vals (gV zs) (g ws)) : KwBinds fd ps ks g gV := by
  obtain ⟨oc, od, kV, doc, pm, an, cdv, ct, osl, rfl, lk, hcd⟩ := F.ex
  exact ⟨fun s ws hl => .of_eq (h kV doc pm an cdv ct ws hl), rel⟩
/-- two keywords, in the other order -/
def swap2 {α : Type} : List α → List α
  | [a, b] => [b, a]
  | _ => []
theorem swap2_rel {zs : List V} {ws : List Value} (r : Vals zs ws) : Vals (swap2 zs) (swap2 ws) := by
  cases r with
  | nil => exact .nil
  | cons r1 r2 =>
    cases r2 with
    | nil => exact .nil
    | cons r3 r4 =>
      cases r4 with
      | nil => exact .cons r3 (.cons r1 .nil)
      | cons _ _ => exact .nil
/-! ### lines, as numbers -/
/-- row (false) or column (true) of a cell -/
def pick (b : Bool) (c : Cell) : Int := if b = true then c.2 else c.1
/-- the indexes below i of cells in line r -/
def idxs (b : Bool) (cs : List Cell) (i : Nat) (r : Int) : List Int := ((List.range i).filter fun j => decide ((cs[j]?).map (pick b) = some r)).map fun (j : Nat) => (j : Int)
theorem idxs_zero (b : Bool) (cs : List Cell) (r : Int) : idxs b cs 0 r = [] := rfl
theorem idxs_hit {b : Bool} {cs : List Cell} {i : Nat} {c : Cell} (h : cs[i]? = some c) : idxs b cs (i + 1) (pick b c) = idxs b cs i (pick b c) ++ [(i : Int)] := by
  unfold idxs
  rw [List.range_succ, List.filter_append, List.map_append]
  congr 1
  rw [List.filter_cons_of_pos (by simp [h])]
  rfl
theorem idxs_miss {b : Bool} {cs : List Cell} {i : Nat} {c : Cell} {r : Int} (h : cs[i]? = some c) (n : pick b c ≠ r) : idxs b cs (i + 1) r = idxs b cs i r := by
  unfold idxs
  rw [List.range_succ, List.filter_append, List.map_append]
  rw [List.filter_cons_of_neg (by simp [h, n])]
  simp
def lnsOf (b : Bool) (cs : List Cell) : List (List Int) := ((List.range 8).map fun (r : Nat) => idxs b cs cs.length (r : Int)).filter fun l => decide (l ≠ [])
theorem idxs_mem {b : Bool} {cs : List Cell} {i : Nat} {r x : Int} (h : x ∈ idxs b cs i r) : 0 ≤ x ∧ x < (i : Int) := by
  unfold idxs at h
  obtain ⟨j, hj, rfl⟩ := List.mem_map.mp h
  have := List.mem_range.mp (List.mem_filter.mp hj).1
  omega
theorem idxs_len (b : Bool) (cs : List Cell) (i : Nat) (r : Int) : (idxs b cs i r).length ≤ i := by
  unfold idxs
  rw [List.length_map]
  exact Nat.le_trans (List.length_filter_le _ _) (by simp)
theorem idxs_grid {b : Bool} {cs : List Cell} {i : Nat} {r : Int} (g : ∀ c ∈ cs, InGrid c) (h : idxs b cs i r ≠ []) : 0 ≤ r ∧ r < 8 := by
  cases e : idxs b cs i r with
  | nil => exact absurd e h
  | cons x l =>
    have hx : x ∈ idxs b cs i r := by
      rw [e]
      exact List.mem_cons_self
    unfold idxs at hx
    obtain ⟨j, hj, rfl⟩ := List.mem_map.mp hx
    have q := of_decide_eq_true (List.mem_filter.mp hj).2
    cases z : cs[j]? with
    | none =>
      rw [z] at q
      cases q
    | some c =>
      rw [z] at q
      have q' : pick b c = r := Option.some.inj q
      have gc := g c (List.mem_of_getElem? z)
      unfold pick at q'
      unfold InGrid at gc
      split at q' <;> omega
/-- two strictly ascending lists with the same members are one -/
theorem asc_ext : ∀ {l m : List Int}, l.Pairwise (· < ·) → m.Pairwise (· < ·) → (∀ x, x ∈ l ↔ x ∈ m) → l = m
  | [], [], _, _, _ => rfl
  | [], y :: m, _, _, h => absurd ((h y).mpr List.mem_cons_self) (by simp)
  | x :: l, [], _, _, h => absurd ((h x).mp List.mem_cons_self) (by simp)
  | x :: l, y :: m, h1, h2, h => by
    rw [List.pairwise_cons] at h1 h2
    have e : x = y := by
      rcases List.mem_cons.mp ((h x).mp List.mem_cons_self) with z | z
      · exact z
      · rcases List.mem_cons.mp ((h y).mpr List.mem_cons_self) with z2 | z2
        · exact z2.symm
        · have a := h2.1 x z
          have b := h1.1 y z2
          omega
    subst e
    congr 1
    refine asc_ext h1.2 h2.2 fun z => ⟨fun hz => ?_, fun hz => ?_⟩
    · rcases List.mem_cons.mp ((h z).mp (List.mem_cons_of_mem _ hz)) with e | e
      · have := h1.1 z hz
        omega
      · exact e
    · rcases List.mem_cons.mp ((h z).mpr (List.mem_cons_of_mem _ hz)) with e | e
      · have := h2.1 z hz
        omega
      · exact e
theorem strict_of {l : List Int} (h : l.Pairwise (· ≤ ·)) (n : l.Nodup) : l.Pairwise (· < ·) := by
  rw [List.nodup_iff_pairwise_ne] at n
  exact (h.and n).imp fun {a b} q => by omega
/-- the lines in use, by number -/
def usedOf (b : Bool) (cs : List Cell) : List Int := ((List.range 8).map fun (r : Nat) => (r : Int)).filter fun r => decide (idxs b cs cs.length r ≠ [])
theorem used_asc (b : Bool) (cs : List Cell) : (usedOf b cs).Pairwise (· < ·) := by
  unfold usedOf
  exact List.Pairwise.sublist List.filter_sublist (by decide)
theorem used_lines (b : Bool) (cs : List Cell) : (usedOf b cs).map (fun r => idxs b cs cs.length r) = lnsOf b cs := by
  unfold usedOf lnsOf
  rw [List.filter_map, List.filter_map, List.map_map]
  rfl
theorem used_mem {b : Bool} {cs : List Cell} (g : ∀ c ∈ cs, InGrid c) (r : Int) : r ∈ usedOf b cs ↔ idxs b cs cs.length r ≠ [] := by
  unfold usedOf
  rw [List.mem_filter]
  refine ⟨fun h => of_decide_eq_true h.2, fun h => ⟨?_, decide_eq_true h⟩⟩
  have := idxs_grid g h
  rw [List.mem_map]
  exact ⟨r.toNat, List.mem_range.mpr (by omega), by omega⟩
/-! ### lines, in the heap -/
def TupI (K : PySem.W.Frag) (H : Hp) (x : V) (l : List Int) : Prop := ∃ t, x = .ref t ∧ SqT K H t (l.map V.int)
def LstI (H : Hp) (x : V) (l : List Int) : Prop := ∃ t, x = .ref t ∧ H t = some (.lst (l.map V.int))
abbrev lineD (l : List Int) : PyData := .tuple (l.map PyData.int)
abbrev linesD (ls : List (List Int)) : PyData := .tuple (ls.map lineD)
theorem dp_ints {K : PySem.W.Frag} {H : Hp} : ∀ l : List Int, DpAll K H (l.map V.int) (l.map PyData.int)
  | [] => .nil
  | x :: l => .cons (.int x) (dp_ints l)
theorem dp_lines {K : PySem.W.Frag} {H : Hp} : ∀ {xs : List V} {ls : List (List Int)}, Paired (TupI K H) xs ls → DpAll K H xs (ls.map lineD)
  | _, _, .nil => .nil
  | _, _, .cons ⟨t, e, h⟩ r => by
    subst e
    exact .cons (.tup h (dp_ints _)) (dp_lines r)
theorem tupI_kt {K : PySem.W.Frag} {H H' : Hp} (k : KT K H H') {xs : List V} {ls : List (List Int)} (h : Paired (TupI K H) xs ls) : Paired (TupI K H') xs ls :=
  Paired.mono (fun _ _ ⟨t, e, q⟩ => ⟨t, e, k _ _ q⟩) h
def spIsKind : Sp := fun vs H Q _ => ∃ b : Bool, vs = [.str (if b = true then "C" else "R")] ∧ ∀ H', Same H H' → Q (.bl true) H'
def spKind : Sp := fun vs H Q _ => ∃ b : Bool, vs = [.str (if b = true then "C" else "R")] ∧ ∀ H', Same H H' → Q .non H'
def spLines (K : PySem.W.Frag) : Sp := fun vs H Q _ => ∃ (a : Addr) (b : Bool) (cs : List Cell), vs = [.ref a, .str (if b = true then "C" else "R")] ∧ PlanAt K H a cs ∧ Good cs ∧ cs.length ≤ 24 ∧
  ∀ H' p xs, Same H H' → SqT K H' p xs → Paired (TupI K H') xs (lnsOf b cs) → Q (.ref p) H'
def spLawLines (K : PySem.W.Frag) : Sp := fun vs H Q _ => ∃ (a : Addr) (b : Bool) (cs : List Cell), vs = [.ref a, .str (if b = true then "C" else "R")] ∧ PlanAt K H a cs ∧ cs.length ≤ 24 ∧
  ∀ H' p xs, Same H H' → H' p = some (.lst xs) → Paired (LstI H') xs (lnsOf b cs) → Q (.ref p) H'
end KS
namespace KS
open PySem PySem.Spec PyProof.Rows L2
/-- 0 if kind == "R" else 1 -/
theorem side_ok {b : Bool} {σ : L2.St} {H : Hp} {Q : VK} (hσ : σ[1]? = some (some (.str (if b = true then "C" else "R")))) (k : Q (.int (if b = true then 1 else 0)) H) :
    tIf (tTest (tOp rEq (tVar 1) (tC (.str "R")))) (tC (.int 0)) (tC (.int 1)) σ H Q := by
  refine ⟨_, hσ, by cases b <;> rfl, _, rfl, ?_⟩
  cases b
  · rw [if_pos (by decide +kernel)]
    exact k
  · rw [if_neg (by decide +kernel)]
    exact k
theorem at_pick {b : Bool} {c : Cell} : atI [V.int c.1, V.int c.2] (if b = true then 1 else 0) = some (V.int (pick b c)) := by
  cases b <;> rfl
/-- the dict of lines behind i cells -/
structure Grp (b : Bool) (cs : List Cell) (i : Nat) (d : Addr) (kvs : List (Key × V)) (ad : Int → Addr) (H : Hp) : Prop where
  dict : H d = some (.dK kvs)
  keys : ∃ ks : List Int, kvs.map (·.1) = ks.map Sum.inl ∧ ks.Nodup ∧ ks.length ≤ i
  val : ∀ r : Int, valV kvs (.inl r) = if idxs b cs i r = [] then none else some (.ref (ad r))
  lst : ∀ r : Int, idxs b cs i r ≠ [] → H (ad r) = some (.lst ((idxs b cs i r).map V.int))
  inj : ∀ r r' : Int, idxs b cs i r ≠ [] → idxs b cs i r' ≠ [] → ad r = ad r' → r = r'
theorem Grp.same {b : Bool} {cs : List Cell} {i : Nat} {d : Addr} {kvs : List (Key × V)} {ad : Int → Addr} {H H' : Hp} (g : Grp b cs i d kvs ad H) (s : Same H H') : Grp b cs i d kvs ad H' :=
  ⟨s _ _ g.dict, g.keys, g.val, fun r h => s _ _ (g.lst r h), g.inj⟩
theorem Grp.more {b : Bool} {cs : List Cell} {i : Nat} {d : Addr} {kvs : List (Key × V)} {ad : Int → Addr} {H : Hp} {c : Cell} (g : Grp b cs i d kvs ad H) (hc : cs[i]? = some c) (h : idxs b cs i (pick b c) ≠ []) :
    Grp b cs (i + 1) d kvs ad (upd H (ad (pick b c)) (.lst ((idxs b cs i (pick b c)).map V.int ++ [.int (i : Nat)]))) := by
  have same : ∀ r, (idxs b cs (i + 1) r = []) ↔ (idxs b cs i r = []) := fun r => by
    by_cases e : pick b c = r
    · subst e
      rw [idxs_hit hc]
      simp [h]
    · rw [idxs_miss hc e]
  have hd : d ≠ ad (pick b c) := ne_of g.dict (g.lst _ h) (by intro z; cases z)
  obtain ⟨ks, k1, k2, k3⟩ := g.keys
  refine ⟨by rw [upd_ne hd]; exact g.dict, ⟨ks, k1, k2, by omega⟩, fun r => ?_, fun r hr => ?_, fun r r' h1 h2 => g.inj r r' (fun z => h1 ((same r).mpr z)) (fun z => h2 ((same r').mpr z))⟩
  · rw [g.val r]
    by_cases e : idxs b cs i r = []
    · rw [if_pos e, if_pos ((same r).mpr e)]
    · rw [if_neg e, if_neg (fun z => e ((same r).mp z))]
  · have hr' : idxs b cs i r ≠ [] := fun z => hr ((same r).mpr z)
    by_cases e : pick b c = r
    · subst e
      rw [upd_same, idxs_hit hc, List.map_append]
      rfl
    · rw [upd_ne (fun z => e (g.inj _ _ h hr' z.symm)), idxs_miss hc e]
      exact g.lst r hr'
theorem Grp.new {b : Bool} {cs : List Cell} {i : Nat} {d z : Addr} {kvs : List (Key × V)} {ad : Int → Addr} {H : Hp} {c : Cell} (g : Grp b cs i d kvs ad H) (hc : cs[i]? = some c) (h : idxs b cs i (pick b c) = []) (nz : H z = none) :
    Grp b cs (i + 1) d (putK kvs (.inl (pick b c)) (.ref z)) (fun r => if r = pick b c then z else ad r) (upd (upd (upd H z (.lst [])) d (.dK (putK kvs (.inl (pick b c)) (.ref z)))) z (.lst ([] ++ [.int (i : Nat)]))) := by
  have hv : valV kvs (.inl (pick b c)) = none := by
    rw [g.val, if_pos h]
  have hdz : d ≠ z := ne_of_none g.dict nz
  have hput : putK kvs (Sum.inl (pick b c)) (V.ref z) = kvs ++ [(Sum.inl (pick b c), V.ref z)] := by
    unfold putK
    rw [if_neg]
    rw [valV_any, hv]
    simp
  have hit : idxs b cs (i + 1) (pick b c) = [(i : Int)] := by
    rw [idxs_hit hc, h]
    rfl
  obtain ⟨ks, k1, k2, k3⟩ := g.keys
  refine ⟨?_, ⟨ks ++ [pick b c], ?_, ?_, ?_⟩, fun r => ?_, fun r hr => ?_, fun r r' h1 h2 => ?_⟩
  · rw [upd_ne hdz, upd_same]
  · rw [hput, List.map_append, List.map_append, k1]
    rfl
  · rw [List.nodup_append]
    refine ⟨k2, by simp, fun x hx y hy e => ?_⟩
    rw [List.mem_singleton] at hy
    subst hy
    subst e
    apply valV_not hv
    rw [k1]
    exact List.mem_map.mpr ⟨_, hx, rfl⟩
  · rw [List.length_append]
    simp
    omega
  · rw [valV_put]
    by_cases e : r = pick b c
    · subst e
      rw [if_pos rfl, hit, if_neg (by simp), if_pos rfl]
    · rw [if_neg (fun q => e (Sum.inl.inj q)), g.val, idxs_miss hc (Ne.symm e), if_neg e]
  · by_cases e : r = pick b c
    · subst e
      show upd _ _ _ (if _ then z else _) = _
      rw [if_pos rfl, upd_same, hit]
      rfl
    · show upd _ _ _ (if _ then z else _) = _
      rw [if_neg e]
      rw [idxs_miss hc (Ne.symm e)] at hr ⊢
      have hl := g.lst r hr
      rw [upd_ne (ne_of_none hl nz), upd_ne (ne_of hl g.dict (by intro q; cases q)), upd_ne (ne_of_none hl nz)]
      exact hl
  · intro e
    by_cases e1 : r = pick b c
    · by_cases e2 : r' = pick b c
      · rw [e1, e2]
      · have e' : (if r = pick b c then z else ad r) = (if r' = pick b c then z else ad r') := e
        rw [if_pos e1, if_neg e2] at e'
        rw [idxs_miss hc (Ne.symm e2)] at h2
        have := g.lst r' h2
        rw [← e', nz] at this
        cases this
    · have e' : (if r = pick b c then z else ad r) = (if r' = pick b c then z else ad r') := e
      rw [idxs_miss hc (Ne.symm e1)] at h1
      by_cases e2 : r' = pick b c
      · rw [if_neg e1, if_pos e2] at e'
        have := g.lst r h1
        rw [e', nz] at this
        cases this
      · rw [if_neg e1, if_neg e2] at e'
        rw [idxs_miss hc (Ne.symm e2)] at h2
        exact g.inj r r' h1 h2 e'
/-- the sorted keys are the lines in use -/
theorem Grp.used {b : Bool} {cs : List Cell} {d : Addr} {kvs : List (Key × V)} {ad : Int → Addr} {H : Hp} {ks ys : List Int} (g : Grp b cs cs.length d kvs ad H) (gr : ∀ c ∈ cs, InGrid c) (e : kvs.map (·.1) = ks.map Sum.inl) (n : ks.Nodup) (p : ys.Perm ks) (s : ys.Pairwise (· ≤ ·)) : ys = usedOf b cs := by
  refine asc_ext (strict_of s (p.nodup_iff.mpr n)) (used_asc b cs) fun r => ?_
  rw [p.mem_iff, used_mem gr]
  have key : r ∈ ks ↔ (Sum.inl r : Key) ∈ kvs.map (·.1) := by
    rw [e, List.mem_map]
    exact ⟨fun h => ⟨r, h, rfl⟩, fun ⟨x, hx, q⟩ => by cases q; exact hx⟩
  rw [key]
  constructor
  · intro h z
    have hv : valV kvs (.inl r) = none := by rw [g.val, if_pos z]
    exact valV_not hv h
  · intro h
    exact valV_in (v := .ref (ad r)) (by rw [g.val, if_neg h])
end KS
namespace KS
open PySem PySem.Spec PyProof.Rows L2
theorem ints_lay : ∀ l : List Int, PyData.canLayAll0 (l.map PyData.int) = true ∧ PyData.depthAll (l.map PyData.int) = 0
  | [] => ⟨by simp only [List.map_nil, PyData.canLayAll0], by simp only [List.map_nil, PyData.depthAll]⟩
  | x :: l => by
    obtain ⟨h1, h2⟩ := ints_lay l
    simp only [List.map_cons, PyData.canLayAll0, PyData.depthAll, PyData.canLay0, PyData.depth, h1, h2, Bool.and_self, Nat.max_self, and_self]
theorem ints_shaped (l : List Int) : SeqAt.shaped (.list (l.map PyData.int)) = true := by
  obtain ⟨h1, h2⟩ := ints_lay l
  unfold SeqAt.shaped
  simp only [PyData.canLay0, PyData.depth, h1, h2]
  decide
theorem ints_eqv_nil (l : List Int) : PyData.eqv (.list (l.map PyData.int)) (.list []) = l.isEmpty := by
  cases l with
  | nil => decide
  | cons x l => rfl
theorem kind_test (b : Bool) : decide (V.str (if b = true then "C" else "R") = V.str "C") = b := by
  cases b <;> decide +kernel
/-- the lines below r that are in use -/
def lnsTo (b : Bool) (cs : List Cell) (r : Nat) : List (List Int) := ((List.range r).map fun (r : Nat) => idxs b cs cs.length (r : Int)).filter fun l => decide (l ≠ [])
theorem lnsTo_hit {b : Bool} {cs : List Cell} {r : Nat} (h : idxs b cs cs.length (r : Int) ≠ []) : lnsTo b cs (r + 1) = lnsTo b cs r ++ [idxs b cs cs.length (r : Int)] := by
  unfold lnsTo
  rw [List.range_succ, List.map_append, List.filter_append]
  congr 1
  rw [List.map_cons, List.filter_cons_of_pos (by simpa using h)]
  rfl
theorem lnsTo_miss {b : Bool} {cs : List Cell} {r : Nat} (h : idxs b cs cs.length (r : Int) = []) : lnsTo b cs (r + 1) = lnsTo b cs r := by
  unfold lnsTo
  rw [List.range_succ, List.map_append, List.filter_append, List.map_cons, List.filter_cons_of_neg (by simp [h])]
  simp
theorem lnsTo_len (b : Bool) (cs : List Cell) (r : Nat) : (lnsTo b cs r).length ≤ r := by
  unfold lnsTo
  exact Nat.le_trans (List.length_filter_le _ _) (by simp)
end KS
namespace KS
open PySem PySem.Spec PyProof.Rows L2
/-! ### small data can be shown -/
theorem small_int {x : Int} (h0 : 0 ≤ x) (h1 : x < 10000) : PyData.leavesShort 8 (.int x) = true ∧ PyData.showable (.int x) = true ∧ PyData.weight (.int x) ≤ 14 := by
  obtain ⟨n, rfl⟩ := Int.eq_ofNat_of_zero_le h0
  have hn : n < 10000 := by omega
  have hlog : n.log2 < 14 := by
    rcases Nat.eq_zero_or_pos n with z | z
    · subst z
      decide
    · exact (Nat.log2_lt (by omega)).mpr (by omega)
  refine ⟨?_, ?_, ?_⟩
  · simp only [PyData.leavesShort]
    exact decide_eq_true (by
      simp only [PyData.shown]
      exact toString_length_le (k := 8) (by omega) (by decide) (by show (n : Int) < 10 ^ 8; omega))
  · simp only [PyData.showable]
    exact decide_eq_true (by show n.log2 < 1920; omega)
  · simp only [PyData.weight]
    split
    · omega
    · show n.log2 + 1 ≤ 14
      omega
/-- what repr asks of its data -/
structure Shows (d : PyData) (n : Nat) : Prop where
  short : d.leavesShort 8 = true
  show_ : d.showable = true
  nod : d.hasDict = false
  wt : d.weight ≤ n
structure ShowsAll (ds : List PyData) (n : Nat) : Prop where
  short : PyData.leavesShortAll 8 ds = true
  show_ : PyData.showableAll ds = true
  nod : PyData.hasDictAll ds = false
  wt : PyData.weightAll ds ≤ (n + 1) * ds.length
theorem showsAll_of {n : Nat} : ∀ {ds : List PyData}, (∀ d ∈ ds, Shows d n) → ShowsAll ds n
  | [], _ => ⟨by simp only [PyData.leavesShortAll], by simp only [PyData.showableAll], by simp only [PyData.hasDictAll], by simp [PyData.weightAll]⟩
  | d :: ds, h => by
    have h1 := h d List.mem_cons_self
    have h2 := showsAll_of fun x hx => h x (List.mem_cons_of_mem _ hx)
    refine ⟨?_, ?_, ?_, ?_⟩
    · simp only [PyData.leavesShortAll, h1.short, h2.short, Bool.and_self]
    · simp only [PyData.showableAll, h1.show_, h2.show_, Bool.and_self]
    · simp only [PyData.hasDictAll, h1.nod, h2.nod, Bool.or_self]
    · simp only [PyData.weightAll, List.length_cons]
      have a := h1.wt
      have b := h2.wt
      rw [Nat.mul_add, Nat.mul_one]
      omega
theorem shows_tuple {n m : Nat} {ds : List PyData} (h : ShowsAll ds n) (hm : (n + 1) * ds.length ≤ m) : Shows (.tuple ds) m := by
  refine ⟨?_, ?_, ?_, ?_⟩
  · simp only [PyData.leavesShort, h.short]
  · simp only [PyData.showable, h.show_]
  · simp only [PyData.hasDict, h.nod]
  · simp only [PyData.weight]
    exact Nat.le_trans h.wt hm
theorem shows_int {x : Int} (h0 : 0 ≤ x) (h1 : x < 10000) : Shows (.int x) 14 := by
  obtain ⟨a, b, c⟩ := small_int h0 h1
  exact ⟨a, b, by simp only [PyData.hasDict], c⟩
theorem Shows.len {d : PyData} {n : Nat} (h : Shows d n) (hn : n ≤ 1048576) : d.shown.length ≤ sizeLine :=
  PyData.shown_fits (B := 8) (by decide) (by decide) h.short (Nat.le_trans h.wt (by
    show n ≤ 2 ^ 20
    have : (2 : Nat) ^ 20 = 1048576 := by decide
    omega))
theorem shows_line {l : List Int} (h : ∀ x ∈ l, 0 ≤ x ∧ x < 10000) (hl : l.length ≤ 64) : Shows (lineD l) 960 := by
  refine shows_tuple (n := 14) (showsAll_of fun d hd => ?_) ?_
  · obtain ⟨x, hx, rfl⟩ := List.mem_map.mp hd
    exact shows_int (h x hx).1 (h x hx).2
  · rw [List.length_map]
    omega
theorem shows_lines {ls : List (List Int)} (h : ∀ l ∈ ls, (∀ x ∈ l, 0 ≤ x ∧ x < 10000) ∧ l.length ≤ 64) (hl : ls.length ≤ 64) : Shows (linesD ls) 61504 := by
  refine shows_tuple (n := 960) (showsAll_of fun d hd => ?_) ?_
  · obtain ⟨l, hx, rfl⟩ := List.mem_map.mp hd
    exact shows_line (h l hx).1 (h l hx).2
  · rw [List.length_map]
    omega
theorem depth_line (l : List Int) : (lineD l).depth = 1 := by
  simp only [PyData.depth, (ints_lay l).2]
theorem depth_lines : ∀ ls : List (List Int), PyData.depthAll (ls.map lineD) ≤ 1
  | [] => by simp [PyData.depthAll]
  | l :: ls => by
    have a := depth_lines ls
    have b := depth_line l
    simp only [List.map_cons, PyData.depthAll]
    omega
theorem lns_small {b : Bool} {cs : List Cell} (hl : cs.length ≤ 24) : Shows (linesD (lnsOf b cs)) 61504 ∧ (linesD (lnsOf b cs)).depth ≤ 64 := by
  refine ⟨shows_lines (fun l h => ?_) ?_, ?_⟩
  · unfold lnsOf at h
    obtain ⟨r, _, rfl⟩ := List.mem_map.mp (List.mem_filter.mp h).1
    refine ⟨fun x hx => ?_, ?_⟩
    · have := idxs_mem hx
      omega
    · have := idxs_len b cs cs.length (r : Int)
      omega
  · have : (lnsOf b cs).length ≤ 8 := lnsTo_len b cs 8
    omega
  · have := depth_lines (lnsOf b cs)
    simp only [PyData.depth]
    omega
/-! ### sorted cells -/
def keyOf (H : Hp) : V → Int × Int
  | .ref t => match H t with
    | some (.tup [.int i, .int j]) => (i, j)
    | _ => (0, 0)
  | _ => (0, 0)
theorem keyOf_at {H : Hp} {t : Addr} {i j : Int} (h : H t = some (.tup [.int i, .int j])) : keyOf H (.ref t) = (i, j) := by
  show (match H t with
    | some (.tup [.int i, .int j]) => ((i, j) : Int × Int)
    | _ => (0, 0)) = (i, j)
  rw [h]
theorem nodup_of_asc {cs : List Cell} (h : cs.Pairwise lt2) : cs.Nodup := by
  rw [List.nodup_iff_pairwise_ne]
  refine h.imp fun {a b} q e => ?_
  subst e
  rcases q with q | q <;> omega
/-- new cells, in a list -/
def NewCells (H : Hp) : List V → List Cell → Prop := Paired fun x c => ∃ t, x = .ref t ∧ H t = some (.tup [.int c.1, .int c.2])
theorem newCells_mono {H H' : Hp} (k : ∀ t ys, H t = some (.tup ys) → H' t = some (.tup ys)) {xs : List V} {cs : List Cell} (h : NewCells H xs cs) : NewCells H' xs cs :=
  Paired.mono (fun _ _ ⟨t, e, q⟩ => ⟨t, e, k _ _ q⟩) h
theorem newCells_key {H : Hp} : ∀ {xs : List V} {cs : List Cell}, NewCells H xs cs → xs.map (keyOf H) = cs
  | _, _, .nil => rfl
  | _, _, .cons ⟨t, e, h⟩ r => by
    subst e
    rw [List.map_cons, keyOf_at h, newCells_key r]
theorem newCells_mem {H : Hp} : ∀ {xs : List V} {cs : List Cell}, NewCells H xs cs → ∀ x ∈ xs, ∃ t, x = .ref t ∧ H t = some (.tup [.int (keyOf H x).1, .int (keyOf H x).2])
  | _, _, .nil, _, h => nomatch h
  | _, _, .cons ⟨t, e, h⟩ r, x, hx => by
    rcases List.mem_cons.mp hx with z | z
    · subst z
      subst e
      exact ⟨t, rfl, by rw [keyOf_at h]; exact h⟩
    · exact newCells_mem r x z
theorem cells_of_mem {K : PySem.W.Frag} {H : Hp} : ∀ {ys : List V}, (∀ x ∈ ys, ∃ t, x = .ref t ∧ H t = some (.tup [.int (keyOf H x).1, .int (keyOf H x).2])) → CellsAt K H ys (ys.map (keyOf H))
  | [], _ => .nil
  | y :: ys, h => by
    obtain ⟨t, e, q⟩ := h y List.mem_cons_self
    exact .cons ⟨t, e, SqT.of q⟩ (cells_of_mem fun x hx => h x (List.mem_cons_of_mem _ hx))
/-- sorted of new cells, all different: they ascend -/
theorem sorted_cells {K : PySem.W.Frag} {H : Hp} {xs ys : List V} {cs : List Cell} (h : NewCells H xs cs) (nd : cs.Nodup) (hs : SrtO.Srtd (ltP (keyOf H)) ys) (hp : ys.Perm xs) :
    CellsAt K H ys (ys.map (keyOf H)) ∧ (ys.map (keyOf H)).Perm cs ∧ (ys.map (keyOf H)).Pairwise lt2 := by
  have p1 : (ys.map (keyOf H)).Perm cs := by
    rw [← newCells_key h]
    exact hp.map _
  refine ⟨cells_of_mem fun x hx => newCells_mem h x (hp.mem_iff.mp hx), p1, ?_⟩
  have n1 : (ys.map (keyOf H)).Nodup := p1.nodup_iff.mpr nd
  have s1 : (ys.map (keyOf H)).Pairwise fun a b => SrtO.lexB b a = false := by
    rw [List.pairwise_map]
    exact hs
  rw [List.nodup_iff_pairwise_ne] at n1
  refine (s1.and n1).imp fun {a b} q => ?_
  obtain ⟨q1, q2⟩ := q
  have q3 : ¬ (b.1 < a.1 ∨ (b.1 = a.1 ∧ b.2 < a.2)) := fun z => by
    rw [SrtO.lexB_iff.mpr z] at q1
    cases q1
  by_cases e1 : a.1 < b.1
  · exact .inl e1
  · by_cases e2 : a.1 = b.1
    · refine .inr ⟨e2, ?_⟩
      by_cases e3 : a.2 = b.2
      · exact absurd (Prod.ext e2 e3) q2
      · have : ¬ b.2 < a.2 := fun z => q3 (.inr ⟨e2.symm, z⟩)
        omega
    · exact absurd (.inl (by omega)) q3
def mir (c : Cell) : Cell := (c.1, 7 - c.2)
theorem nodup_mir {cs : List Cell} (h : cs.Nodup) : (cs.map mir).Nodup := by
  rw [List.nodup_iff_pairwise_ne] at h ⊢
  rw [List.pairwise_map]
  refine h.imp fun {a b} q e => q ?_
  have e0 : ((a.1, 7 - a.2) : Int × Int) = (b.1, 7 - b.2) := e
  injection e0 with e1 e2
  exact Prod.ext e1 (by omega)
theorem good_mir {cs ds : List Cell} (g : Good cs) (p : ds.Perm (cs.map mir)) (a : ds.Pairwise lt2) : Good ds ∧ ds.length = cs.length := by
  have hl : ds.length = cs.length := by rw [p.length_eq, List.length_map]
  refine ⟨⟨a, fun d hd => ?_, fun z => ?_⟩, hl⟩
  · obtain ⟨c, hc, rfl⟩ := List.mem_map.mp (p.mem_iff.mp hd)
    have := g.grid c hc
    unfold InGrid at this ⊢
    show 0 ≤ c.1 ∧ c.1 ≤ 7 ∧ 0 ≤ 7 - c.2 ∧ 7 - c.2 ≤ 7
    omega
  · rw [z] at hl
    exact g.ne (List.eq_nil_of_length_eq_zero hl.symm)
def spRight : Sp := fun vs H Q _ => ∃ p : Addr, vs = [.ref p] ∧ PoolO (H p) ∧ ∀ H', KeepX p H H' → Q (.bl true) H'
def spLaw (K : PySem.W.Frag) : Sp := fun vs H Q _ => ∃ (a : Addr) (ns : List Int), vs = [.ref a] ∧ SqL K H a (ns.map V.int) ∧ ns.length ≤ 63 ∧ ∀ H', Q (.bl true) H'
end KS
namespace KS
open PySem PySem.Spec PyProof.Rows L2
/-! ### a sort of lines, as mathematics -/
def sortI (l : List Int) : List Int := l.mergeSort (fun a b => decide (a ≤ b))
theorem sortI_perm (l : List Int) : (sortI l).Perm l := List.mergeSort_perm _ _
theorem sortI_asc (l : List Int) : (sortI l).Pairwise (· ≤ ·) := by
  have h := List.pairwise_mergeSort (le := fun (a b : Int) => decide (a ≤ b)) (by
    intro a b c h1 h2
    have h1 := of_decide_eq_true h1
    have h2 := of_decide_eq_true h2
    exact decide_eq_true (by omega)) (by
    intro a b
    rw [Bool.or_eq_true, decide_eq_true_eq, decide_eq_true_eq]
    omega) l
  exact h.imp fun z => of_decide_eq_true z
theorem sortI_eq {l m : List Int} (p : m.Perm l) (a : m.Pairwise (· ≤ ·)) : m = sortI l :=
  List.Perm.eq_of_pairwise (fun x y _ _ h1 h2 => by omega) a (sortI_asc l) (p.trans (sortI_perm l).symm)
theorem sortI_len (l : List Int) : (sortI l).length = l.length := (sortI_perm l).length_eq
def getI (vs : List Int) (k : Int) : Int := vs.getD k.toNat 0
def putZ (acc : List Int) (zs : List (Int × Int)) : List Int := zs.foldl (fun a z => a.set z.1.toNat z.2) acc
theorem putZ_len (zs : List (Int × Int)) : ∀ acc, (putZ acc zs).length = acc.length := by
  induction zs with
  | nil => intro acc; rfl
  | cons z zs ih =>
    intro acc
    show (putZ (acc.set z.1.toNat z.2) zs).length = _
    rw [ih, List.length_set]
theorem putZ_more (acc : List Int) (zs : List (Int × Int)) (z : Int × Int) : putZ acc (zs ++ [z]) = (putZ acc zs).set z.1.toNat z.2 := by
  unfold putZ
  rw [List.foldl_append]
  rfl
def srtL (vs acc : List Int) (l : List Int) : List Int := putZ acc (l.zip (sortI (l.map (getI vs))))
def srtTo (vs : List Int) (ls : List (List Int)) : List Int := ls.foldl (srtL vs) vs
/-- the values after a sort of this kind -/
def srt (b : Bool) (cs : List Cell) (vs : List Int) : List Int := srtTo vs (lnsOf b cs)
theorem srtTo_more (vs : List Int) (ls : List (List Int)) (l : List Int) : srtTo vs (ls ++ [l]) = srtL vs (srtTo vs ls) l := by
  unfold srtTo
  rw [List.foldl_append]
  rfl
theorem srtL_len (vs acc l : List Int) : (srtL vs acc l).length = acc.length := putZ_len _ _
theorem foldl_len {f : List Int → List Int → List Int} (h : ∀ a l, (f a l).length = a.length) : ∀ (ls : List (List Int)) (a : List Int), (ls.foldl f a).length = a.length
  | [], _ => rfl
  | l :: ls, a => by
    show (ls.foldl f (f a l)).length = _
    rw [foldl_len h ls, h]
theorem srtTo_len (vs : List Int) (ls : List (List Int)) : (srtTo vs ls).length = vs.length := foldl_len (srtL_len vs) ls vs
theorem srt_len (b : Bool) (cs : List Cell) (vs : List Int) : (srt b cs vs).length = vs.length := srtTo_len _ _
theorem idxs_nat {b : Bool} {cs : List Cell} {i : Nat} {r k : Int} (h : k ∈ idxs b cs i r) : ∃ j : Nat, k = (j : Int) ∧ j < i := by
  unfold idxs at h
  obtain ⟨j, hj, rfl⟩ := List.mem_map.mp h
  exact ⟨j, rfl, List.mem_range.mp (List.mem_filter.mp hj).1⟩
theorem lns_mem {b : Bool} {cs : List Cell} {l : List Int} (h : l ∈ lnsOf b cs) : (∀ k ∈ l, ∃ j : Nat, k = (j : Int) ∧ j < cs.length) ∧ l.length ≤ cs.length := by
  unfold lnsOf at h
  obtain ⟨r, _, rfl⟩ := List.mem_map.mp (List.mem_filter.mp h).1
  exact ⟨fun k hk => idxs_nat hk, idxs_len _ _ _ _⟩
theorem getI_at {vs : List Int} {j : Nat} (h : j < vs.length) : (vs.map V.int)[j]? = some (.int (getI vs (j : Int))) := by
  unfold getI
  rw [List.getElem?_map, Int.toNat_natCast, List.getD_eq_getElem?_getD, List.getElem?_eq_getElem h]
  rfl
theorem ixN_at {n j : Nat} (h : j < n) : ixN n (j : Int) = some j := by
  unfold ixN
  rw [if_pos (by omega), if_pos (by omega), Int.toNat_natCast]
/-- the law's own sort: of a tuple of whole numbers -/
def spLSorted (K : PySem.W.Frag) : Sp := fun xs H Q _ => ∃ (a t : Addr) (b : Bool) (cs : List Cell) (vs : List Int), xs = [.ref a, .ref t, .str (if b = true then "C" else "R")] ∧ PlanAt K H a cs ∧ cs.length ≤ 24 ∧
  SqT K H t (vs.map V.int) ∧ vs.length = cs.length ∧ ∀ H' u, Same H H' → SqT K H' u ((srt b cs vs).map V.int) → H u = none → Q (.ref u) H'
end KS
namespace KS
open PySem PySem.Spec PyProof.Rows L2
theorem ints_eqvAll : ∀ l m : List Int, PyData.eqvAll (l.map PyData.int) (m.map PyData.int) = decide (l = m)
  | [], [] => by simp [PyData.eqvAll]
  | [], _ :: _ => by simp [PyData.eqvAll]
  | _ :: _, [] => by simp [PyData.eqvAll]
  | x :: l, y :: m => by
    have h : PyData.eqvAll ((x :: l).map PyData.int) ((y :: m).map PyData.int) = (x == y && PyData.eqvAll (l.map PyData.int) (m.map PyData.int)) := by
      simp only [List.map_cons, PyData.eqvAll, PyData.eqv]
    rw [h, ints_eqvAll l m]
    by_cases e : x = y <;> by_cases e2 : l = m <;> simp [e, e2]
theorem ints_eqvL (l m : List Int) : PyData.eqv (.list (l.map PyData.int)) (.list (m.map PyData.int)) = decide (l = m) := by
  have h : PyData.eqv (.list (l.map PyData.int)) (.list (m.map PyData.int)) = PyData.eqvAll (l.map PyData.int) (m.map PyData.int) := by simp only [PyData.eqv]
  rw [h, ints_eqvAll]
theorem ints_eqvT (l m : List Int) : PyData.eqv (.tuple (l.map PyData.int)) (.tuple (m.map PyData.int)) = decide (l = m) := by
  have h : PyData.eqv (.tuple (l.map PyData.int)) (.tuple (m.map PyData.int)) = PyData.eqvAll (l.map PyData.int) (m.map PyData.int) := by simp only [PyData.eqv]
  rw [h, ints_eqvAll]
/-- whether the values of a line ascend -/
def upL (vs l : List Int) : Bool := decide (l.map (getI vs) = sortI (l.map (getI vs)))
/-- whether each line of the kind ascends -/
def rises (b : Bool) (cs : List Cell) (vs : List Int) : Bool := (lnsOf b cs).all (upL vs)
def spLRises (K : PySem.W.Frag) : Sp := fun xs H Q _ => ∃ (a t : Addr) (b : Bool) (cs : List Cell) (vs : List Int), xs = [.ref a, .ref t, .str (if b = true then "C" else "R")] ∧ PlanAt K H a cs ∧ cs.length ≤ 24 ∧
  SqT K H t (vs.map V.int) ∧ vs.length = cs.length ∧ ∀ H', Same H H' → Q (.bl (rises b cs vs)) H'
/-- the law's own words: the sorts of the letters, from left to right -/
def kindS (b : Bool) : Str := if b = true then "C" else "R"
def aft (cs : List Cell) (w : List Bool) (vs : List Int) : List Int := w.foldl (fun a b => srt b cs a) vs
theorem aft_len (cs : List Cell) : ∀ (w : List Bool) (vs : List Int), (aft cs w vs).length = vs.length
  | [], _ => rfl
  | b :: w, vs => by
    show (aft cs w (srt b cs vs)).length = _
    rw [aft_len cs w, srt_len]
theorem aft_more (cs : List Cell) (w : List Bool) (b : Bool) (vs : List Int) : aft cs (w ++ [b]) vs = srt b cs (aft cs w vs) := by
  unfold aft
  rw [List.foldl_append]
  rfl
end KS
namespace KS
open PySem PySem.Spec PyProof.Rows L2
/-- the values of a line, a new list -/
theorem pick_line {K : PySem.W.Frag} {t' : Addr} {σ : L2.St} {H : Hp} {Q : VK} {vs l : List Int} {i1 i2 i3 : Nat} {tt : Addr} (h1 : σ[i1]? = some (some (.ref t'))) (h2 : σ[i2]? = some (some (.ref tt))) (hlt : H t' = some (.lst (l.map V.int))) (ht : SqT K H tt (vs.map V.int))
    (hm : ∀ k ∈ l, ∃ j : Nat, k = (j : Int) ∧ j < vs.length) (hl : l.length ≤ 24) (h3 : i3 < σ.length) (h13 : i2 ≠ i3)
    (k : ∀ D, H D = none → Q (.ref D) (upd H D (.lst ((l.map (getI vs)).map V.int)))) :
    tLc (iList K (tVar i1)) (gName i3) tYes (tOp (rIxT K) (tVar i2) (tVar i3)) [i3] σ H Q := by
  refine ⟨_, h1, t', rfl, ⟨_, SqL.of hlt⟩, fun D nD => ?_⟩
  have ntD : t' ≠ D := ne_of_none hlt nD
  refine lc_list (K := K) (a := t') (xs := l.map V.int) (fun j G => G = upd H D (.lst (((l.take j).map (getI vs)).map V.int))) ?_ ?_ ?_ ?_
  · rfl
  · rintro j G _ rfl
    exact SqL.of (by rw [upd_ne ntD]; exact hlt)
  · rintro j x G hj rfl
    rw [List.getElem?_map] at hj
    cases ev : l[j]? with
    | none =>
      rw [ev] at hj
      cases hj
    | some k =>
      rw [ev] at hj
      cases hj
      obtain ⟨j', rfl, hj'⟩ := hm k (List.mem_of_getElem? ev)
      refine ⟨?_, .ref tt, ?_, .int (j' : Int), ?_, tt, _, _, .int (getI vs (j' : Int)), rfl, rfl, same_seqT (same_new nD) ht, atI_nat (getI_at hj'), _, upd_same, ?_, ?_⟩
      · show ((σ.set i3 none).set i3 _).set i3 none = σ.set i3 none
        rw [List.set_set, List.set_set]
      · show ((σ.set i3 none).set i3 _)[i2]? = _
        rw [List.set_set, List.getElem?_set_ne (Ne.symm h13)]
        exact h2
      · show ((σ.set i3 none).set i3 _)[i3]? = _
        rw [List.set_set, List.getElem?_set_self h3]
      · rw [List.length_map, List.length_map, List.length_take]
        exact small64 (by omega)
      · rw [upd_upd, List.take_add_one, ev, List.map_append, List.map_append]
        rfl
  · rintro G rfl
    rw [List.length_map, List.take_length]
    exact k D nD
end KS
namespace KS
open PySem PySem.Spec PyProof.Rows L2
theorem rd_ifNe {K : PySem.W.Frag} {ta tb : TE} {t u : TS} {D : Ends} {σ : L2.St} {H : Hp} (h : ta σ H fun x H1 => tb σ H1 fun y H2 => rNeD K x y H2 fun v H3 => ∃ k, v = .bl k ∧ if k = true then t D σ H3 else u D σ H3) :
    tIfS (tTest (tOp (rNeD K) ta tb)) t u D σ H := h
theorem rd_cb1 {r : List V → Hp → VK → Prop} {ta : TE} {σ : L2.St} {H : Hp} {Q : VK} (h : ta σ H fun x H1 => r [x] H1 Q) : tCB r (tCons ta tNil) σ H Q := h
theorem up_if {K : PySem.W.Frag} {t' : Addr} {σ : L2.St} {H : Hp} {vs l : List Int} {i1 i2 i3 : Nat} {tt : Addr} {tb : TS} {D : Ends} (h1 : σ[i1]? = some (some (.ref t'))) (h2 : σ[i2]? = some (some (.ref tt))) (hlt : H t' = some (.lst (l.map V.int))) (ht : SqT K H tt (vs.map V.int))
    (hm : ∀ k ∈ l, ∃ j : Nat, k = (j : Int) ∧ j < vs.length) (hl : l.length ≤ 24) (h3 : i3 < σ.length) (h13 : i2 ≠ i3)
    (k1 : ∀ H', Same H H' → upL vs l = true → D.nx σ H') (k2 : ∀ H', Same H H' → upL vs l = false → tb D σ H') :
    tIfS (tTest (tOp (rNeD K) (tLc (iList K (tVar i1)) (gName i3) tYes (tOp (rIxT K) (tVar i2) (tVar i3)) [i3]) (tCB (rSortedI K) (tCons (tLc (iList K (tVar i1)) (gName i3) tYes (tOp (rIxT K) (tVar i2) (tVar i3)) [i3]) tNil)))) tb tNext D σ H := by
  refine rd_ifNe (pick_line (K := K) (σ := σ) h1 h2 hlt ht hm hl h3 h13 (fun D1 n1 => ?_))
  have s1 := same_new (o := .lst ((l.map (getI vs)).map V.int)) n1
  refine rd_cb1 (pick_line (K := K) (σ := σ) h1 h2 (s1 _ _ hlt) (same_seqT s1 ht) hm hl h3 h13 (fun D2 n2 => ?_))
  have s2 := same_new (o := .lst ((l.map (getI vs)).map V.int)) n2
  refine ⟨D2, _, rfl, SqL.of upd_same, fun ys D3 perm asc n3 => ?_⟩
  have ey := sortI_eq perm asc
  have s3 := same_new (o := .lst (ys.map V.int)) n3
  refine ⟨_, _, .lst (SqL.of (s3 _ _ (s2 _ _ upd_same))) (dp_ints _), .lst (SqL.of upd_same) (dp_ints _), ints_shaped _, ints_shaped _, _, rfl, ?_⟩
  rw [ints_eqvL]
  have sm := (s1.trans s2).trans s3
  by_cases c : l.map (getI vs) = ys
  · rw [decide_eq_true c]
    refine k1 _ sm ?_
    unfold upL
    rw [← ey]
    exact decide_eq_true c
  · rw [decide_eq_false c]
    refine k2 _ sm ?_
    unfold upL
    rw [← ey]
    exact decide_eq_false c
end KS
namespace KS
open PySem PySem.Spec PyProof.Rows L2
/-- the letter of a kind, and a word -/
def ltr (b : Bool) : Nat := if b = true then 67 else 82
def wS (w : List Bool) : Str := ⟨(w.map ltr).toArray⟩
theorem wS_len (w : List Bool) : (wS w).length = w.length := by
  show (w.map ltr).toArray.size = _
  rw [List.size_toArray, List.length_map]
theorem ltr_str (b : Bool) : V.str ⟨#[ltr b]⟩ = V.str (if b = true then "C" else "R") := by
  cases b <;> decide +kernel
theorem wS_at {w : List Bool} {i : Nat} {c : Nat} (h : (wS w).cps[i]? = some c) : ∃ b, w[i]? = some b ∧ c = ltr b := by
  have h' : (w.map ltr).toArray[i]? = some c := h
  rw [List.getElem?_toArray, List.getElem?_map] at h'
  cases e : w[i]? with
  | none =>
    rw [e] at h'
    cases h'
  | some b =>
    rw [e] at h'
    cases h'
    exact ⟨b, rfl, rfl⟩
def spLAfter (K : PySem.W.Frag) : Sp := fun xs H Q _ => ∃ (a t : Addr) (w : List Bool) (cs : List Cell) (vs : List Int), xs = [.ref a, .ref t, .str (wS w)] ∧ PlanAt K H a cs ∧ cs.length ≤ 24 ∧
  SqT K H t (vs.map V.int) ∧ vs.length = cs.length ∧ ∀ H' u, Same H H' → SqT K H' u ((aft cs w vs).map V.int) → Q (.ref u) H'
end KS
namespace KS
open PySem PySem.Spec PyProof.Rows L2
/-! ### programs: words, and repeats of steps -/
inductive Stp
  | w (l : List Bool)
  | r (n : Int) (b : List Stp)
mutual
def Stp.steps : Stp → Nat
  | .w _ => 1
  | .r _ b => 1 + stepsL b
def stepsL : List Stp → Nat
  | [] => 0
  | s :: b => s.steps + stepsL b
end
mutual
def Stp.nest : Stp → Nat
  | .w _ => 0
  | .r _ b => 1 + nestL b
def nestL : List Stp → Nat
  | [] => 0
  | s :: b => max s.nest (nestL b)
end
mutual
def Stp.ok : Stp → Prop
  | .w l => l ≠ [] ∧ l.length ≤ 400
  | .r n b => 1 ≤ n ∧ n ≤ 10 ^ 30 ∧ okL b
def okL : List Stp → Prop
  | [] => True
  | s :: b => s.ok ∧ okL b
end
mutual
def Stp.cnt (k : Bool) : Stp → Int
  | .w l => ((l.countP fun b => b == k : Nat) : Int)
  | .r n b => n * cntL k b
def cntL (k : Bool) : List Stp → Int
  | [] => 0
  | s :: b => s.cnt k + cntL k b
end
theorem stepsL_app : ∀ a b : List Stp, stepsL (a ++ b) = stepsL a + stepsL b
  | [], b => by rw [List.nil_append]; simp only [stepsL]; omega
  | s :: a, b => by
    rw [List.cons_append]
    simp only [stepsL]
    rw [stepsL_app a b]
    omega
theorem nestL_app : ∀ a b : List Stp, nestL (a ++ b) = max (nestL a) (nestL b)
  | [], b => by rw [List.nil_append]; simp only [nestL]; omega
  | s :: a, b => by
    rw [List.cons_append]
    simp only [nestL]
    rw [nestL_app a b]
    omega
theorem okL_app : ∀ {a b : List Stp}, okL (a ++ b) ↔ okL a ∧ okL b
  | [], b => by rw [List.nil_append]; simp only [okL]; exact ⟨fun h => ⟨trivial, h⟩, fun h => h.2⟩
  | s :: a, b => by
    rw [List.cons_append]
    simp only [okL]
    rw [okL_app (a := a)]
    exact ⟨fun ⟨x, y, z⟩ => ⟨⟨x, y⟩, z⟩, fun ⟨⟨x, y⟩, z⟩ => ⟨x, y, z⟩⟩
theorem cntL_app (k : Bool) : ∀ a b : List Stp, cntL k (a ++ b) = cntL k a + cntL k b
  | [], b => by rw [List.nil_append]; simp only [cntL]; omega
  | s :: a, b => by
    rw [List.cons_append]
    simp only [cntL]
    rw [cntL_app k a b]
    omega
theorem nest_mem : ∀ {b : List Stp} {s : Stp}, s ∈ b → s.nest ≤ nestL b
  | [], _, h => by cases h
  | x :: b, s, h => by
    simp only [nestL]
    rcases List.mem_cons.mp h with e | h
    · subst e
      omega
    · have := nest_mem h
      omega
theorem ok_mem : ∀ {b : List Stp} {s : Stp}, okL b → s ∈ b → s.ok
  | [], _, _, h => by cases h
  | x :: b, s, o, h => by
    simp only [okL] at o
    rcases List.mem_cons.mp h with e | h
    · subst e
      exact o.1
    · exact ok_mem o.2 h
theorem steps_pos (s : Stp) : 1 ≤ s.steps := by
  cases s with
  | w => simp only [Stp.steps]; omega
  | r => simp only [Stp.steps]; omega
/-! ### the counts are not too large -/
mutual
theorem cnt_bd (k : Bool) : ∀ s : Stp, s.ok → 0 ≤ s.cnt k ∧ s.cnt k ≤ 400 * (s.steps : Nat) * (10 ^ 30) ^ s.nest
  | .w l, h => by
    simp only [Stp.ok] at h
    simp only [Stp.cnt, Stp.steps, Stp.nest]
    have := List.countP_le_length (p := fun b => b == k) (l := l)
    have e : ((10 : Int) ^ 30) ^ 0 = 1 := rfl
    rw [e]
    omega
  | .r n b, h => by
    simp only [Stp.ok] at h
    obtain ⟨h1, h2, h3⟩ := h
    obtain ⟨a1, a2⟩ := cntL_bd k b h3
    simp only [Stp.cnt, Stp.steps, Stp.nest]
    constructor
    · exact Int.mul_nonneg (by omega) a1
    · have e : ((10 : Int) ^ 30) ^ (1 + nestL b) = (10 ^ 30) * (10 ^ 30) ^ nestL b := by rw [Nat.add_comm, Int.pow_succ, Int.mul_comm]
      have m1 : n * cntL k b ≤ (10 ^ 30) * (400 * (stepsL b : Nat) * (10 ^ 30) ^ nestL b) := Int.mul_le_mul h2 a2 a1 (by omega)
      have p0 : (0 : Int) ≤ (10 ^ 30) ^ nestL b := Int.pow_nonneg (by omega)
      have e2 : (10 ^ 30 : Int) * (400 * (stepsL b : Nat) * (10 ^ 30) ^ nestL b) = 400 * (stepsL b : Nat) * ((10 ^ 30) * (10 ^ 30) ^ nestL b) := Int.mul_left_comm _ _ _
      have m2 : (400 : Int) * (stepsL b : Nat) * ((10 ^ 30) * (10 ^ 30) ^ nestL b) ≤ 400 * ((1 + stepsL b : Nat) : Int) * ((10 ^ 30) * (10 ^ 30) ^ nestL b) := Int.mul_le_mul_of_nonneg_right (by omega) (Int.mul_nonneg (by omega) p0)
      rw [e]
      rw [e2] at m1
      exact Int.le_trans m1 m2
theorem cntL_bd (k : Bool) : ∀ b : List Stp, okL b → 0 ≤ cntL k b ∧ cntL k b ≤ 400 * (stepsL b : Nat) * (10 ^ 30) ^ nestL b
  | [], _ => by
    simp only [cntL, stepsL, nestL]
    omega
  | s :: b, h => by
    simp only [okL] at h
    obtain ⟨a1, a2⟩ := cnt_bd k s h.1
    obtain ⟨b1, b2⟩ := cntL_bd k b h.2
    simp only [cntL, stepsL, nestL]
    refine ⟨by omega, ?_⟩
    have ms : ((10 : Int) ^ 30) ^ s.nest ≤ (10 ^ 30) ^ (max s.nest (nestL b)) := by
      have : ((10 ^ 30 : Nat)) ^ s.nest ≤ (10 ^ 30) ^ (max s.nest (nestL b)) := Nat.pow_le_pow_right (by decide) (by omega)
      exact_mod_cast this
    have mb : ((10 : Int) ^ 30) ^ nestL b ≤ (10 ^ 30) ^ (max s.nest (nestL b)) := by
      have : ((10 ^ 30 : Nat)) ^ nestL b ≤ (10 ^ 30) ^ (max s.nest (nestL b)) := Nat.pow_le_pow_right (by decide) (by omega)
      exact_mod_cast this
    have c1 : (400 : Int) * (s.steps : Nat) * (10 ^ 30) ^ s.nest ≤ 400 * (s.steps : Nat) * (10 ^ 30) ^ (max s.nest (nestL b)) := Int.mul_le_mul_of_nonneg_left ms (by omega)
    have c2 : (400 : Int) * (stepsL b : Nat) * (10 ^ 30) ^ nestL b ≤ 400 * (stepsL b : Nat) * (10 ^ 30) ^ (max s.nest (nestL b)) := Int.mul_le_mul_of_nonneg_left mb (by omega)
    have e : (400 : Int) * ((s.steps + stepsL b : Nat) : Int) * (10 ^ 30) ^ (max s.nest (nestL b)) = 400 * (s.steps : Nat) * (10 ^ 30) ^ (max s.nest (nestL b)) + 400 * (stepsL b : Nat) * (10 ^ 30) ^ (max s.nest (nestL b)) := by
      rw [← Int.add_mul]
      congr 1
      omega
    rw [e]
    omega
end
theorem cntL_big {k : Bool} {b : List Stp} (h : okL b) (hs : stepsL b ≤ 200) (hn : nestL b ≤ 5) : 0 ≤ cntL k b ∧ cntL k b < 10 ^ 160 := by
  obtain ⟨a1, a2⟩ := cntL_bd k b h
  refine ⟨a1, ?_⟩
  have p : ((10 : Int) ^ 30) ^ nestL b ≤ (10 ^ 30) ^ 5 := by
    have : ((10 ^ 30 : Nat)) ^ nestL b ≤ (10 ^ 30) ^ 5 := Nat.pow_le_pow_right (by decide) hn
    exact_mod_cast this
  have p0 : (0 : Int) ≤ (10 ^ 30) ^ nestL b := Int.pow_nonneg (by omega)
  have m : (400 : Int) * (stepsL b : Nat) * (10 ^ 30) ^ nestL b ≤ 80000 * (10 ^ 30) ^ 5 := Int.mul_le_mul (by omega) p p0 (by omega)
  have e : (80000 : Int) * (10 ^ 30) ^ 5 < 10 ^ 160 := by decide +kernel
  omega
/-! ### multiplied, however large -/
def CBig (i j : Int) : Prop := 0 ≤ i ∧ i < 10 ^ 170 ∧ 0 ≤ j ∧ j < 10 ^ 170
theorem bits_big {i : Int} (h0 : 0 ≤ i) (h1 : i < 10 ^ 170) : Builtin.Int.intBits i ≤ 2 ^ 20 := by
  refine intBits_le_iff.mpr ?_
  have e : (10 : Nat) ^ 170 < 2 ^ 600 := by decide +kernel
  have e2 : (2 : Nat) ^ 600 ≤ 2 ^ (2 ^ 20) := Nat.pow_le_pow_right (by decide) (by decide)
  have : i.natAbs < 10 ^ 170 := by
    obtain ⟨n, rfl⟩ := Int.eq_ofNat_of_zero_le h0
    rw [Int.natAbs_natCast]
    exact_mod_cast h1
  omega
theorem op_mulB {X : Cx} : OpR X (binaryOp .Mult) (rI CBig fun i j => .int (i * j)) := opI fun _ _ _ _ _ _ _ hc q => mul_int q (IntMulOk.of_bits (bits_big hc.1 hc.2.1) (bits_big hc.2.2.1 hc.2.2.2))
end KS
namespace KS
open PySem PySem.Spec PyProof.Rows L2
/-! ### a sort takes inversions away -/
def lt1 (a b : Int) : Nat := if a < b then 1 else 0
def cnt (a : Int) : List Int → Nat
  | [] => 0
  | b :: l => lt1 b a + cnt a l
def inv : List Int → Nat
  | [] => 0
  | a :: l => cnt a l + inv l
theorem cnt_set (b x y : Int) : ∀ {m : List Int} {j : Nat}, m[j]? = some y → cnt b (m.set j x) + lt1 y b = cnt b m + lt1 x b
  | [], _, h => by cases h
  | c :: m, 0, h => by
    cases h
    show lt1 x b + cnt b m + lt1 y b = lt1 y b + cnt b m + lt1 x b
    omega
  | c :: m, j + 1, h => by
    have ih := cnt_set b x y (m := m) (j := j) h
    show lt1 c b + cnt b (m.set j x) + lt1 y b = lt1 c b + cnt b m + lt1 x b
    omega
theorem lt1_four {x y b : Int} (h : y < x) : lt1 b y + lt1 x b ≤ lt1 b x + lt1 y b := by
  unfold lt1
  split <;> split <;> split <;> split <;> omega
theorem inv_front {x y : Int} (h : y < x) : ∀ {l : List Int} {j : Nat}, l[j]? = some y → cnt y (l.set j x) + inv (l.set j x) < cnt x l + inv l
  | [], _, e => by cases e
  | b :: m, 0, e => by
    cases e
    show lt1 x y + cnt y m + (cnt x m + inv m) < lt1 y x + cnt x m + (cnt y m + inv m)
    have h1 : lt1 x y = 0 := if_neg (by omega)
    have h2 : lt1 y x = 1 := if_pos h
    omega
  | b :: m, j + 1, e => by
    have ih := inv_front h (l := m) (j := j) e
    have c := cnt_set b x y (m := m) (j := j) e
    have f := lt1_four (b := b) h
    show lt1 b y + cnt y (m.set j x) + (cnt b (m.set j x) + inv (m.set j x)) < lt1 b x + cnt x m + (cnt b m + inv m)
    omega
theorem inv_swap {x y : Int} (h : y < x) : ∀ {l : List Int} {i j : Nat}, i < j → l[i]? = some x → l[j]? = some y → inv ((l.set i y).set j x) < inv l
  | [], _, _, _, e, _ => by cases e
  | a :: l, 0, 0, hij, _, _ => absurd hij (Nat.lt_irrefl _)
  | a :: l, 0, j + 1, _, e, e2 => by
    cases e
    exact inv_front h (l := l) (j := j) e2
  | a :: l, i + 1, 0, hij, _, _ => absurd hij (Nat.not_lt_zero _)
  | a :: l, i + 1, j + 1, hij, e, e2 => by
    have hij' : i < j := Nat.lt_of_succ_lt_succ hij
    have ih := inv_swap h (l := l) (i := i) (j := j) hij' e e2
    have c1 := cnt_set a y x (m := l) (j := i) e
    have e3 : (l.set i y)[j]? = some y := by
      rw [List.getElem?_set_ne (by omega)]
      exact e2
    have c2 := cnt_set a x y (m := l.set i y) (j := j) e3
    show cnt a ((l.set i y).set j x) + inv ((l.set i y).set j x) < cnt a l + inv l
    omega
theorem cnt_le (a : Int) : ∀ l : List Int, cnt a l ≤ l.length
  | [] => Nat.le_refl _
  | b :: l => by
    have := cnt_le a l
    have h : lt1 b a ≤ 1 := by
      unfold lt1
      split <;> omega
    show lt1 b a + cnt a l ≤ l.length + 1
    omega
theorem inv_le : ∀ l : List Int, 2 * inv l ≤ l.length * (l.length - 1)
  | [] => Nat.le_refl _
  | a :: l => by
    have h := inv_le l
    have c := cnt_le a l
    show 2 * (cnt a l + inv l) ≤ (l.length + 1) * (l.length + 1 - 1)
    rw [Nat.add_sub_cancel]
    cases hl : l.length with
    | zero =>
      rw [hl] at h c
      simp at h c
      omega
    | succ n =>
      rw [hl] at h c
      rw [Nat.add_sub_cancel] at h
      have e : (n + 1 + 1) * (n + 1) = (n + 1) * n + 2 * (n + 1) := by
        rw [Nat.add_mul (n + 1) 1 (n + 1), Nat.mul_add (n + 1) n 1]
        omega
      omega
end KS
namespace KS
open PySem PySem.Spec PyProof.Rows L2
def putN : List Int → List Nat → List Int → List Int
  | acc, k :: ks, y :: ys => putN (acc.set k y) ks ys
  | acc, _, _ => acc
def getN (acc : List Int) (ks : List Nat) : List Int := ks.map fun k => acc.getD k 0
theorem putN_nil (acc : List Int) (ys : List Int) : putN acc [] ys = acc := by
  unfold putN
  rfl
theorem putN_cons (acc : List Int) (k : Nat) (ks : List Nat) (y : Int) (ys : List Int) : putN acc (k :: ks) (y :: ys) = putN (acc.set k y) ks ys := by
  rw [putN]
theorem putN_none (acc : List Int) (ks : List Nat) : putN acc ks [] = acc := by
  cases ks <;> (unfold putN; rfl)
theorem putN_len : ∀ (ks : List Nat) (ys acc : List Int), (putN acc ks ys).length = acc.length
  | [], ys, acc => by rw [putN_nil]
  | k :: ks, [], acc => by rw [putN_none]
  | k :: ks, y :: ys, acc => by rw [putN_cons, putN_len ks ys, List.length_set]
theorem putN_off : ∀ {ks : List Nat} {ys acc : List Int} {i : Nat}, i ∉ ks → (putN acc ks ys)[i]? = acc[i]?
  | [], ys, acc, i, _ => by rw [putN_nil]
  | k :: ks, [], acc, i, _ => by rw [putN_none]
  | k :: ks, y :: ys, acc, i, h => by
    have hk : k ≠ i := fun e => h (e ▸ List.mem_cons_self)
    rw [putN_cons, putN_off (fun m => h (List.mem_cons_of_mem _ m)), List.getElem?_set_ne hk]
theorem getD_of {acc : List Int} {k : Nat} {v : Int} (h : acc[k]? = some v) : acc.getD k 0 = v := by
  rw [List.getD_eq_getElem?_getD, h]
  rfl
theorem get_put : ∀ {ks : List Nat} {ys acc : List Int}, ks.Nodup → ks.length = ys.length → (∀ k ∈ ks, k < acc.length) → getN (putN acc ks ys) ks = ys
  | [], [], acc, _, _, _ => rfl
  | [], _ :: _, acc, _, h, _ => by cases h
  | _ :: _, [], acc, _, h, _ => by cases h
  | k :: ks, y :: ys, acc, nd, hl, hb => by
    rw [List.nodup_cons] at nd
    rw [putN_cons]
    show (putN (acc.set k y) ks ys).getD k 0 :: getN (putN (acc.set k y) ks ys) ks = y :: ys
    rw [get_put nd.2 (by simpa using hl) (fun j hj => by rw [List.length_set]; exact hb j (List.mem_cons_of_mem _ hj))]
    congr 1
    refine getD_of ?_
    rw [putN_off nd.1, List.getElem?_set_self (hb k List.mem_cons_self)]
theorem put_same : ∀ {ks : List Nat} {acc : List Int}, (∀ k ∈ ks, k < acc.length) → putN acc ks (getN acc ks) = acc
  | [], acc, _ => by rw [putN_nil]
  | k :: ks, acc, hb => by
    show putN acc (k :: ks) (acc.getD k 0 :: getN acc ks) = acc
    have hk := hb k List.mem_cons_self
    have e : acc.set k (acc.getD k 0) = acc := by
      rw [List.getD_eq_getElem?_getD, List.getElem?_eq_getElem hk]
      exact List.set_getElem_self hk
    rw [putN_cons, e]
    exact put_same fun j hj => hb j (List.mem_cons_of_mem _ hj)
theorem put_over : ∀ {ks : List Nat} {zs a b : List Int}, a.length = b.length → ks.length = zs.length → (∀ i, i ∉ ks → a[i]? = b[i]?) → putN a ks zs = putN b ks zs
  | [], zs, a, b, _, _, h => by
    rw [putN_nil, putN_nil]
    exact List.ext_getElem? fun i => h i (by simp)
  | k :: ks, [], a, b, _, hl, _ => by cases hl
  | k :: ks, z :: zs, a, b, hab, hl, h => by
    rw [putN_cons, putN_cons]
    refine put_over (by rw [List.length_set, List.length_set, hab]) (by simpa using hl) fun i hi => ?_
    by_cases e : k = i
    · subst e
      by_cases c : k < a.length
      · rw [List.getElem?_set_self c, List.getElem?_set_self (by omega)]
      · rw [List.getElem?_eq_none (by rw [List.length_set]; omega), List.getElem?_eq_none (by rw [List.length_set]; omega)]
    · rw [List.getElem?_set_ne e, List.getElem?_set_ne e]
      refine h i fun m => ?_
      rcases List.mem_cons.mp m with z | z
      · exact e z.symm
      · exact hi z
/-- the same, or fewer inversions -/
def Dn (a b : List Int) : Prop := b = a ∨ inv b < inv a
theorem Dn.trans {a b c : List Int} (h : Dn a b) (k : Dn b c) : Dn a c := by
  rcases h with rfl | h
  · exact k
  · rcases k with rfl | k
    · exact .inr h
    · exact .inr (Nat.lt_trans k h)
def ins (x : Int) : List Int → List Int
  | [] => [x]
  | y :: s => if x ≤ y then x :: y :: s else y :: ins x s
def isort : List Int → List Int
  | [] => []
  | x :: l => ins x (isort l)
theorem ins_perm (x : Int) : ∀ s : List Int, (ins x s).Perm (x :: s)
  | [] => List.Perm.refl _
  | y :: s => by
    unfold ins
    split
    · exact List.Perm.refl _
    · exact ((ins_perm x s).cons y).trans (List.Perm.swap _ _ _)
theorem isort_perm : ∀ l : List Int, (isort l).Perm l
  | [] => List.Perm.refl _
  | x :: l => (ins_perm x _).trans ((isort_perm l).cons x)
theorem ins_asc {x : Int} : ∀ {s : List Int}, s.Pairwise (· ≤ ·) → (ins x s).Pairwise (· ≤ ·)
  | [], _ => by simp [ins]
  | y :: s, h => by
    rw [List.pairwise_cons] at h
    unfold ins
    split
    · rename_i c
      rw [List.pairwise_cons, List.pairwise_cons]
      refine ⟨fun z hz => ?_, h.1, h.2⟩
      rcases List.mem_cons.mp hz with rfl | m
      · exact c
      · have := h.1 z m
        omega
    · rename_i c
      rw [List.pairwise_cons]
      refine ⟨fun z hz => ?_, ins_asc h.2⟩
      rcases List.mem_cons.mp ((ins_perm x s).mem_iff.mp hz) with rfl | m
      · omega
      · exact h.1 z m
theorem isort_asc : ∀ l : List Int, (isort l).Pairwise (· ≤ ·)
  | [] => List.Pairwise.nil
  | _ :: l => ins_asc (isort_asc l)
theorem isort_eq (l : List Int) : isort l = sortI l := sortI_eq (isort_perm l) (isort_asc l)
theorem ins_dn : ∀ {ks : List Nat} {k : Nat} {acc s : List Int} {x : Int}, (k :: ks).Pairwise (· < ·) → (∀ j ∈ k :: ks, j < acc.length) → getN acc (k :: ks) = x :: s → Dn acc (putN acc (k :: ks) (ins x s))
  | [], k, acc, s, x, _, hb, e => by
    have e' : [acc.getD k 0] = x :: s := e
    cases e'
    exact .inl (put_same (ks := [k]) hb)
  | k' :: ks, k, acc, [], x, _, hb, e => by
    have e' : acc.getD k 0 :: acc.getD k' 0 :: getN acc ks = [x] := e
    cases e'
  | k' :: ks, k, acc, y :: s, x, hp, hb, e => by
    unfold ins
    split
    · rw [← e]
      exact .inl (put_same hb)
    · rename_i c
      have e' : acc.getD k 0 :: acc.getD k' 0 :: getN acc ks = x :: y :: s := e
      injection e' with e1 e2
      injection e2 with e2 e3
      rw [List.pairwise_cons] at hp
      have hk := hb k List.mem_cons_self
      have hk' := hb k' (List.mem_cons_of_mem _ List.mem_cons_self)
      have hlt : k < k' := hp.1 k' List.mem_cons_self
      have g1 : acc[k]? = some x := by
        rw [List.getElem?_eq_getElem hk, ← e1, List.getD_eq_getElem?_getD, List.getElem?_eq_getElem hk]
        rfl
      have g2 : acc[k']? = some y := by
        rw [List.getElem?_eq_getElem hk', ← e2, List.getD_eq_getElem?_getD, List.getElem?_eq_getElem hk']
        rfl
      have sw := inv_swap (x := x) (y := y) (by omega) hlt g1 g2
      have hp2 := List.pairwise_cons.mp hp.2
      have gg : getN ((acc.set k y).set k' x) (k' :: ks) = x :: s := by
        show ((acc.set k y).set k' x).getD k' 0 :: getN ((acc.set k y).set k' x) ks = x :: s
        rw [getD_of (List.getElem?_set_self (by rw [List.length_set]; exact hk'))]
        congr 1
        rw [← e3]
        refine List.map_congr_left fun j hj => ?_
        have j1 : k' < j := hp2.1 j hj
        show ((acc.set k y).set k' x).getD j 0 = acc.getD j 0
        rw [List.getD_eq_getElem?_getD, List.getD_eq_getElem?_getD, List.getElem?_set_ne (by omega), List.getElem?_set_ne (by omega)]
      have ih := ins_dn (acc := (acc.set k y).set k' x) hp.2 (fun j hj => by rw [List.length_set, List.length_set]; exact hb j (List.mem_cons_of_mem _ hj)) gg
      have ep : putN acc (k :: k' :: ks) (y :: ins x s) = putN ((acc.set k y).set k' x) (k' :: ks) (ins x s) := by
        rw [putN_cons]
        cases h : ins x s with
        | nil =>
          have := (ins_perm x s).length_eq
          rw [h] at this
          cases this
        | cons z zs => rw [putN_cons, putN_cons, List.set_set]
      rw [ep]
      exact Dn.trans (.inr sw) ih
theorem sort_dn : ∀ {ks : List Nat} {acc : List Int}, ks.Pairwise (· < ·) → (∀ j ∈ ks, j < acc.length) → Dn acc (putN acc ks (isort (getN acc ks)))
  | [], acc, _, _ => .inl (putN_nil _ _)
  | k :: ks, acc, hp, hb => by
    have hp' := List.pairwise_cons.mp hp
    have hb' : ∀ j ∈ ks, j < acc.length := fun j hj => hb j (List.mem_cons_of_mem _ hj)
    have ih := sort_dn hp'.2 hb'
    have nk : k ∉ ks := fun m => Nat.lt_irrefl _ (hp'.1 k m)
    have nd : ks.Nodup := hp'.2.imp fun h => Nat.ne_of_lt h
    have ll : ks.length = (isort (getN acc ks)).length := by
      rw [(isort_perm _).length_eq]
      unfold getN
      rw [List.length_map]
    have g : getN (putN acc ks (isort (getN acc ks))) (k :: ks) = acc.getD k 0 :: isort (getN acc ks) := by
      show (putN acc ks (isort (getN acc ks))).getD k 0 :: getN (putN acc ks (isort (getN acc ks))) ks = _
      rw [get_put nd ll hb', List.getD_eq_getElem?_getD, putN_off nk, ← List.getD_eq_getElem?_getD]
    have b := ins_dn (acc := putN acc ks (isort (getN acc ks))) hp (fun j hj => by rw [putN_len]; exact hb j hj) g
    have e : putN (putN acc ks (isort (getN acc ks))) (k :: ks) (ins (acc.getD k 0) (isort (getN acc ks))) = putN acc (k :: ks) (ins (acc.getD k 0) (isort (getN acc ks))) := by
      refine put_over (putN_len _ _ _) ?_ fun i hi => putN_off fun m => hi (List.mem_cons_of_mem _ m)
      rw [(ins_perm _ _).length_eq, List.length_cons, List.length_cons, ll]
    rw [e] at b
    exact ih.trans b
end KS
namespace KS
open PySem PySem.Spec PyProof.Rows L2
def up (ks : List Nat) : List Int := ks.map fun (k : Nat) => (k : Int)
theorem putZ_up : ∀ (ks : List Nat) (ys acc : List Int), putZ acc ((up ks).zip ys) = putN acc ks ys
  | [], ys, acc => by rw [putN_nil]; rfl
  | k :: ks, [], acc => by rw [putN_none]; rfl
  | k :: ks, y :: ys, acc => by
    rw [putN_cons, ← putZ_up ks ys]
    rfl
theorem get_up (vs : List Int) (ks : List Nat) : (up ks).map (getI vs) = getN vs ks := by
  unfold up getN
  rw [List.map_map]
  rfl
def srtN (vs acc : List Int) (ks : List Nat) : List Int := putN acc ks (sortI (getN vs ks))
theorem srtL_up (vs acc : List Int) (ks : List Nat) : srtL vs acc (up ks) = srtN vs acc ks := by
  unfold srtL srtN
  rw [putZ_up, get_up]
theorem srtTo_up (vs : List Int) : ∀ (ls : List (List Nat)) (acc : List Int), (ls.map up).foldl (srtL vs) acc = ls.foldl (srtN vs) acc
  | [], _ => rfl
  | ks :: ls, acc => by
    show (ls.map up).foldl (srtL vs) (srtL vs acc (up ks)) = ls.foldl (srtN vs) (srtN vs acc ks)
    rw [srtL_up, srtTo_up vs ls]
def idxsN (b : Bool) (cs : List Cell) (i : Nat) (r : Int) : List Nat := (List.range i).filter fun j => decide ((cs[j]?).map (pick b) = some r)
theorem idxs_up (b : Bool) (cs : List Cell) (i : Nat) (r : Int) : idxs b cs i r = up (idxsN b cs i r) := rfl
def lnsN (b : Bool) (cs : List Cell) : List (List Nat) := ((List.range 8).map fun (r : Nat) => idxsN b cs cs.length (r : Int)).filter fun l => decide (l ≠ [])
theorem filter_up : ∀ ls : List (List Nat), (ls.map up).filter (fun l => decide (l ≠ [])) = (ls.filter fun l => decide (l ≠ [])).map up
  | [] => rfl
  | [] :: ls => filter_up ls
  | (k :: ks) :: ls => by
    show up (k :: ks) :: (ls.map up).filter _ = up (k :: ks) :: (ls.filter _).map up
    rw [filter_up ls]
theorem lns_up (b : Bool) (cs : List Cell) : lnsOf b cs = (lnsN b cs).map up := by
  unfold lnsOf lnsN
  rw [← filter_up, List.map_map]
  rfl
structure Parts (n : Nat) (ls : List (List Nat)) : Prop where
  asc : ∀ ks ∈ ls, ks.Pairwise (· < ·)
  bd : ∀ ks ∈ ls, ∀ k ∈ ks, k < n
  apart : ls.Pairwise fun ks ms => ∀ k ∈ ks, k ∉ ms
theorem srtN_len (vs acc : List Int) (ks : List Nat) : (srtN vs acc ks).length = acc.length := putN_len _ _ _
theorem getN_congr {a b : List Int} {ks : List Nat} (h : ∀ k ∈ ks, a[k]? = b[k]?) : getN a ks = getN b ks := by
  refine List.map_congr_left fun k hk => ?_
  show a.getD k 0 = b.getD k 0
  rw [List.getD_eq_getElem?_getD, List.getD_eq_getElem?_getD, h k hk]
theorem fold_off {vs : List Int} {i : Nat} : ∀ {ls : List (List Nat)} {acc : List Int}, (∀ ks ∈ ls, i ∉ ks) → (ls.foldl (srtN vs) acc)[i]? = acc[i]?
  | [], _, _ => rfl
  | ks :: ls, acc, h => by
    show (ls.foldl (srtN vs) (srtN vs acc ks))[i]? = _
    rw [fold_off fun ms hm => h ms (List.mem_cons_of_mem _ hm)]
    exact putN_off (h ks List.mem_cons_self)
theorem fold_dn {vs : List Int} : ∀ {ls : List (List Nat)} {acc : List Int}, Parts acc.length ls → (∀ ks ∈ ls, ∀ k ∈ ks, acc[k]? = vs[k]?) → Dn acc (ls.foldl (srtN vs) acc)
  | [], acc, _, _ => .inl rfl
  | ks :: ls, acc, P, h => by
    have pc := List.pairwise_cons.mp P.apart
    have e : getN vs ks = getN acc ks := getN_congr fun k hk => (h ks List.mem_cons_self k hk).symm
    have d : Dn acc (srtN vs acc ks) := by
      unfold srtN
      rw [e, ← isort_eq]
      exact sort_dn (P.asc ks List.mem_cons_self) (P.bd ks List.mem_cons_self)
    refine d.trans (fold_dn (ls := ls) ⟨fun ms hm => P.asc ms (List.mem_cons_of_mem _ hm), fun ms hm k hk => ?_, pc.2⟩ fun ms hm k hk => ?_)
    · rw [srtN_len]
      exact P.bd ms (List.mem_cons_of_mem _ hm) k hk
    · have nk : k ∉ ks := fun m => pc.1 ms hm k m hk
      rw [show (srtN vs acc ks)[k]? = acc[k]? from putN_off nk]
      exact h ms (List.mem_cons_of_mem _ hm) k hk
theorem fold_get {vs : List Int} : ∀ {ls : List (List Nat)} {acc : List Int}, Parts acc.length ls → ∀ ks ∈ ls, getN (ls.foldl (srtN vs) acc) ks = sortI (getN vs ks)
  | [], _, _, _, m => by cases m
  | ms :: ls, acc, P, ks, m => by
    have pc := List.pairwise_cons.mp P.apart
    have P' : Parts (srtN vs acc ms).length ls := ⟨fun z hm => P.asc z (List.mem_cons_of_mem _ hm), fun z hm k hk => by rw [srtN_len]; exact P.bd z (List.mem_cons_of_mem _ hm) k hk, pc.2⟩
    rcases List.mem_cons.mp m with rfl | m
    · show getN (ls.foldl (srtN vs) (srtN vs acc ks)) ks = _
      rw [getN_congr (b := srtN vs acc ks) fun k hk => fold_off fun z hz => pc.1 z hz k hk]
      refine get_put ((P.asc ks List.mem_cons_self).imp fun h => Nat.ne_of_lt h) ?_ (P.bd ks List.mem_cons_self)
      rw [sortI_len]
      unfold getN
      rw [List.length_map]
    · exact fold_get P' ks m
theorem fold_fix {vs : List Int} : ∀ {ls : List (List Nat)}, (∀ ks ∈ ls, ∀ k ∈ ks, k < vs.length) → (∀ ks ∈ ls, getN vs ks = sortI (getN vs ks)) → ls.foldl (srtN vs) vs = vs
  | [], _, _ => rfl
  | ks :: ls, hb, h => by
    have e : srtN vs vs ks = vs := by
      unfold srtN
      rw [← h ks List.mem_cons_self]
      exact put_same (hb ks List.mem_cons_self)
    show ls.foldl (srtN vs) (srtN vs vs ks) = vs
    rw [e]
    exact fold_fix (fun z hz => hb z (List.mem_cons_of_mem _ hz)) fun z hz => h z (List.mem_cons_of_mem _ hz)
theorem idxsN_mem {b : Bool} {cs : List Cell} {i k : Nat} {r : Int} (h : k ∈ idxsN b cs i r) : k < i ∧ (cs[k]?).map (pick b) = some r := by
  have := List.mem_filter.mp h
  exact ⟨List.mem_range.mp this.1, of_decide_eq_true this.2⟩
theorem lns_parts (b : Bool) (cs : List Cell) : Parts cs.length (lnsN b cs) := by
  refine ⟨fun ks h => ?_, fun ks h k hk => ?_, ?_⟩
  · obtain ⟨r, _, rfl⟩ := List.mem_map.mp (List.mem_filter.mp h).1
    exact List.pairwise_lt_range.filter _
  · obtain ⟨r, _, rfl⟩ := List.mem_map.mp (List.mem_filter.mp h).1
    exact (idxsN_mem hk).1
  · refine List.Pairwise.filter _ (List.pairwise_map.2 (List.pairwise_lt_range.imp ?_))
    intro r q hrq k h1 h2
    have a := (idxsN_mem h1).2
    rw [(idxsN_mem h2).2] at a
    injection a with a
    omega
theorem srt_up (b : Bool) (cs : List Cell) (vs : List Int) : srt b cs vs = (lnsN b cs).foldl (srtN vs) vs := by
  unfold srt srtTo
  rw [lns_up, srtTo_up]
/-- a sort leaves all as it is, or takes inversions away -/
theorem srt_dn {b : Bool} {cs : List Cell} {vs : List Int} (h : vs.length = cs.length) : Dn vs (srt b cs vs) := by
  rw [srt_up]
  exact fold_dn (by rw [h]; exact lns_parts b cs) fun _ _ _ _ => rfl
theorem upL_up (vs : List Int) (ks : List Nat) : upL vs (up ks) = decide (getN vs ks = sortI (getN vs ks)) := by
  unfold upL
  rw [get_up]
theorem rises_iff {b : Bool} {cs : List Cell} {vs : List Int} : rises b cs vs = true ↔ ∀ ks ∈ lnsN b cs, getN vs ks = sortI (getN vs ks) := by
  unfold rises
  rw [lns_up, List.all_map, List.all_eq_true]
  constructor
  · intro h ks hk
    have := h ks hk
    exact of_decide_eq_true ((upL_up vs ks).symm.trans this)
  · intro h ks hk
    exact (upL_up vs ks).trans (decide_eq_true (h ks hk))
theorem sortI_fix (l : List Int) : sortI (sortI l) = sortI l := (sortI_eq (List.Perm.refl _) (sortI_asc l)).symm
/-- behind a sort the lines of the kind ascend -/
theorem srt_rises {b : Bool} {cs : List Cell} {vs : List Int} (h : vs.length = cs.length) : rises b cs (srt b cs vs) = true := by
  rw [rises_iff]
  intro ks hk
  have g : getN (srt b cs vs) ks = sortI (getN vs ks) := by
    rw [srt_up]
    exact fold_get (by rw [h]; exact lns_parts b cs) ks hk
  rw [g, sortI_fix]
/-- lines that ascend are left alone -/
theorem rises_fix {b : Bool} {cs : List Cell} {vs : List Int} (h : vs.length = cs.length) (r : rises b cs vs = true) : srt b cs vs = vs := by
  rw [srt_up]
  exact fold_fix (fun ks hk k hkk => by rw [h]; exact (lns_parts b cs).bd ks hk k hkk) (rises_iff.mp r)
/-- lines that do not ascend lose inversions -/
theorem srt_lt {b : Bool} {cs : List Cell} {vs : List Int} (h : vs.length = cs.length) (r : rises b cs vs = false) : inv (srt b cs vs) < inv vs := by
  rcases srt_dn (b := b) h with e | e
  · have := srt_rises (b := b) h
    rw [e, r] at this
    cases this
  · exact e
end KS
namespace KS
open PySem PySem.Spec PyProof.Rows L2
/-- kinds in turns, this one first -/
def turns : Bool → Nat → List Bool
  | _, 0 => []
  | b, n + 1 => b :: turns (!b) n
def kindAt (b : Bool) (n : Nat) : Bool := if n % 2 = 0 then b else !b
theorem turns_succ : ∀ (b : Bool) (n : Nat), turns b (n + 1) = turns b n ++ [kindAt b n]
  | b, 0 => rfl
  | b, n + 1 => by
    show b :: turns (!b) (n + 1) = b :: (turns (!b) n ++ [kindAt b (n + 1)])
    rw [turns_succ (!b) n]
    have e : kindAt (!b) n = kindAt b (n + 1) := by
      unfold kindAt
      rcases Nat.mod_two_eq_zero_or_one n with h | h
      · rw [if_pos h, if_neg (by omega)]
      · rw [if_neg (by omega), if_pos (by omega)]
        simp
    rw [e]
theorem kindAt_succ (b : Bool) (n : Nat) : kindAt b (n + 1) = !kindAt b n := by
  unfold kindAt
  rcases Nat.mod_two_eq_zero_or_one n with h | h
  · rw [if_pos h, if_neg (show ¬ (n + 1) % 2 = 0 by omega)]
  · rw [if_pos (show (n + 1) % 2 = 0 by omega), if_neg (show ¬ n % 2 = 0 by omega)]
    simp
theorem turns_len : ∀ (b : Bool) (n : Nat), (turns b n).length = n
  | _, 0 => rfl
  | b, n + 1 => by
    show (turns (!b) n).length + 1 = n + 1
    rw [turns_len (!b) n]
def settled (cs : List Cell) (vs : List Int) : Bool := rises false cs vs && rises true cs vs
def stat (cs : List Cell) (b : Bool) (vs : List Int) (n : Nat) : List Int := aft cs (turns b n) vs
theorem stat_succ (cs : List Cell) (b : Bool) (vs : List Int) (n : Nat) : stat cs b vs (n + 1) = srt (kindAt b n) cs (stat cs b vs n) := by
  unfold stat
  rw [turns_succ, aft_more]
theorem stat_len (cs : List Cell) (b : Bool) (vs : List Int) (n : Nat) : (stat cs b vs n).length = vs.length := aft_len _ _ _
/-- the least number of sorts in turns behind which both kinds ascend, and the values then -/
structure RestIs (cs : List Cell) (b : Bool) (vs : List Int) (n : Nat) : Prop where
  end_ : settled cs (stat cs b vs n) = true
  least : ∀ m, m < n → settled cs (stat cs b vs m) = false
theorem RestIs.uniq {cs : List Cell} {b : Bool} {vs : List Int} {n m : Nat} (h : RestIs cs b vs n) (k : RestIs cs b vs m) : n = m := by
  rcases Nat.lt_trichotomy n m with c | c | c
  · have := k.least n c
    rw [h.end_] at this
    cases this
  · exact c
  · have := h.least m c
    rw [k.end_] at this
    cases this
theorem settled_not {cs : List Cell} {vs : List Int} {k : Bool} (h : settled cs vs = false) (r : rises k cs vs = true) : rises (!k) cs vs = false := by
  unfold settled at h
  cases k
  · rw [r] at h
    simpa using h
  · rw [r] at h
    simpa using h
/-- a variant of the turns -/
def fuel (cs : List Cell) (k : Bool) (vs : List Int) : Nat := 2 * inv vs + if rises k cs vs = true then 1 else 0
theorem fuel_lt {cs : List Cell} {k : Bool} {vs : List Int} (hl : vs.length = cs.length) (h : settled cs vs = false) : fuel cs (!k) (srt k cs vs) < fuel cs k vs := by
  unfold fuel
  cases r : rises k cs vs with
  | true =>
    rw [rises_fix hl r, if_pos rfl, if_neg (by rw [settled_not h r]; decide)]
    omega
  | false =>
    have := srt_lt hl r
    rw [if_neg (show ¬ (false = true) by decide)]
    split <;> omega
/-- at most 277 sorts settle any table of 24 cells -/
theorem stat_inv {cs : List Cell} {b : Bool} {vs : List Int} {n : Nat} (hl : vs.length = cs.length) (h : RestIs cs b vs n) : ∀ m, m + 1 ≤ n → inv (stat cs b vs (m + 1)) + m ≤ inv (stat cs b vs 1)
  | 0, _ => Nat.le_refl _
  | m + 1, hm => by
    have ih := stat_inv hl h m (by omega)
    have ns := h.least (m + 1) (by omega)
    have ln : (stat cs b vs m).length = cs.length := by rw [stat_len, hl]
    have r : rises (kindAt b m) cs (stat cs b vs (m + 1)) = true := by
      rw [stat_succ]
      exact srt_rises ln
    have r2 := settled_not ns r
    rw [← kindAt_succ] at r2
    have lt := srt_lt (by rw [stat_len, hl]) r2
    rw [← stat_succ] at lt
    omega
theorem rest_le {cs : List Cell} {b : Bool} {vs : List Int} {n : Nat} (hl : vs.length = cs.length) (hc : cs.length ≤ 24) (h : RestIs cs b vs n) : n ≤ 277 := by
  cases n with
  | zero => omega
  | succ m =>
    have i := stat_inv hl h m (Nat.le_refl _)
    have le := inv_le (stat cs b vs 1)
    rw [stat_len, hl] at le
    have : cs.length * (cs.length - 1) ≤ 24 * 23 := Nat.mul_le_mul hc (by omega)
    omega
end KS
namespace KS
open PySem PySem.Spec PyProof.Rows L2
/-- so many different whole numbers from 1 to 9999 -/
structure Vals9 (n : Nat) (fs : List Int) : Prop where
  len : fs.length = n
  nd : fs.Nodup
  bd : ∀ v ∈ fs, 1 ≤ v ∧ v ≤ 9999
def spValues (K : PySem.W.Frag) : Sp := fun vs H Q _ => ∃ (p : Addr) (n : Nat), vs = [.ref p, .int n] ∧ PoolO (H p) ∧ 1 ≤ n ∧ n ≤ 24 ∧
  ∀ H' t fs, KeepX p H H' → PoolO (H' p) → SqT K H' t (fs.map V.int) → Vals9 n fs → H t = none → Q (.ref t) H'
theorem Vals9.perm {n : Nat} {as bs : List Int} (h : Vals9 n as) (p : as.Perm bs) : Vals9 n bs := ⟨p.length_eq ▸ h.len, p.nodup_iff.mp h.nd, fun v m => h.bd v (p.mem_iff.mpr m)⟩
theorem map_eraseIdx {f : Int → V} : ∀ (l : List Int) (k : Nat), (l.map f).eraseIdx k = (l.eraseIdx k).map f
  | [], _ => rfl
  | _ :: _, 0 => rfl
  | x :: l, k + 1 => by
    show f x :: (l.map f).eraseIdx k = f x :: (l.eraseIdx k).map f
    rw [map_eraseIdx l k]
theorem erase_perm : ∀ {l : List Int} {k : Nat} (h : k < l.length), l.Perm (l[k] :: l.eraseIdx k)
  | _ :: _, 0, _ => List.Perm.refl _
  | x :: l, k + 1, h => ((erase_perm (l := l) (k := k) (Nat.lt_of_succ_lt_succ h)).cons x).trans (List.Perm.swap _ _ _)
theorem pick_perm {fs l : List Int} {k : Nat} (h : k < l.length) : (fs ++ l).Perm ((fs ++ [l[k]]) ++ l.eraseIdx k) := by
  rw [List.append_assoc]
  exact (erase_perm h).append_left fs
def rgI (a b : Int) : List Int := (List.range (b - a).toNat).map fun (i : Nat) => a + (i : Int)
theorem rgV_ints (a b : Int) : rgV a b = (rgI a b).map V.int := by
  unfold rgV rgI
  rw [List.map_map]
  rfl
theorem rgI_len (a b : Int) : (rgI a b).length = (b - a).toNat := by
  unfold rgI
  rw [List.length_map, List.length_range]
theorem rgI_nd (a b : Int) : (rgI a b).Nodup := by
  unfold rgI
  refine List.pairwise_map.2 (List.nodup_range.imp ?_)
  intro x y h e
  exact h (by omega)
theorem rgI_mem {a b v : Int} (h : v ∈ rgI a b) : a ≤ v ∧ v < b := by
  unfold rgI at h
  obtain ⟨i, hi, rfl⟩ := List.mem_map.mp h
  have := List.mem_range.mp hi
  omega
theorem vals9_low {n : Nat} (n1 : n ≤ 24) : Vals9 n (rgI 1 ((n : Int) + 1)) := by
  refine ⟨by rw [rgI_len]; omega, rgI_nd _ _, fun v h => ?_⟩
  have := rgI_mem h
  omega
theorem vals9_high {n : Nat} (n1 : n ≤ 24) : Vals9 n (rgI (10000 - (n : Int)) 10000) := by
  refine ⟨by rw [rgI_len]; omega, rgI_nd _ _, fun v h => ?_⟩
  have := rgI_mem h
  omega
theorem vals9_step {n : Nat} {st : Int} (n0 : 1 ≤ n) (s0 : 1 ≤ st) (s1 : st ≤ 9999 / (n : Int)) : Vals9 n ((rgI 1 ((n : Int) + 1)).map fun v => st * v) := by
  refine ⟨by rw [List.length_map, rgI_len]; omega, List.pairwise_map.2 ((rgI_nd _ _).imp ?_), fun v h => ?_⟩
  · intro x y h e
    exact h (Int.eq_of_mul_eq_mul_left (by omega) e)
  · obtain ⟨u, hu, rfl⟩ := List.mem_map.mp h
    have b := rgI_mem hu
    have h1 : st * (n : Int) ≤ 9999 := (Int.le_ediv_iff_mul_le (by omega)).mp s1
    have h2 : st * u ≤ st * (n : Int) := Int.mul_le_mul_of_nonneg_left (by omega) (by omega)
    have h3 : 1 * 1 ≤ st * u := Int.mul_le_mul s0 b.1 (by omega) (by omega)
    omega
def VSt (p : Addr) (n : Nat) (mode : Int) (H : Hp) (σ : L2.St) (H' : Hp) : Prop := ∃ (e : Addr) (y4 : Option V) (ls : List Int), σ = [some (.ref p), some (.int n), some (.int mode), some (.ref e), y4, none, none, none] ∧
  H e = none ∧ e ≠ p ∧ H' e = some (.lst (ls.map V.int)) ∧ Vals9 n ls ∧ KeepX p H H' ∧ PoolO (H' p)
theorem KeepX.free {p q : Addr} {H H' : Hp} (k : KeepX p H H') (po : PoolO (H' p)) (n : H' q = none) : H q = none := by
  cases z : H q with
  | none => rfl
  | some o =>
    have := k q o (Ne.symm (po.ne n)) z
    rw [n] at this
    cases this
theorem vals_ifs {K : PySem.W.Frag} {p e : Addr} {n : Nat} {mode : Int} {H H2 : Hp} {tr : TS} {D : Ends} (n0 : 1 ≤ n) (n1 : n ≤ 24) (he0 : H e = none) (hep : e ≠ p) (he : H2 e = some (.lst (rgV 1 ((n : Int) + 1)))) (kx : KeepX p H H2) (po : PoolO (H2 p))
    (k : ∀ σ' H', VSt p n mode H σ' H' → tr D σ' H') :
    tSeq (tIfS (tTest (tOp rEq (tVar 2) (tC (V.int 1)))) (tAsg (tLstRg (tRg2 (tOp (rI0 fun i j => V.int (i - j)) (tC (V.int 10000)) (tVar 1)) (tC (V.int 10000)))) (gName 3)) tNext)
      (tSeq (tIfS (tTest (tOp (rI0 fun i j => V.bl (decide (i > j))) (tVar 2) (tC (V.int 1))))
        (tSeq (tAsg (tOp (rI0 fun i j => V.int (i + j)) (tC (V.int 1)) (tCall spDraw [] E0 (tCons (tVar 0) (tCons (tOp (rI CDiv fun i j => V.int (i / j)) (tC (V.int 9999)) (tVar 1)) tNil)))) (gName 4))
          (tAsg (tLc (iList K (tVar 3)) (gName 7) tYes (tOp (rI CMul fun i j => V.int (i * j)) (tVar 4) (tVar 7)) [7]) (gName 3))) tNext) tr) D
      [some (.ref p), some (.int n), some (.int mode), some (.ref e), none, none, none, none] H2 := by
  refine ⟨_, rfl, rfl, _, rfl, ite2 (fun c => ?_) (fun c => ?_)⟩
  · have cm : mode = 1 := V.int.inj (of_decide_eq_true c)
    subst cm
    refine ⟨_, rfl, _, _, rfl, rfl, _, _, rfl, rfl, ⟨by omega, by omega, by omega, by omega, by omega⟩, fun g ng => ?_⟩
    have sg := same_new (o := .lst (rgV (10000 - (n : Int)) 10000)) ng
    refine ⟨_, rfl, _, _, rfl, rfl, _, rfl, ite2 (fun c => ?_) (fun c => ?_)⟩
    · exact absurd (of_decide_eq_true c) (by decide)
    · refine k _ _ ⟨g, none, rgI (10000 - (n : Int)) 10000, rfl, kx.free po ng, Ne.symm (po.ne ng), ?_, vals9_high n1, kx.trans (.of_same sg), po.same sg⟩
      rw [upd_same, rgV_ints]
  · refine ⟨_, rfl, _, _, rfl, rfl, _, rfl, ite2 (fun c => ?_) (fun c => ?_)⟩
    · have qd : 1 ≤ (9999 : Int) / (n : Int) := (Int.le_ediv_iff_mul_le (by omega)).mpr (by omega)
      have qu : (9999 : Int) / (n : Int) ≤ 9999 := Int.ediv_le_self _ (by decide)
      refine ⟨_, rfl, _, rfl, _, _, rfl, rfl, ⟨by omega, by omega⟩, p, _, rfl, po, by omega, by omega, fun H3 r k3 po3 r0 r1 => ?_⟩
      refine ⟨_, _, rfl, rfl, ?_⟩
      have he3 := k3 _ _ hep he
      refine ⟨_, rfl, e, rfl, ⟨_, SqL.of he3⟩, fun D0 nD => ?_⟩
      have neD : e ≠ D0 := ne_of_none he3 nD
      refine lc_list (K := K) (a := e) (xs := rgV 1 ((n : Int) + 1)) (fun j G => G = upd H3 D0 (.lst (((rgI 1 ((n : Int) + 1)).take j).map fun v => V.int ((1 + r) * v)))) ?_ ?_ ?_ ?_
      · rfl
      · rintro j G _ rfl
        exact SqL.of (by rw [upd_ne neD]; exact he3)
      · rintro j x G hj rfl
        rw [rgV_ints, List.getElem?_map] at hj
        cases ev : (rgI 1 ((n : Int) + 1))[j]? with
        | none =>
          rw [ev] at hj
          cases hj
        | some v =>
          rw [ev] at hj
          cases hj
          have hv := rgI_mem (List.mem_of_getElem? ev)
          refine ⟨rfl, _, rfl, _, rfl, _, _, rfl, rfl, .inl ⟨by omega, by omega⟩, _, upd_same, ?_, ?_⟩
          · rw [List.length_map, List.length_take]
            refine small64 ?_
            rw [rgI_len]
            omega
          · rw [upd_upd, List.take_add_one, ev, List.map_append]
            rfl
      · rintro G rfl
        rw [rgV_length, List.take_of_length_le (by rw [rgI_len]; omega)]
        have sD := same_new (o := .lst ((rgI 1 ((n : Int) + 1)).map fun v => V.int ((1 + r) * v))) nD
        refine k _ _ ⟨D0, _, (rgI 1 ((n : Int) + 1)).map fun v => (1 + r) * v, rfl, (kx.trans k3).free po3 nD, Ne.symm (po3.ne nD), ?_, vals9_step n0 (by omega) (by omega), (kx.trans k3).trans (.of_same sD), po3.same sD⟩
        rw [upd_same, List.map_map]
        rfl
    · refine k _ _ ⟨e, none, rgI 1 ((n : Int) + 1), rfl, he0, hep, ?_, vals9_low n1, kx, po⟩
      rw [← rgV_ints]
      exact he
end KS
namespace KS
open PySem PySem.Spec PyProof.Rows L2
/-! ### x in t, t a tuple of plain data -/
def rInT (K : PySem.W.Frag) : V → V → Hp → VK → Prop := fun x y H Q => ∃ d ds, Dp K H x d ∧ Dp K H y (.tuple ds) ∧ SeqAt.shaped d = true ∧ SeqAt.shaped (.tuple ds) = true ∧ Q (.bl (ds.any fun z => PyData.eqv z d)) H
theorem op_inT {X : Cx} (hu : X.A.units + 65 < cLine) : OpR X (compareOp .In) (rInT X.K) := by
  intro pins s σ H x y v u Q I rx ry h
  obtain ⟨d, ds, hd, he, sd, se, q⟩ := h
  obtain ⟨as, r1⟩ := Dp.reads I d x v hd rx
  obtain ⟨bs, r2⟩ := Dp.reads I (.tuple ds) y u he ry
  refine SeqAt.in_tuple_reads r2 r1 (SeqAt.canLay_of_shaped se) (SeqAt.canLay_of_shaped sd) ?_ ⟨.bl _, H, I, rfl, q⟩
  have := SeqAt.depth_of_shaped sd
  have h2 : min (PyData.depthAll ds) d.depth ≤ d.depth := Nat.min_le_right _ _
  omega
/-! ### plans as data -/
abbrev cellD (c : Cell) : PyData := .tuple [.int c.1, .int c.2]
abbrev planD (cs : List Cell) : PyData := .tuple (cs.map cellD)
theorem dp_cell {K : PySem.W.Frag} {H : Hp} {t : Addr} {c : Cell} (h : SqT K H t [.int c.1, .int c.2]) : Dp K H (.ref t) (cellD c) := .tup h (.cons (.int _) (.cons (.int _) .nil))
theorem dp_cells {K : PySem.W.Frag} {H : Hp} : ∀ {xs : List V} {cs : List Cell}, CellsAt K H xs cs → DpAll K H xs (cs.map cellD)
  | _, _, .nil => .nil
  | _, _, .cons ⟨t, e, h⟩ r => by
    subst e
    exact .cons (dp_cell h) (dp_cells r)
theorem PlanAt.dp {K : PySem.W.Frag} {H : Hp} {a : Addr} {cs : List Cell} (h : PlanAt K H a cs) : Dp K H (.ref a) (planD cs) := by
  obtain ⟨xs, h1, h2⟩ := h
  exact .tup h1 (dp_cells h2)
theorem cell_lay (c : Cell) : (cellD c).canLay0 = true ∧ (cellD c).depth = 1 := by
  simp [PyData.canLay0, PyData.canLayAll0, PyData.depth, PyData.depthAll]
theorem cells_lay : ∀ cs : List Cell, PyData.canLayAll0 (cs.map cellD) = true ∧ PyData.depthAll (cs.map cellD) ≤ 1
  | [] => ⟨by simp only [List.map_nil, PyData.canLayAll0], by simp [PyData.depthAll]⟩
  | c :: cs => by
    obtain ⟨a, b⟩ := cells_lay cs
    obtain ⟨x, y⟩ := cell_lay c
    refine ⟨?_, ?_⟩
    · rw [List.map_cons, PyData.canLayAll0, x, a]
      rfl
    · rw [List.map_cons, PyData.depthAll, y]
      omega
theorem cell_shaped (c : Cell) : SeqAt.shaped (cellD c) = true := by
  obtain ⟨x, y⟩ := cell_lay c
  unfold SeqAt.shaped
  rw [x, y]
  rfl
theorem plan_shaped (cs : List Cell) : SeqAt.shaped (planD cs) = true := by
  obtain ⟨a, b⟩ := cells_lay cs
  unfold SeqAt.shaped
  rw [Bool.and_eq_true]
  refine ⟨?_, decide_eq_true ?_⟩
  · simp only [PyData.canLay0, a]
  · simp only [PyData.depth]
    omega
theorem cell_eqv (a b : Cell) : PyData.eqv (cellD a) (cellD b) = decide (a = b) := by
  have h : PyData.eqv (cellD a) (cellD b) = (a.1 == b.1 && (a.2 == b.2 && true)) := by
    simp only [PyData.eqv, PyData.eqvAll]
  rw [h, Bool.and_true]
  by_cases e : a = b
  · subst e
    simp
  · rw [decide_eq_false e]
    by_cases e1 : a.1 = b.1
    · have e2 : a.2 ≠ b.2 := fun z => e (Prod.ext e1 z)
      simp [e1, e2]
    · simp [e1]
theorem in_plan (cs : List Cell) (c : Cell) : ((cs.map cellD).any fun z => PyData.eqv z (cellD c)) = decide (c ∈ cs) := by
  rw [List.any_map]
  by_cases h : c ∈ cs
  · rw [decide_eq_true h, List.any_eq_true]
    exact ⟨c, h, by show PyData.eqv (cellD c) (cellD c) = true; rw [cell_eqv]; simp⟩
  · rw [decide_eq_false h, List.any_eq_false]
    intro x hx z
    have z' : PyData.eqv (cellD x) (cellD c) = true := z
    rw [cell_eqv] at z'
    have := of_decide_eq_true z'
    subst this
    exact h hx
theorem shows_plan {cs : List Cell} (g : ∀ c ∈ cs, InGrid c) (hl : cs.length ≤ 64) : Shows (planD cs) 1984 ∧ (planD cs).depth ≤ 64 := by
  refine ⟨shows_tuple (n := 30) (showsAll_of fun d hd => ?_) ?_, ?_⟩
  · obtain ⟨c, hc, rfl⟩ := List.mem_map.mp hd
    have := g c hc
    unfold InGrid at this
    refine shows_tuple (n := 14) (showsAll_of fun d hd => ?_) (by show (14 + 1) * 2 ≤ 30; decide)
    rcases List.mem_cons.mp hd with z | z
    · subst z
      exact shows_int (by omega) (by omega)
    · rcases List.mem_cons.mp z with z | z
      · subst z
        exact shows_int (by omega) (by omega)
      · cases z
  · rw [List.length_map]
    omega
  · have := (cells_lay cs).2
    simp only [PyData.depth]
    omega
/-! ### ascending lists of cells -/
theorem asc_ext2 : ∀ {l m : List Cell}, l.Pairwise lt2 → m.Pairwise lt2 → (∀ x, x ∈ l ↔ x ∈ m) → l = m
  | [], [], _, _, _ => rfl
  | [], y :: m, _, _, h => absurd ((h y).mpr List.mem_cons_self) (by simp)
  | x :: l, [], _, _, h => absurd ((h x).mp List.mem_cons_self) (by simp)
  | x :: l, y :: m, h1, h2, h => by
    rw [List.pairwise_cons] at h1 h2
    have no : ∀ a b : Cell, lt2 a b → lt2 b a → False := fun a b p q => by
      unfold lt2 at p q
      omega
    have e : x = y := by
      rcases List.mem_cons.mp ((h x).mp List.mem_cons_self) with z | z
      · exact z
      · rcases List.mem_cons.mp ((h y).mpr List.mem_cons_self) with z2 | z2
        · exact z2.symm
        · exact (no _ _ (h2.1 x z) (h1.1 y z2)).elim
    subst e
    congr 1
    refine asc_ext2 h1.2 h2.2 fun z => ⟨fun hz => ?_, fun hz => ?_⟩
    · rcases List.mem_cons.mp ((h z).mp (List.mem_cons_of_mem _ hz)) with e | e
      · exact (no _ _ (h1.1 z hz) (e ▸ h1.1 z hz)).elim
      · exact e
    · rcases List.mem_cons.mp ((h z).mpr (List.mem_cons_of_mem _ hz)) with e | e
      · exact (no _ _ (h2.1 z hz) (e ▸ h2.1 z hz)).elim
      · exact e
theorem asc_perm {l m : List Cell} (h1 : l.Pairwise lt2) (h2 : m.Pairwise lt2) (p : l.Perm m) : l = m := asc_ext2 h1 h2 fun x => p.mem_iff
def swp (c : Cell) : Cell := (c.2, c.1)
theorem nodup_swp {cs : List Cell} (h : cs.Nodup) : (cs.map swp).Nodup := by
  rw [List.nodup_iff_pairwise_ne] at h ⊢
  rw [List.pairwise_map]
  refine h.imp fun {a b} q e => q ?_
  have e0 : ((a.2, a.1) : Int × Int) = (b.2, b.1) := e
  injection e0 with e1 e2
  exact Prod.ext e2 e1
theorem good_swp {cs ds : List Cell} (g : Good cs) (p : ds.Perm (cs.map swp)) (a : ds.Pairwise lt2) : Good ds ∧ ds.length = cs.length := by
  have hl : ds.length = cs.length := by rw [p.length_eq, List.length_map]
  refine ⟨⟨a, fun d hd => ?_, fun z => ?_⟩, hl⟩
  · obtain ⟨c, hc, rfl⟩ := List.mem_map.mp (p.mem_iff.mp hd)
    have := g.grid c hc
    unfold InGrid at this ⊢
    show 0 ≤ c.2 ∧ c.2 ≤ 7 ∧ 0 ≤ c.1 ∧ c.1 ≤ 7
    omega
  · rw [z] at hl
    exact g.ne (List.eq_nil_of_length_eq_zero hl.symm)
theorem swp_back {cs ds es : List Cell} (g : cs.Pairwise lt2) (p : ds.Perm (cs.map swp)) (p2 : es.Perm (ds.map swp)) (a : es.Pairwise lt2) : es = cs := by
  refine asc_perm a g (p2.trans ?_)
  have := p.map swp
  refine this.trans ?_
  rw [List.map_map]
  have e : (swp ∘ swp) = id := by
    funext c
    rfl
  rw [e, List.map_id]
/-! ### rectangles -/
def Full (cs : List Cell) : Prop := ∀ r k : Int, (∃ c ∈ cs, c.1 ≤ r) → (∃ c ∈ cs, r ≤ c.1) → (∃ c ∈ cs, c.2 ≤ k) → (∃ c ∈ cs, k ≤ c.2) → (r, k) ∈ cs
noncomputable def rectB (cs : List Cell) : Bool := @decide (Full cs) (Classical.propDecidable _)
theorem rectB_true {cs : List Cell} (h : Full cs) : rectB cs = true := by
  unfold rectB
  exact @decide_eq_true _ (Classical.propDecidable _) h
theorem rectB_false {cs : List Cell} (h : ¬ Full cs) : rectB cs = false := by
  unfold rectB
  exact @decide_eq_false _ (Classical.propDecidable _) h
theorem full_swp {cs ds : List Cell} (p : ds.Perm (cs.map swp)) (h : Full cs) : Full ds := by
  have to : ∀ c : Cell, c ∈ ds → swp c ∈ cs := fun c hc => by
    obtain ⟨x, hx, rfl⟩ := List.mem_map.mp (p.mem_iff.mp hc)
    exact hx
  intro r k ⟨a, ha, a1⟩ ⟨b, hb, b1⟩ ⟨c, hc, c1⟩ ⟨d, hd, d1⟩
  have := h k r ⟨swp c, to c hc, c1⟩ ⟨swp d, to d hd, d1⟩ ⟨swp a, to a ha, a1⟩ ⟨swp b, to b hb, b1⟩
  exact p.mem_iff.mpr (List.mem_map.mpr ⟨(k, r), this, rfl⟩)
theorem rectB_swp {cs ds : List Cell} (p : ds.Perm (cs.map swp)) : rectB ds = rectB cs := by
  have q : cs.Perm (ds.map swp) := by
    have := (p.map swp).symm
    rw [List.map_map] at this
    have e : (swp ∘ swp) = id := by
      funext c
      rfl
    rw [e, List.map_id] at this
    exact this
  by_cases h : Full cs
  · rw [rectB_true h, rectB_true (full_swp p h)]
  · rw [rectB_false h, rectB_false fun z => h (full_swp q z)]
theorem len_of_subset : ∀ {l m : List Cell}, l.Nodup → (∀ x ∈ l, x ∈ m) → l.length ≤ m.length
  | [], _, _, _ => Nat.zero_le _
  | x :: l, m, n, h => by
    rw [List.nodup_cons] at n
    have hx := h x List.mem_cons_self
    have ih := len_of_subset (m := m.erase x) n.2 fun y hy => by
      have hne : y ≠ x := fun e => n.1 (e ▸ hy)
      exact (List.mem_erase_of_ne hne).mpr (h y (List.mem_cons_of_mem _ hy))
    rw [List.length_erase_of_mem hx] at ih
    have : 0 < m.length := List.length_pos_of_mem hx
    rw [List.length_cons]
    omega
/-- the cells of a box: n rows from r, k columns from c -/
def boxOf (r c : Int) (n k : Nat) : List Cell := (List.range n).flatMap fun (i : Nat) => rowCells (r + (i : Int)) c k
theorem box_len (r c : Int) (n k : Nat) : (boxOf r c n k).length = n * k := by
  unfold boxOf
  rw [List.length_flatMap]
  induction n with
  | zero => simp
  | succ n ih =>
    rw [List.range_succ, List.map_append, List.sum_append, ih, List.map_cons, rowCells_len, Nat.succ_mul]
    simp
theorem box_mem {r c : Int} {n k : Nat} {x : Cell} : x ∈ boxOf r c n k ↔ r ≤ x.1 ∧ x.1 < r + n ∧ c ≤ x.2 ∧ x.2 < c + k := by
  unfold boxOf
  rw [List.mem_flatMap]
  constructor
  · rintro ⟨i, hi, hx⟩
    have := List.mem_range.mp hi
    have := rowCells_mem hx
    omega
  · rintro ⟨h1, h2, h3, h4⟩
    refine ⟨(x.1 - r).toNat, List.mem_range.mpr (by omega), ?_⟩
    unfold rowCells
    refine List.mem_map.mpr ⟨(x.2 - c).toNat, List.mem_range.mpr (by omega), ?_⟩
    refine Prod.ext ?_ ?_
    · show r + ((x.1 - r).toNat : Int) = x.1
      omega
    · show c + ((x.2 - c).toNat : Int) = x.2
      omega
theorem box_asc (r c : Int) (k : Nat) : ∀ n : Nat, (boxOf r c n k).Pairwise lt2
  | 0 => List.Pairwise.nil
  | n + 1 => by
    have e : boxOf r c (n + 1) k = boxOf r c n k ++ rowCells (r + (n : Int)) c k := by
      unfold boxOf
      rw [List.range_succ, List.flatMap_append]
      simp
    rw [e, List.pairwise_append]
    refine ⟨box_asc r c k n, rowCells_asc _ _ _, fun a ha b hb => .inl ?_⟩
    have := box_mem.mp ha
    have := rowCells_mem hb
    omega
/-- the count of cells tells the rectangle -/
theorem rect_count {cs : List Cell} {a b c d : Int} (nd : cs.Nodup) (ha : a ∈ cs.map (·.1)) (ha' : ∀ x ∈ cs.map (·.1), a ≤ x) (hb : b ∈ cs.map (·.1)) (hb' : ∀ x ∈ cs.map (·.1), x ≤ b)
    (hc : c ∈ cs.map (·.2)) (hc' : ∀ x ∈ cs.map (·.2), c ≤ x) (hd : d ∈ cs.map (·.2)) (hd' : ∀ x ∈ cs.map (·.2), x ≤ d) : decide ((cs.length : Int) = (b - a + 1) * (d - c + 1)) = rectB cs := by
  have hab : a ≤ b := ha' b hb
  have hcd : c ≤ d := hc' d hd
  have inb : ∀ x ∈ cs, x ∈ boxOf a c (b - a + 1).toNat (d - c + 1).toNat := fun x hx => by
    have h1 := ha' x.1 (List.mem_map.mpr ⟨x, hx, rfl⟩)
    have h2 := hb' x.1 (List.mem_map.mpr ⟨x, hx, rfl⟩)
    have h3 := hc' x.2 (List.mem_map.mpr ⟨x, hx, rfl⟩)
    have h4 := hd' x.2 (List.mem_map.mpr ⟨x, hx, rfl⟩)
    exact box_mem.mpr ⟨h1, by omega, h3, by omega⟩
  have area : (((b - a + 1).toNat * (d - c + 1).toNat : Nat) : Int) = (b - a + 1) * (d - c + 1) := by
    rw [Int.natCast_mul, Int.toNat_of_nonneg (by omega), Int.toNat_of_nonneg (by omega)]
  have le1 := len_of_subset nd inb
  rw [box_len] at le1
  by_cases h : Full cs
  · rw [rectB_true h]
    have le2 : (boxOf a c (b - a + 1).toNat (d - c + 1).toNat).length ≤ cs.length := len_of_subset (nodup_of_asc (box_asc _ _ _ _)) fun x hx => by
      have := box_mem.mp hx
      obtain ⟨xa, ma, ea⟩ := List.mem_map.mp ha
      obtain ⟨xb, mb, eb⟩ := List.mem_map.mp hb
      obtain ⟨xc, mc, ec⟩ := List.mem_map.mp hc
      obtain ⟨xd, md, ed⟩ := List.mem_map.mp hd
      have := h x.1 x.2 ⟨xa, ma, by omega⟩ ⟨xb, mb, by omega⟩ ⟨xc, mc, by omega⟩ ⟨xd, md, by omega⟩
      exact this
    rw [box_len] at le2
    exact decide_eq_true (by rw [← area]; omega)
  · rw [rectB_false h]
    refine decide_eq_false fun e => h ?_
    rw [← area] at e
    have e' : cs.length = (b - a + 1).toNat * (d - c + 1).toNat := by omega
    intro r k ⟨x1, m1, q1⟩ ⟨x2, m2, q2⟩ ⟨x3, m3, q3⟩ ⟨x4, m4, q4⟩
    have h1 := ha' x1.1 (List.mem_map.mpr ⟨x1, m1, rfl⟩)
    have h2 := hb' x2.1 (List.mem_map.mpr ⟨x2, m2, rfl⟩)
    have h3 := hc' x3.2 (List.mem_map.mpr ⟨x3, m3, rfl⟩)
    have h4 := hd' x4.2 (List.mem_map.mpr ⟨x4, m4, rfl⟩)
    have hin : ((r, k) : Cell) ∈ boxOf a c (b - a + 1).toNat (d - c + 1).toNat := box_mem.mpr ⟨by show a ≤ r; omega, by show r < _; omega, by show c ≤ k; omega, by show k < _; omega⟩
    by_cases hm : ((r, k) : Cell) ∈ cs
    · exact hm
    · have le3 := len_of_subset (l := (r, k) :: cs) (List.nodup_cons.mpr ⟨hm, nd⟩) fun x hx => by
        rcases List.mem_cons.mp hx with z | z
        · subst z
          exact hin
        · exact inb x z
      rw [box_len, List.length_cons] at le3
      omega
end KS
namespace KS
open PySem PySem.Spec PyProof.Rows L2
def Small4 (l : List Int) : Prop := ∀ x ∈ l, 0 ≤ x ∧ x < 10000
theorem Vals9.small {n : Nat} {vs : List Int} (h : Vals9 n vs) : Small4 vs := fun x hx => by
  have := h.bd x hx
  omega
theorem getI_small {vs : List Int} (h : Small4 vs) (k : Int) : 0 ≤ getI vs k ∧ getI vs k < 10000 := by
  unfold getI
  rw [List.getD_eq_getElem?_getD]
  cases e : vs[k.toNat]? with
  | none => exact ⟨by decide, by decide⟩
  | some v => exact h v (List.mem_of_getElem? e)
theorem putZ_small : ∀ {zs : List (Int × Int)} {acc : List Int}, Small4 acc → (∀ z ∈ zs, 0 ≤ z.2 ∧ z.2 < 10000) → Small4 (putZ acc zs)
  | [], _, h, _ => h
  | z :: zs, acc, h, hz => by
    refine putZ_small (zs := zs) (acc := acc.set z.1.toNat z.2) (fun x hx => ?_) (fun y hy => hz y (List.mem_cons_of_mem _ hy))
    rcases List.mem_or_eq_of_mem_set hx with m | rfl
    · exact h x m
    · exact hz z List.mem_cons_self
theorem srtL_small {vs acc l : List Int} (h : Small4 vs) (ha : Small4 acc) : Small4 (srtL vs acc l) := by
  refine putZ_small ha fun z hz => ?_
  have m := (List.of_mem_zip (show (z.1, z.2) ∈ _ from hz)).2
  have m2 := (sortI_perm _).mem_iff.mp m
  obtain ⟨k, _, e⟩ := List.mem_map.mp m2
  rw [← e]
  exact getI_small h k
theorem foldl_small {vs : List Int} (h : Small4 vs) : ∀ (ls : List (List Int)) {acc : List Int}, Small4 acc → Small4 (ls.foldl (srtL vs) acc)
  | [], _, ha => ha
  | l :: ls, _, ha => foldl_small h ls (srtL_small h ha)
theorem srt_small {b : Bool} {cs : List Cell} {vs : List Int} (h : Small4 vs) : Small4 (srt b cs vs) := foldl_small h _ h
theorem line_small {l : List Int} (h : Small4 l) (hl : l.length ≤ 64) : Shows (lineD l) 960 ∧ (lineD l).depth ≤ 64 := ⟨shows_line h hl, by rw [depth_line]; decide⟩
/-- a plan and its values, as data -/
def tabD (cs : List Cell) (vs : List Int) : PyData := .tuple [planD cs, lineD vs]
theorem tab_small {cs : List Cell} {vs : List Int} (g : ∀ c ∈ cs, InGrid c) (hl : cs.length ≤ 64) (h : Small4 vs) (hv : vs.length ≤ 64) : Shows (tabD cs vs) 8000 ∧ (tabD cs vs).depth ≤ 64 := by
  have hp := shows_plan g hl
  have hn := line_small h hv
  refine ⟨shows_tuple (n := 1984) (showsAll_of fun d hd => ?_) (by show (1984 + 1) * 2 ≤ 8000; decide), ?_⟩
  · rcases List.mem_cons.mp hd with z | z
    · subst z
      exact hp.1
    · rcases List.mem_cons.mp z with z | z
      · subst z
        exact ⟨hn.1.short, hn.1.show_, hn.1.nod, Nat.le_trans hn.1.wt (by decide)⟩
      · cases z
  · have a := (cells_lay cs).2
    have b := (ints_lay vs).2
    show (PyData.tuple [.tuple (cs.map cellD), .tuple (vs.map PyData.int)]).depth ≤ 64
    simp only [PyData.depth, PyData.depthAll]
    omega
def rev3 {α : Type} : List α → List α
  | [a, b, c] => [c, b, a]
  | _ => []
theorem rev3_rel {zs : List V} {ws : List Value} (r : Vals zs ws) : Vals (rev3 zs) (rev3 ws) := by
  cases r with
  | nil => exact .nil
  | cons r1 r =>
    cases r with
    | nil => exact .nil
    | cons r2 r =>
      cases r with
      | nil => exact .nil
      | cons r3 r =>
        cases r with
        | nil => exact .cons r3 (.cons r2 (.cons r1 .nil))
        | cons r4 r => exact .nil
/-- the program's sort -/
def spSortL (K : PySem.W.Frag) : Sp := fun xs H Q _ => ∃ (a t : Addr) (b : Bool) (cs : List Cell) (vs : List Int), xs = [.ref a, .ref t, .str (if b = true then "C" else "R")] ∧ PlanAt K H a cs ∧ Good cs ∧ cs.length ≤ 24 ∧
  SqT K H t (vs.map V.int) ∧ Vals9 cs.length vs ∧ ∀ H' u, Same H H' → SqT K H' u ((srt b cs vs).map V.int) → Q (.ref u) H'
end KS
namespace KS
open PySem PySem.Spec PyProof.Rows L2
/-! ### a sort only moves the values -/
def one (x y : Int) : Nat := if x = y then 1 else 0
theorem count_one (x a : Int) (l : List Int) : (a :: l).count x = l.count x + one a x := by
  rw [List.count_cons]
  unfold one
  by_cases e : a = x
  · rw [if_pos e, if_pos (by simpa using e)]
  · rw [if_neg e, if_neg (by simpa using e)]
theorem count_set (x y : Int) : ∀ {l : List Int} {k : Nat} {v : Int}, l[k]? = some v → (l.set k y).count x + one v x = l.count x + one y x
  | [], k, v, h => by simp at h
  | a :: l, 0, v, h => by
    simp at h
    subst h
    show (y :: l).count x + one a x = (a :: l).count x + one y x
    rw [count_one, count_one]
    omega
  | a :: l, k + 1, v, h => by
    have h' : l[k]? = some v := by simpa using h
    have ih := count_set x y h'
    show (a :: l.set k y).count x + one v x = (a :: l).count x + one y x
    rw [count_one, count_one]
    omega
theorem getN_set {acc : List Int} {k : Nat} {y : Int} {ks : List Nat} (h : k ∉ ks) : getN (acc.set k y) ks = getN acc ks := by
  unfold getN
  refine List.map_congr_left fun j hj => ?_
  have : k ≠ j := fun e => h (e ▸ hj)
  rw [List.getD_eq_getElem?_getD, List.getD_eq_getElem?_getD, List.getElem?_set_ne this]
theorem put_count (x : Int) : ∀ {ks : List Nat} {ys acc : List Int}, ks.Nodup → ks.length = ys.length → (∀ k ∈ ks, k < acc.length) → (putN acc ks ys).count x + (getN acc ks).count x = acc.count x + ys.count x
  | [], [], acc, _, _, _ => by
    rw [putN_nil]
    rfl
  | [], _ :: _, acc, _, h, _ => by simp at h
  | _ :: _, [], acc, _, h, _ => by simp at h
  | k :: ks, y :: ys, acc, nd, hl, hb => by
    rw [List.nodup_cons] at nd
    have hk := hb k List.mem_cons_self
    obtain ⟨v, hv⟩ : ∃ v, acc[k]? = some v := ⟨acc[k], List.getElem?_eq_getElem hk⟩
    have ih := put_count x (ks := ks) (ys := ys) (acc := acc.set k y) nd.2 (by simpa using hl) (fun j hj => by
      rw [List.length_set]
      exact hb j (List.mem_cons_of_mem _ hj))
    rw [getN_set nd.1] at ih
    have cs := count_set x y hv
    rw [putN_cons]
    have eg : getN acc (k :: ks) = v :: getN acc ks := by
      unfold getN
      rw [List.map_cons, getD_of hv]
    rw [eg, count_one, count_one]
    omega
theorem put_perm {ks : List Nat} {ys acc : List Int} (nd : ks.Nodup) (hb : ∀ k ∈ ks, k < acc.length) (p : ys.Perm (getN acc ks)) : (putN acc ks ys).Perm acc := by
  rw [List.perm_iff_count]
  intro x
  have hl : ks.length = ys.length := by
    rw [p.length_eq]
    unfold getN
    rw [List.length_map]
  have := put_count x (ys := ys) nd hl hb
  rw [p.count_eq] at this
  omega
theorem asc_nodup {ks : List Nat} (h : ks.Pairwise (· < ·)) : ks.Nodup := h.imp fun q e => by omega
theorem fold_perm {vs : List Int} : ∀ {ls : List (List Nat)} {acc : List Int}, Parts acc.length ls → (∀ ks ∈ ls, ∀ k ∈ ks, acc[k]? = vs[k]?) → (ls.foldl (srtN vs) acc).Perm acc
  | [], acc, _, _ => List.Perm.refl _
  | ks :: ls, acc, P, h => by
    have pc := List.pairwise_cons.mp P.apart
    have e : getN vs ks = getN acc ks := getN_congr fun k hk => (h ks List.mem_cons_self k hk).symm
    have d : (srtN vs acc ks).Perm acc := by
      unfold srtN
      rw [e]
      exact put_perm (asc_nodup (P.asc ks List.mem_cons_self)) (P.bd ks List.mem_cons_self) (sortI_perm _)
    refine List.Perm.trans (fold_perm (ls := ls) (acc := srtN vs acc ks) ⟨fun ms hm => P.asc ms (List.mem_cons_of_mem _ hm), fun ms hm k hk => ?_, pc.2⟩ fun ms hm k hk => ?_) d
    · rw [srtN_len]
      exact P.bd ms (List.mem_cons_of_mem _ hm) k hk
    · have nk : k ∉ ks := fun m => pc.1 ms hm k m hk
      rw [show (srtN vs acc ks)[k]? = acc[k]? from putN_off nk]
      exact h ms (List.mem_cons_of_mem _ hm) k hk
theorem srt_perm {b : Bool} {cs : List Cell} {vs : List Int} (h : vs.length = cs.length) : (srt b cs vs).Perm vs := by
  rw [srt_up]
  exact fold_perm (by rw [h]; exact lns_parts b cs) fun _ _ _ _ => rfl
theorem srt9 {b : Bool} {cs : List Cell} {vs : List Int} (h : Vals9 cs.length vs) : Vals9 cs.length (srt b cs vs) := h.perm (srt_perm h.len).symm
theorem aft9 {cs : List Cell} : ∀ (w : List Bool) {vs : List Int}, Vals9 cs.length vs → Vals9 cs.length (aft cs w vs)
  | [], _, h => h
  | b :: w, _, h => aft9 w (srt9 (b := b) h)
theorem aft_perm {cs : List Cell} : ∀ (w : List Bool) {vs : List Int}, vs.length = cs.length → (aft cs w vs).Perm vs
  | [], _, _ => List.Perm.refl _
  | b :: w, vs, h => (aft_perm w (by rw [srt_len]; exact h)).trans (srt_perm (b := b) h)
theorem fix_rises {b : Bool} {cs : List Cell} {vs : List Int} (h : vs.length = cs.length) : decide (srt b cs vs = vs) = rises b cs vs := by
  cases r : rises b cs vs with
  | true => exact decide_eq_true (rises_fix h r)
  | false =>
    refine decide_eq_false fun e => ?_
    have := srt_rises (b := b) h
    rw [e, r] at this
    cases this
def spIsSorted (K : PySem.W.Frag) : Sp := fun xs H Q _ => ∃ (a t : Addr) (b : Bool) (cs : List Cell) (vs : List Int), xs = [.ref a, .ref t, .str (if b = true then "C" else "R")] ∧ PlanAt K H a cs ∧ Good cs ∧ cs.length ≤ 24 ∧
  SqT K H t (vs.map V.int) ∧ Vals9 cs.length vs ∧ ∀ H', Same H H' → Q (.bl (rises b cs vs)) H'
def spSettled (K : PySem.W.Frag) : Sp := fun xs H Q _ => ∃ (a t : Addr) (cs : List Cell) (vs : List Int), xs = [.ref a, .ref t] ∧ PlanAt K H a cs ∧ Good cs ∧ cs.length ≤ 24 ∧
  SqT K H t (vs.map V.int) ∧ Vals9 cs.length vs ∧ ∀ H', Same H H' → Q (.bl (settled cs vs)) H'
def spOther : Sp := fun xs H Q _ => ∃ b : Bool, xs = [.str (if b = true then "C" else "R")] ∧ Q (.str (if (!b) = true then "C" else "R")) H
def spRestP (K : PySem.W.Frag) : Sp := fun xs H Q _ => ∃ (a t : Addr) (b : Bool) (cs : List Cell) (vs : List Int), xs = [.ref a, .ref t, .str (if b = true then "C" else "R")] ∧ PlanAt K H a cs ∧ Good cs ∧ cs.length ≤ 24 ∧
  SqT K H t (vs.map V.int) ∧ Vals9 cs.length vs ∧ ∀ H' r u n, Same H H' → SqT K H' r [.int (n : Nat), .ref u] → SqT K H' u ((stat cs b vs n).map V.int) → RestIs cs b vs n → Q (.ref r) H'
end KS
namespace KS
open PySem PySem.Spec PyProof.Rows L2
/-- one letter, so many times -/
def rRepC : R2 := fun x y H Q => ∃ (c : Nat) (n : Nat), x = .str ⟨#[c]⟩ ∧ y = .int n ∧ 1 ≤ n ∧ n ≤ 64 ∧ Q (.str ⟨(List.replicate n c).toArray⟩) H
theorem rep_fold (c : Nat) : ∀ (n : Nat) (a : Array Nat), (List.replicate n #[c]).foldl (· ++ ·) a = a ++ (List.replicate n c).toArray
  | 0, a => by simp
  | n + 1, a => by
    rw [List.replicate_succ, List.foldl_cons, rep_fold c n, List.replicate_succ]
    apply Array.ext'
    simp
theorem op_repC {X : Cx} : OpR X (binaryOp .Mult) rRepC := by
  intro pins s σ H x y v u Q I rx ry h
  obtain ⟨c, n, rfl, rfl, n0, n1, q⟩ := h
  obtain ⟨t, rfl⟩ := rx
  obtain ⟨t', rfl⟩ := ry
  have e1 : ¬ ((n : Int) < 1) := by omega
  refine P.mul_str ?_ ?_ ?_ ?_
  · have h1 : ¬ (n : Int) < -(2 ^ 63 : Int) := by omega
    have h2 : ¬ (n : Int) ≥ 2 ^ 63 := by omega
    rw [decide_eq_false h1, decide_eq_false h2]
    rfl
  · intro _ _
    show ¬ ((1 : Int) > (2 ^ 63 - 1) / (n : Int))
    have : (1 : Int) ≤ (2 ^ 63 - 1) / (n : Int) := (Int.le_ediv_iff_mul_le (by omega)).mpr (by omega)
    omega
  · intro _ _
    show decide (1 * (n : Int).toNat > sizeLine) = false
    refine decide_eq_false ?_
    rw [sizeLine_eq]
    omega
  · rw [if_neg e1]
    by_cases e : n = 1
    · subst e
      exact ⟨.str ⟨#[c]⟩, H, I, ⟨_, rfl⟩, q⟩
    · have z : (((n : Int) == 1) || ((⟨#[c]⟩ : Str).length == 0)) = false := by
        have : ((n : Int) == 1) = false := by
          rw [beq_eq_false_iff_ne]
          omega
        rw [this]
        rfl
      rw [if_neg (by rw [z]; decide)]
      have ez : (⟨(List.replicate (n : Int).toNat (⟨#[c]⟩ : Str).cps).foldl (· ++ ·) #[]⟩ : Str) = ⟨(List.replicate n c).toArray⟩ := by
        rw [Int.toNat_natCast]
        show (⟨(List.replicate n #[c]).foldl (· ++ ·) #[]⟩ : Str) = _
        rw [rep_fold]
        simp
      rw [ez]
      refine ⟨?_, .str ⟨(List.replicate n c).toArray⟩, H, I.tok _, ⟨_, rfl⟩, q⟩
      show (List.replicate n c).toArray.size ≤ sizeLine
      rw [List.size_toArray, List.length_replicate, sizeLine_eq]
      omega
theorem wS_app (a b : List Bool) : wS a ++ wS b = wS (a ++ b) := by
  show (⟨(a.map ltr).toArray ++ (b.map ltr).toArray⟩ : Str) = ⟨((a ++ b).map ltr).toArray⟩
  rw [List.map_append]
  simp
theorem wS_rep (b : Bool) (n : Nat) : (⟨(List.replicate n (ltr b)).toArray⟩ : Str) = wS (List.replicate n b) := by
  unfold wS
  rw [List.map_replicate]
theorem wS_cut (a : List Bool) (n : Nat) (h : n ≤ a.length) : cutS (wS a) none (some (n : Int)) = wS (a.take n) := by
  have hl := wS_len a
  unfold cutS
  have e0 : HT.sIx (wS a).length 0 none = 0 := rfl
  have e1 : HT.sIx (wS a).length (wS a).length (some (n : Int)) = n := by
    rw [HT.sIx_nat, hl]
    omega
  rw [e0, e1]
  show (⟨(((a.map ltr).toArray.toList.drop 0).take (n - 0)).toArray⟩ : Str) = ⟨((a.take n).map ltr).toArray⟩
  simp
/-- a word of at most so many letters -/
def spLWord (K : PySem.W.Frag) : Sp := fun xs H Q _ => ∃ (p : Addr) (m : Nat), xs = [.ref p, .int m] ∧ PoolO (H p) ∧ m ≤ 400 ∧ ∀ H' w, KeepX p H H' → PoolO (H' p) → w.length ≤ m → Q (.str (wS w)) H'
end KS
namespace KS
open PySem PySem.Spec PyProof.Rows L2
theorem aft_small {cs : List Cell} : ∀ (w : List Bool) {vs : List Int}, Small4 vs → Small4 (aft cs w vs)
  | [], _, h => h
  | b :: w, _, h => aft_small w (srt_small (b := b) (cs := cs) h)
/-- the program's word -/
def spAfterP (K : PySem.W.Frag) : Sp := fun xs H Q _ => ∃ (a t : Addr) (w : List Bool) (cs : List Cell) (vs : List Int), xs = [.ref a, .ref t, .str (wS w)] ∧ PlanAt K H a cs ∧ Good cs ∧ cs.length ≤ 24 ∧
  SqT K H t (vs.map V.int) ∧ Vals9 cs.length vs ∧ w.length ≤ 400 ∧ ∀ H' u, Same H H' → SqT K H' u ((aft cs w vs).map V.int) → Q (.ref u) H'
theorem wS_nil : V.str (wS []) = V.str "" := by decide +kernel
theorem line_shaped (l : List Int) : SeqAt.shaped (lineD l) = true := by
  obtain ⟨h1, h2⟩ := ints_lay l
  show SeqAt.shaped (.tuple (l.map PyData.int)) = true
  unfold SeqAt.shaped
  simp only [PyData.canLay0, PyData.depth, h1, h2]
  decide
end KS
namespace KS
open PySem PySem.Spec PyProof.Rows L2
def lS (b : Bool) : Str := ⟨#[ltr b]⟩
theorem lS_w (b : Bool) : lS b = wS [b] := rfl
theorem join_ws : ∀ w : List Bool, Str.join "" (w.map lS) = wS w
  | [] => by decide +kernel
  | [b] => rfl
  | b :: c :: r => by
    have h := join_ws (c :: r)
    show lS b ++ "" ++ Str.join "" ((c :: r).map lS) = _
    rw [h, show ("" : Str) = wS [] from by decide +kernel, lS_w, wS_app, wS_app]
    rfl
theorem join_letters (w : List Bool) : Txt.join "" (w.map lS) = wS w := by
  show Builtin.Str.glued "" (w.map lS) = _
  rw [StrLaws.glued_eq_join, join_ws]
theorem lS_sum : ∀ w : List Bool, ((w.map lS).map (·.length)).sum = w.length
  | [] => rfl
  | b :: w => by
    show 1 + ((w.map lS).map (·.length)).sum = _
    rw [lS_sum w, List.length_cons]
    omega
def pcell (j : Nat) : Cell := (((j : Int) / 2), ((j : Int) / 2 + (j : Int) % 2))
def pathTo (n : Nat) : List Cell := (List.range n).map pcell
theorem pathTo_succ (n : Nat) : pathTo (n + 1) = pathTo n ++ [pcell n] := by
  unfold pathTo
  rw [List.range_succ, List.map_append]
  rfl
theorem path_good : Good (pathTo 15) := by
  refine ⟨?_, ?_, by decide⟩
  · unfold pathTo
    refine List.pairwise_map.2 (List.pairwise_lt_range.imp ?_)
    intro x y h
    show ((x : Int) / 2 < (y : Int) / 2) ∨ ((x : Int) / 2 = (y : Int) / 2 ∧ (x : Int) / 2 + (x : Int) % 2 < (y : Int) / 2 + (y : Int) % 2)
    omega
  · intro c hc
    obtain ⟨j, hj, rfl⟩ := List.mem_map.mp hc
    have := List.mem_range.mp hj
    show 0 ≤ (j : Int) / 2 ∧ (j : Int) / 2 ≤ 7 ∧ 0 ≤ (j : Int) / 2 + (j : Int) % 2 ∧ (j : Int) / 2 + (j : Int) % 2 ≤ 7
    omega
def four : List Cell := [(0, 0), (0, 1), (1, 1), (2, 0)]
theorem four_good : Good four := by
  refine ⟨?_, ?_, by decide⟩
  · simp [four, lt2]
  · simp [four, InGrid]
end KS
namespace KS
open PySem PySem.Spec PyProof.Rows L2
/-! ### a word, so many times -/
theorem rep_words (w : List Bool) : ∀ (n : Nat) (a : Array Nat), (List.replicate n (w.map ltr).toArray).foldl (· ++ ·) a = a ++ (((List.replicate n w).flatten).map ltr).toArray
  | 0, a => by simp
  | n + 1, a => by
    rw [List.replicate_succ, List.foldl_cons, rep_words w n, List.replicate_succ, List.flatten_cons, List.map_append]
    apply Array.ext'
    simp
def rRepW : R2 := fun x y H Q => ∃ (wd : List Bool) (n : Nat), x = .str (wS wd) ∧ y = .int n ∧ 2 ≤ n ∧ n ≤ 400 ∧ 1 ≤ wd.length ∧ wd.length ≤ 400 ∧ Q (.str (wS (List.replicate n wd).flatten)) H
theorem op_repW {X : Cx} : OpR X (binaryOp .Mult) rRepW := by
  intro pins s σ H x y v u Q I rx ry h
  obtain ⟨wd, n, rfl, rfl, n0, n1, w0, w1, q⟩ := h
  obtain ⟨t, rfl⟩ := rx
  obtain ⟨t', rfl⟩ := ry
  have e1 : ¬ ((n : Int) < 1) := by omega
  have hl := wS_len wd
  have hm : wd.length * n ≤ 160000 := Nat.mul_le_mul w1 n1
  refine P.mul_str ?_ ?_ ?_ ?_
  · have h1 : ¬ (n : Int) < -(2 ^ 63 : Int) := by omega
    have h2 : ¬ (n : Int) ≥ 2 ^ 63 := by omega
    rw [decide_eq_false h1, decide_eq_false h2]
    rfl
  · intro _ _
    rw [hl]
    have : (wd.length : Int) ≤ (2 ^ 63 - 1) / (n : Int) := (Int.le_ediv_iff_mul_le (by omega)).mpr (by
      have : ((wd.length * n : Nat) : Int) ≤ 160000 := by omega
      rw [Int.natCast_mul] at this
      omega)
    omega
  · intro _ _
    refine decide_eq_false ?_
    rw [hl, sizeLine_eq, Int.toNat_natCast]
    omega
  · rw [if_neg e1]
    have z : (((n : Int) == 1) || ((wS wd).length == 0)) = false := by
      have a : ((n : Int) == 1) = false := by
        rw [beq_eq_false_iff_ne]
        omega
      have b : ((wS wd).length == 0) = false := by
        rw [hl, beq_eq_false_iff_ne]
        omega
      rw [a, b]
      rfl
    rw [if_neg (by rw [z]; decide)]
    have ez : (⟨(List.replicate (n : Int).toNat (wS wd).cps).foldl (· ++ ·) #[]⟩ : Str) = wS (List.replicate n wd).flatten := by
      rw [Int.toNat_natCast]
      show (⟨(List.replicate n (wd.map ltr).toArray).foldl (· ++ ·) #[]⟩ : Str) = _
      rw [rep_words]
      unfold wS
      simp
    rw [ez]
    refine ⟨?_, .str (wS (List.replicate n wd).flatten), H, I.tok _, ⟨_, rfl⟩, q⟩
    rw [wS_len, List.length_flatten, List.map_replicate, List.sum_replicate_nat, sizeLine_eq, Nat.mul_comm]
    omega
/-! ### words one after the other -/
theorem aft_app (cs : List Cell) (w v : List Bool) (vs : List Int) : aft cs (w ++ v) vs = aft cs v (aft cs w vs) := by
  unfold aft
  rw [List.foldl_append]
theorem srt_twice {b : Bool} {cs : List Cell} {vs : List Int} (h : vs.length = cs.length) : srt b cs (srt b cs vs) = srt b cs vs :=
  rises_fix (by rw [srt_len]; exact h) (srt_rises h)
theorem settled_both {cs : List Cell} {vs : List Int} (h : settled cs vs = true) (b : Bool) : rises b cs vs = true := by
  unfold settled at h
  rw [Bool.and_eq_true] at h
  cases b
  · exact h.1
  · exact h.2
theorem aft_settled {cs : List Cell} {vs : List Int} (hl : vs.length = cs.length) (h : settled cs vs = true) : ∀ w : List Bool, aft cs w vs = vs
  | [] => rfl
  | b :: w => by
    show aft cs w (srt b cs vs) = vs
    rw [rises_fix hl (settled_both h b)]
    exact aft_settled hl h w
theorem turns_two (b : Bool) : ∀ m : Nat, (List.replicate m [b, !b]).flatten = turns b (2 * m)
  | 0 => rfl
  | m + 1 => by
    rw [List.replicate_succ, List.flatten_cons, turns_two b m]
    show b :: (!b) :: turns b (2 * m) = turns b (2 * m + 2)
    show _ = b :: (!b) :: turns (!(!b)) (2 * m)
    rw [Bool.not_not]
theorem turns_take : ∀ (n m : Nat) (b : Bool), n ≤ m → (turns b m).take n = turns b n
  | 0, _, _, _ => by simp [turns]
  | n + 1, 0, _, h => by omega
  | n + 1, m + 1, b, h => by
    show (b :: turns (!b) m).take (n + 1) = b :: turns (!b) n
    rw [List.take_succ_cons, turns_take n m (!b) (by omega)]
theorem ne_line {l m : List Int} : (!PyData.eqv (.tuple (l.map PyData.int)) (.tuple (m.map PyData.int))) = !decide (l = m) := by rw [ints_eqvT]
end KS
namespace KS
open PySem PySem.Spec PyProof.Rows L2
/-! ### programs as they lie there -/
mutual
inductive StA (K : PySem.W.Frag) (H : Hp) : V → Stp → Prop
  | w (l : List Bool) : StA K H (.str (wS l)) (.w l)
  | r {t b : Addr} {n : Int} {xs : List V} {ss : List Stp} : SqT K H t [.str "repeat", .int n, .ref b] → SqT K H b xs → StsA K H xs ss → StA K H (.ref t) (.r n ss)
inductive StsA (K : PySem.W.Frag) (H : Hp) : List V → List Stp → Prop
  | nil : StsA K H [] []
  | cons {v : V} {s : Stp} {vs : List V} {ss : List Stp} : StA K H v s → StsA K H vs ss → StsA K H (v :: vs) (s :: ss)
end
mutual
theorem StA.kt {K : PySem.W.Frag} {H H' : Hp} (k : KT K H H') : ∀ {v : V} {s : Stp}, StA K H v s → StA K H' v s
  | _, _, .w l => .w l
  | _, _, .r h1 h2 h3 => .r (k _ _ h1) (k _ _ h2) (StsA.kt k h3)
theorem StsA.kt {K : PySem.W.Frag} {H H' : Hp} (k : KT K H H') : ∀ {vs : List V} {ss : List Stp}, StsA K H vs ss → StsA K H' vs ss
  | _, _, .nil => .nil
  | _, _, .cons h1 h2 => .cons (StA.kt k h1) (StsA.kt k h2)
end
theorem StsA.len {K : PySem.W.Frag} {H : Hp} : ∀ {vs : List V} {ss : List Stp}, StsA K H vs ss → vs.length = ss.length
  | _, _, .nil => rfl
  | _, _, .cons _ h => congrArg (· + 1) (StsA.len h)
theorem StsA.get {K : PySem.W.Frag} {H : Hp} : ∀ {vs : List V} {ss : List Stp}, StsA K H vs ss → ∀ {i : Nat} {v : V}, vs[i]? = some v → ∃ s, ss[i]? = some s ∧ StA K H v s
  | _, _, .nil, i, v, e => by cases e
  | _, _, .cons h1 h2, 0, v, e => by
    cases e
    exact ⟨_, rfl, h1⟩
  | _, _, .cons h1 h2, i + 1, v, e => StsA.get h2 e
theorem StsA.app {K : PySem.W.Frag} {H : Hp} : ∀ {vs ws : List V} {ss ts : List Stp}, StsA K H vs ss → StsA K H ws ts → StsA K H (vs ++ ws) (ss ++ ts)
  | _, _, _, _, .nil, h => h
  | _, _, _, _, .cons h1 h2, h => .cons h1 (StsA.app h2 h)
/-- a program: a tuple of steps -/
def PgA (K : PySem.W.Frag) (H : Hp) (t : Addr) (ss : List Stp) : Prop := ∃ xs, SqT K H t xs ∧ StsA K H xs ss
theorem PgA.kt {K : PySem.W.Frag} {H H' : Hp} (k : KT K H H') {t : Addr} {ss : List Stp} (h : PgA K H t ss) : PgA K H' t ss := by
  obtain ⟨xs, h1, h2⟩ := h
  exact ⟨xs, k _ _ h1, h2.kt k⟩
theorem stepsL_take {ss : List Stp} {i : Nat} {s : Stp} (h : ss[i]? = some s) : stepsL (ss.take (i + 1)) = stepsL (ss.take i) + s.steps ∧ stepsL (ss.take i) + s.steps ≤ stepsL ss := by
  have e : stepsL (ss.take (i + 1)) = stepsL (ss.take i) + s.steps := by
    rw [List.take_add_one, h, stepsL_app]
    show _ + stepsL [s] = _
    simp only [stepsL]
    omega
  refine ⟨e, ?_⟩
  rw [← e]
  have := stepsL_app (ss.take (i + 1)) (ss.drop (i + 1))
  rw [List.take_append_drop] at this
  omega
theorem cntL_take {k : Bool} {ss : List Stp} {i : Nat} {s : Stp} (h : ss[i]? = some s) : cntL k (ss.take (i + 1)) = cntL k (ss.take i) + s.cnt k := by
  rw [List.take_add_one, h, cntL_app]
  show _ + cntL k [s] = _
  simp only [cntL]
  omega
/-! ### letters counted -/
theorem cnt_ltr (k : Bool) : ∀ l : List Bool, PyProof.Rows.cnt (ltr k) (l.map ltr) = ((l.countP fun b => b == k : Nat) : Int)
  | [] => cnt_nil _
  | b :: l => by
    rw [List.map_cons, cnt_cons, cnt_ltr k l, List.countP_cons]
    cases k <;> cases b <;> simp [ltr] <;> omega
theorem count_wS (k : Bool) (l : List Bool) : Txt.count (wS l) ⟨#[ltr k]⟩ = ((l.countP fun b => b == k : Nat) : Int) := by
  rw [count_cnt]
  exact cnt_ltr k l
theorem wS_ne {l : List Bool} (h : l ≠ []) : V.bl (!decide (V.str (wS l) = V.str "")) = V.bl true := by
  have : V.str (wS l) ≠ V.str "" := fun e => by
    have e := V.str.inj e
    have e2 := wS_len l
    rw [e] at e2
    have e0 : ("" : Str).length = 0 := by decide +kernel
    rw [e0] at e2
    exact h (List.length_eq_zero_iff.mp e2.symm)
  rw [decide_eq_false this]
  rfl
/-! ### the promises -/
def spIsWordG : Sp := fun xs H Q _ => ∃ l : List Bool, xs = [.str (wS l)] ∧ l.length ≤ 400 ∧ ∀ H', Same H H' → Q (.bl true) H'
def spIsRep (K : PySem.W.Frag) : Sp := fun xs H Q _ => ∃ (t b : Addr) (n : Int) (ys : List V), xs = [.ref t] ∧ SqT K H t [.str "repeat", .int n, .ref b] ∧ SqT K H b ys ∧ 1 ≤ n ∧ n ≤ 10 ^ 30 ∧ Q (.bl true) H
def spCS (K : PySem.W.Frag) (m : Nat) : Sp := fun xs H Q _ => ∃ (v : V) (s : Stp) (d room : Int), xs = [v, .int d, .int room] ∧ StA K H v s ∧ s.ok ∧ s.nest ≤ m ∧ 1 ≤ d ∧ d + (s.nest : Nat) ≤ 5 ∧ (s.steps : Nat) ≤ room ∧ ∀ H', Same H H' → Q (.int (s.steps : Nat)) H'
def spCP (K : PySem.W.Frag) : Sp := fun xs H Q _ => ∃ (t : Addr) (ss : List Stp), xs = [.ref t] ∧ PgA K H t ss ∧ okL ss ∧ nestL ss ≤ 4 ∧ stepsL ss ≤ 60 ∧ ∀ H', Same H H' → Q .non H'
def spSrt (K : PySem.W.Frag) (m : Nat) : Sp := fun xs H Q _ => ∃ (t : Addr) (ss : List Stp), xs = [.ref t] ∧ PgA K H t ss ∧ okL ss ∧ nestL ss ≤ m ∧ nestL ss ≤ 4 ∧ stepsL ss ≤ 60 ∧ ∀ H' u, Same H H' → H' u = some (.tup [.int (cntL false ss), .int (cntL true ss)]) → Q (.ref u) H'
def spOps (K : PySem.W.Frag) : Sp := fun xs H Q _ => ∃ (t : Addr) (ss : List Stp), xs = [.ref t] ∧ PgA K H t ss ∧ okL ss ∧ nestL ss ≤ 4 ∧ stepsL ss ≤ 60 ∧ ∀ H' u, Same H H' → H' u = some (.tup [.int (cntL false ss), .int (cntL true ss)]) → Q (.ref u) H'
end KS
namespace KS
open PySem PySem.Spec PyProof.Rows L2 TL
/-! ### the written words of a program -/
inductive Tk
  | op
  | cl (n : Int)
  | wd (l : List Bool)
def nmS (n : Int) : Str := Str.ofString (toString n)
def Tk.str : Tk → Str
  | .op => "("
  | .cl n => (")x" : Str) ++ nmS n
  | .wd l => wS l
mutual
def Stp.tks : Stp → List Tk
  | .w l => [.wd l]
  | .r n b => .op :: (tksL b ++ [.cl n])
def tksL : List Stp → List Tk
  | [] => []
  | s :: b => s.tks ++ tksL b
end
theorem tksL_app : ∀ a b : List Stp, tksL (a ++ b) = tksL a ++ tksL b
  | [], b => by rw [List.nil_append]; simp only [tksL]; rw [List.nil_append]
  | s :: a, b => by
    rw [List.cons_append]
    simp only [tksL]
    rw [tksL_app a b, List.append_assoc]
theorem tks_ne (s : Stp) : s.tks ≠ [] := by
  cases s with
  | w l => simp only [Stp.tks]; exact List.cons_ne_nil _ _
  | r n b => simp only [Stp.tks]; exact List.cons_ne_nil _ _
theorem tksL_flat : ∀ b : List Stp, (b.map Stp.tks).flatten = tksL b
  | [] => by simp only [tksL]; rfl
  | s :: b => by
    rw [List.map_cons, List.flatten_cons, tksL_flat b]
    simp only [tksL]
/-! ### joined by blanks -/
def jn (L : List Str) : Str := Txt.join (" " : Str) L
theorem tl_sp : tl (" " : Str) = [32] := by decide +kernel
theorem tl_jn (L : List Str) : tl (jn L) = joinL [32] (L.map tl) := by
  unfold jn
  rw [join_eq, tl_join, tl_sp]
theorem joinL_app (S : List Nat) : ∀ (a b : List (List Nat)), a ≠ [] → b ≠ [] → joinL S (a ++ b) = joinL S a ++ (S ++ joinL S b)
  | [], b, h, _ => absurd rfl h
  | [p], [], _, h => absurd rfl h
  | [p], q :: r, _, _ => rfl
  | p :: q :: r, b, _, h => by
    have ih := joinL_app S (q :: r) b (List.cons_ne_nil _ _) h
    show joinL S (p :: q :: (r ++ b)) = _
    show p ++ (S ++ joinL S (q :: (r ++ b))) = (p ++ (S ++ joinL S (q :: r))) ++ (S ++ joinL S b)
    have e : joinL S (q :: (r ++ b)) = joinL S (q :: r ++ b) := rfl
    rw [e, ih, List.append_assoc, List.append_assoc]
theorem joinL_flat (S : List Nat) : ∀ L : List (List (List Nat)), (∀ l ∈ L, l ≠ []) → joinL S (L.map (joinL S)) = joinL S L.flatten
  | [], _ => rfl
  | [l], _ => by
    rw [List.map_cons, List.map_nil, List.flatten_cons, List.flatten_nil, List.append_nil]
    rfl
  | l :: m :: r, h => by
    have ih := joinL_flat S (m :: r) (fun x hx => h x (List.mem_cons_of_mem _ hx))
    have hm : m ≠ [] := h m (List.mem_cons_of_mem _ (List.mem_cons_self ..))
    have ne : (m :: r).flatten ≠ [] := by
      rw [List.flatten_cons]
      intro z
      exact hm (List.append_eq_nil_iff.mp z).1
    rw [List.flatten_cons, joinL_app S l _ (h l (List.mem_cons_self ..)) ne, ← ih]
    rfl
theorem jn_flat (L : List (List Str)) (h : ∀ l ∈ L, l ≠ []) : jn (L.map jn) = jn L.flatten := by
  refine ext_tl ?_
  rw [tl_jn, tl_jn, List.map_map]
  have e : (L.map (tl ∘ jn)) = (L.map (fun l => l.map tl)).map (joinL [32]) := by
    rw [List.map_map]
    refine List.map_congr_left fun l _ => ?_
    exact tl_jn l
  rw [e, joinL_flat [32] _ (fun l hl => ?_), List.map_flatten]
  obtain ⟨z, hz, rfl⟩ := List.mem_map.mp hl
  exact fun q => h z hz (List.map_eq_nil_iff.mp q)
theorem jn_one (x : Str) : jn [x] = x := by
  refine ext_tl ?_
  rw [tl_jn]
  rfl
theorem jn_nil : jn [] = "" := by
  refine ext_tl ?_
  rw [tl_jn]
  decide +kernel
/-! ### sizes -/
def wtS (L : List Str) : Nat := (L.map (·.length)).sum + L.length
theorem wtS_app (a b : List Str) : wtS (a ++ b) = wtS a + wtS b := by
  unfold wtS
  rw [List.map_append, List.sum_append, List.length_append]
  omega
theorem wtS_cons (a : Str) (b : List Str) : wtS (a :: b) = a.length + 1 + wtS b := by
  unfold wtS
  rw [List.map_cons, List.sum_cons, List.length_cons]
  omega
theorem wtS_nil : wtS [] = 0 := rfl
theorem joinL_len : ∀ L : List (List Nat), (joinL [32] L).length ≤ (L.map List.length).sum + L.length
  | [] => Nat.le_refl _
  | [p] => by
    show p.length ≤ _
    rw [List.map_cons, List.sum_cons]
    omega
  | p :: q :: r => by
    have ih := joinL_len (q :: r)
    show (p ++ ([32] ++ joinL [32] (q :: r))).length ≤ _
    rw [List.length_append, List.length_append, List.map_cons, List.sum_cons, List.length_cons (a := p)]
    show p.length + (1 + (joinL [32] (q :: r)).length) ≤ _
    omega
theorem jn_len (L : List Str) : (jn L).length ≤ wtS L := by
  have := joinL_len (L.map tl)
  rw [len_tl, tl_jn]
  unfold wtS
  rw [List.map_map, List.length_map] at this
  have e : L.map (List.length ∘ tl) = L.map (·.length) := List.map_congr_left fun x _ => (len_tl x).symm
  rw [e] at this
  exact this
theorem nm_tl {n : Int} (h : 0 ≤ n) : tl (nmS n) = numL n.toNat := by
  obtain ⟨k, rfl⟩ := Int.eq_ofNat_of_zero_le h
  unfold nmS
  rw [tl_num, Int.toNat_natCast]
theorem nm_len {n : Int} (h : 0 ≤ n) (h2 : n ≤ 10 ^ 30) : (nmS n).length ≤ 31 := by
  rw [len_tl, nm_tl h]
  refine numL_len (by decide) ?_
  have : n.toNat ≤ 10 ^ 30 := by
    obtain ⟨k, rfl⟩ := Int.eq_ofNat_of_zero_le h
    rw [Int.toNat_natCast]
    exact_mod_cast h2
  have e : (10 : Nat) ^ 30 < 10 ^ 31 := by decide +kernel
  omega
theorem op_len : Tk.op.str.length = 1 := by decide +kernel
theorem cx_tl : tl (")x" : Str) = [41, 120] := by decide +kernel
theorem cl_tl {n : Int} (h : 0 ≤ n) : tl (Tk.cl n).str = 41 :: 120 :: numL n.toNat := by
  show tl ((")x" : Str) ++ nmS n) = _
  rw [tl_append, cx_tl, nm_tl h]
  rfl
theorem cl_len {n : Int} (h : 0 ≤ n) (h2 : n ≤ 10 ^ 30) : (Tk.cl n).str.length ≤ 33 := by
  rw [len_tl, cl_tl h]
  have := nm_len h h2
  rw [len_tl, nm_tl h] at this
  show (numL n.toNat).length + 1 + 1 ≤ 33
  omega
abbrev tkS (L : List Tk) : List Str := L.map Tk.str
mutual
theorem wt_tks : ∀ s : Stp, s.ok → wtS (tkS s.tks) ≤ 401 * s.steps
  | .w l, h => by
    simp only [Stp.ok] at h
    simp only [Stp.tks, Stp.steps]
    show wtS [wS l] ≤ _
    rw [wtS_cons, wtS_nil, wS_len]
    omega
  | .r n b, h => by
    simp only [Stp.ok] at h
    simp only [Stp.tks, Stp.steps]
    have ih := wt_tksL b h.2.2
    show wtS (Tk.op.str :: tkS (tksL b ++ [.cl n])) ≤ _
    have e : tkS (tksL b ++ [.cl n]) = tkS (tksL b) ++ [(Tk.cl n).str] := List.map_append
    rw [wtS_cons, e, wtS_app, wtS_cons, wtS_nil, op_len]
    have := cl_len (show 0 ≤ n by omega) h.2.1
    omega
theorem wt_tksL : ∀ b : List Stp, okL b → wtS (tkS (tksL b)) ≤ 401 * stepsL b
  | [], _ => by
    simp only [tksL, stepsL]
    exact Nat.le_refl _
  | s :: b, h => by
    simp only [okL] at h
    simp only [tksL, stepsL]
    have i1 := wt_tks s h.1
    have i2 := wt_tksL b h.2
    have e : tkS (s.tks ++ tksL b) = tkS s.tks ++ tkS (tksL b) := List.map_append
    rw [e, wtS_app]
    omega
end
theorem wtS_len (L : List Str) : L.length ≤ wtS L := by
  unfold wtS
  omega
/-! ### words are free of blanks, and told apart -/
mutual
theorem tk_free : ∀ s : Stp, s.ok → ∀ p ∈ tkS s.tks, 32 ∉ tl p
  | .w l, h => by
    simp only [Stp.tks]
    intro p hp
    have : p = wS l := List.mem_singleton.mp hp
    subst this
    intro hc
    have hc' : 32 ∈ (l.map ltr).toArray.toList := hc
    rw [List.toList_toArray] at hc'
    obtain ⟨b, _, e⟩ := List.mem_map.mp hc'
    cases b <;> exact absurd e (by decide)
  | .r n b, h => by
    simp only [Stp.ok] at h
    simp only [Stp.tks]
    intro p hp
    have e : tkS (Tk.op :: (tksL b ++ [.cl n])) = Tk.op.str :: (tkS (tksL b) ++ [(Tk.cl n).str]) := by
      show Tk.op.str :: List.map Tk.str (tksL b ++ [.cl n]) = _
      rw [List.map_append]
      rfl
    rw [e] at hp
    rcases List.mem_cons.mp hp with rfl | hp
    · decide +kernel
    · rcases List.mem_append.mp hp with hp | hp
      · exact tkL_free b h.2.2 p hp
      · have : p = (Tk.cl n).str := List.mem_singleton.mp hp
        subst this
        rw [cl_tl (by omega)]
        intro z
        rcases List.mem_cons.mp z with z | z
        · exact absurd z (by decide)
        · rcases List.mem_cons.mp z with z | z
          · exact absurd z (by decide)
          · exact numL_free (.inl (by decide)) z
theorem tkL_free : ∀ b : List Stp, okL b → ∀ p ∈ tkS (tksL b), 32 ∉ tl p
  | [], _ => by
    simp only [tksL]
    intro p hp
    cases hp
  | s :: b, h => by
    simp only [okL] at h
    simp only [tksL]
    intro p hp
    have e : tkS (s.tks ++ tksL b) = tkS s.tks ++ tkS (tksL b) := List.map_append
    rw [e] at hp
    rcases List.mem_append.mp hp with hp | hp
    · exact tk_free s h.1 p hp
    · exact tkL_free b h.2 p hp
end
theorem split_jn {L : List Str} (hne : L ≠ []) (h : ∀ p ∈ L, 32 ∉ tl p) : Txt.split (jn L) " " = L := split_join tl_sp (by decide +kernel) hne h
/-! ### the reading machine -/
def mach : List (List Stp) → List Tk → Option (List (List Stp))
  | stk, [] => some stk
  | [], _ :: _ => none
  | a :: r, .wd l :: t => mach ((a ++ [.w l]) :: r) t
  | a :: r, .op :: t => mach ([] :: a :: r) t
  | [_], .cl _ :: _ => none
  | a :: b :: r, .cl n :: t => mach ((b ++ [.r n a]) :: r) t
mutual
theorem mach_tks : ∀ (s : Stp) (a : List Stp) (r : List (List Stp)) (t : List Tk), mach (a :: r) (s.tks ++ t) = mach ((a ++ [s]) :: r) t
  | .w l, a, r, t => by
    simp only [Stp.tks]
    show mach (a :: r) (.wd l :: t) = _
    rw [mach]
  | .r n b, a, r, t => by
    simp only [Stp.tks]
    show mach (a :: r) (.op :: ((tksL b ++ [.cl n]) ++ t)) = _
    rw [mach, List.append_assoc, mach_tksL b [] (a :: r), List.nil_append]
    show mach (b :: a :: r) (.cl n :: t) = _
    rw [mach]
theorem mach_tksL : ∀ (b : List Stp) (a : List Stp) (r : List (List Stp)) (t : List Tk), mach (a :: r) (tksL b ++ t) = mach ((a ++ b) :: r) t
  | [], a, r, t => by
    simp only [tksL]
    rw [List.nil_append, List.append_nil]
  | s :: b, a, r, t => by
    simp only [tksL]
    rw [List.append_assoc, mach_tks s a r, mach_tksL b (a ++ [s]) r, List.append_assoc]
    rfl
end
theorem mach_all (ss : List Stp) : mach [[]] (tksL ss) = some [ss] := by
  have := mach_tksL ss [] [] []
  rw [List.append_nil, List.nil_append] at this
  rw [this]
  rw [mach]
/-! the numbers of written repeats -/
mutual
theorem tk_cl : ∀ (s : Stp), s.ok → ∀ n, Tk.cl n ∈ s.tks → 1 ≤ n ∧ n ≤ 10 ^ 30
  | .w l, h => by
    simp only [Stp.tks]
    intro n hn
    cases List.mem_singleton.mp hn
  | .r m b, h => by
    simp only [Stp.ok] at h
    simp only [Stp.tks]
    intro n hn
    rcases List.mem_cons.mp hn with e | hn
    · cases e
    · rcases List.mem_append.mp hn with hn | hn
      · exact tkL_cl b h.2.2 n hn
      · cases List.mem_singleton.mp hn
        exact ⟨h.1, h.2.1⟩
theorem tkL_cl : ∀ (b : List Stp), okL b → ∀ n, Tk.cl n ∈ tksL b → 1 ≤ n ∧ n ≤ 10 ^ 30
  | [], _ => by
    simp only [tksL]
    intro n hn
    cases hn
  | s :: b, h => by
    simp only [okL] at h
    simp only [tksL]
    intro n hn
    rcases List.mem_append.mp hn with hn | hn
    · exact tk_cl s h.1 n hn
    · exact tkL_cl b h.2 n hn
end
theorem wd_ne_op (l : List Bool) : wS l ≠ "(" := fun e => by
  have e := congrArg tl e
  have e2 : tl ("(" : Str) = [40] := by decide +kernel
  rw [e2] at e
  have e3 : l.map ltr = [40] := by
    have : tl (wS l) = l.map ltr := List.toList_toArray
    rw [← this]
    exact e
  cases l with
  | nil => cases e3
  | cons b l =>
    rw [List.map_cons] at e3
    have := (List.cons.inj e3).1
    cases b <;> exact absurd this (by decide)
theorem cl_ne_op {n : Int} (h : 0 ≤ n) : (Tk.cl n).str ≠ "(" := fun e => by
  have e := congrArg tl e
  have e2 : tl ("(" : Str) = [40] := by decide +kernel
  rw [e2, cl_tl h] at e
  exact absurd (List.cons.inj e).1 (by decide)
theorem sw_cl {n : Int} (h : 0 ≤ n) : Txt.startswith (Tk.cl n).str ")x" = true := by
  unfold Txt.startswith
  have e1 : (")x" : Str).length = 2 := by decide +kernel
  have e2 := len_tl (Tk.cl n).str
  rw [cl_tl h] at e2
  have e3 : Builtin.Str.subAt (Tk.cl n).str ")x" 0 = true := by
    rw [StrLaws.subAt_eq, e1]
    show (List.take 2 (List.drop 0 (tl (Tk.cl n).str)) == tl (")x" : Str)) = true
    rw [cl_tl h, cx_tl]
    rfl
  rw [e3, e1, e2]
  show (decide (0 + 2 ≤ (numL n.toNat).length + 1 + 1) && true) = true
  rw [decide_eq_true (by omega)]
  rfl
theorem sw_wd (l : List Bool) : Txt.startswith (wS l) ")x" = false := by
  unfold Txt.startswith
  have e1 : (")x" : Str).length = 2 := by decide +kernel
  have e3 : Builtin.Str.subAt (wS l) ")x" 0 = false := by
    rw [StrLaws.subAt_eq, e1]
    show (List.take 2 (List.drop 0 (tl (wS l))) == tl (")x" : Str)) = false
    have : tl (wS l) = l.map ltr := List.toList_toArray
    rw [this, cx_tl, List.drop_zero]
    cases l with
    | nil => rfl
    | cons b l =>
      cases b <;> cases l <;> rfl
  rw [e3, Bool.and_false]
theorem cut_cl {n : Int} (h : 0 ≤ n) : (⟨((tl (Tk.cl n).str).drop 2).toArray⟩ : Str) = nmS n := by
  refine ext_tl ?_
  rw [tl_mk, cl_tl h, nm_tl h]
  rfl
/-! ### numbers read back -/
theorem dec_digit : ∀ c : Nat, 48 ≤ c ∧ c ≤ 57 → Unicode.isDecimal c = true := by
  intro c ⟨h1, h2⟩
  have : c = 48 ∨ c = 49 ∨ c = 50 ∨ c = 51 ∨ c = 52 ∨ c = 53 ∨ c = 54 ∨ c = 55 ∨ c = 56 ∨ c = 57 := by omega
  rcases this with e | e | e | e | e | e | e | e | e | e <;> subst e <;> decide +kernel
theorem nm_dec {n : Int} (h : 0 ≤ n) : Txt.isdecimal (nmS n) = true := by
  unfold Txt.isdecimal
  have l0 : 0 < (nmS n).length := by
    rw [len_tl, nm_tl h]
    exact List.length_pos_iff.mpr (numL_ne _)
  rw [decide_eq_true (show (nmS n).length > 0 from l0), Bool.true_and, ← Array.all_toList, List.all_eq_true]
  intro c hc
  have hc' : c ∈ tl (nmS n) := hc
  rw [nm_tl h] at hc'
  exact dec_digit c (numL_digits _ c hc')
theorem nm_int {n : Int} (h : 0 ≤ n) (hl : (nmS n).length ≤ 640) : intText? (nmS n) = some n := by
  have e : n = ((n.toNat : Nat) : Int) := (Int.toNat_of_nonneg h).symm
  have e2 := int_num (n := n.toNat) (by rw [← nm_tl h, ← len_tl]; omega)
  rw [← e] at e2
  exact e2
theorem dot_dec : Txt.isdecimal ("." : Str) = false := by
  unfold Txt.isdecimal
  decide +kernel
end KS
namespace KS
open PySem PySem.Spec PyProof.Rows L2
/-! ### zip(t, l): t a tuple, l a list, of one length -/
def ItTL (K : PySem.W.Frag) (a b : Addr) : It where
  go := fun i H => ∃ (ts ls : List V) (x y : V), SqT K H a ts ∧ SqL K H b ls ∧ ts[i]? = some x ∧ ls[i]? = some y
  yld := fun i H v H' => ∃ (T : Addr) (x y : V), v = .ref T ∧ H T = none ∧ H' = upd H T (.tup [x, y]) ∧ (∀ ts, SqT K H a ts → ts[i]? = some x) ∧ (∀ ls, SqL K H b ls → ls[i]? = some y)
  stop := fun i H => ∃ ts ls : List V, SqT K H a ts ∧ SqL K H b ls ∧ ts.length = i ∧ ls.length = i
def TLs (a b z TI TO i1 i2 : Addr) (i : Nat) (h : Heap) : Prop :=
  IsZip h z TI TO .none ∧ IsTupOf2 h TI (.ref i1) (.ref i2) ∧ (∃ x y, IsTupOf2 h TO x y) ∧ h.IsTupleIter i1 a i ∧ h.IsListIter i2 b i
theorem mem5 {c z TI TO i1 i2 : Addr} (h : c ∈ [z, TI, TO, i1, i2]) : c = z ∨ c = TI ∨ c = TO ∨ c = i1 ∨ c = i2 := by simpa using h
theorem out4 {c z TI TO i1 i2 : Addr} (h : c ∉ [z, TI, TO, i1, i2]) : c ≠ z ∧ c ≠ TO ∧ c ≠ i1 ∧ c ≠ i2 := by
  simp only [List.mem_cons, not_or] at h
  exact ⟨h.1, h.2.2.1, h.2.2.2.1, h.2.2.2.2.1⟩
theorem apart_sep {z TI TO i1 i2 a b : Addr} (D : ZipApart z TI TO i1 i2 a b) : ZipSep2 z TI TO i1 i2 [i1, a] [i2, b] where
  TIz := D.TIz
  TOz := D.TOz
  TITO := D.TITO
  TIi1 := D.TIi1
  TIi2 := D.TIi2
  mem1 := List.mem_cons_self
  mem2 := List.mem_cons_self
  zf1 := by simp [D.i1z.symm, D.l1z.symm]
  zf2 := by simp [D.i2z.symm, D.l2z.symm]
  Tf1 := by simp [D.TOi1, D.l1TO.symm]
  Tf2 := by simp [D.TOi2, D.l2TO.symm]
  sep1_2 := by simp [D.i12, D.l2i1.symm]
  sep2_1 := by simp [D.i12.symm, D.l1i2.symm]
theorem tls_lt {a b z TI TO i1 i2 : Addr} {i : Nat} {h : Heap} (st : TLs a b z TI TO i1 i2 i h) {c : Addr} (hc : c ∈ [z, TI, TO, i1, i2]) : ∃ o, h.get? c = some o ∧ ∀ v, o.data ≠ .cell v := by
  obtain ⟨q0, q1, ⟨x, y, q2⟩, ⟨o3, q3, _, d3⟩, ⟨o4, q4, _, d4⟩⟩ := st
  rcases mem5 hc with e | e | e | e | e <;> subst e
  · exact ⟨_, q0, fun v z => nomatch z⟩
  · exact ⟨_, q1, fun v z => nomatch z⟩
  · exact ⟨_, q2, fun v z => nomatch z⟩
  · exact ⟨o3, q3, fun v z => by rw [d3] at z; cases z⟩
  · exact ⟨o4, q4, fun v z => by rw [d4] at z; cases z⟩
theorem turn_TL {P : Program} {w : World} {K : PySem.W.Frag} {elts : List Expr} {kk : Nat} {tpos : Pos} {a b z TI TO i1 i2 : Addr} (D : ZipApart z TI TO i1 i2 a b) :
    Turn P w K (.Tuple elts kk tpos) (ItTL K a b) [z, TI, TO, i1, i2] z (TLs a b z TI TO i1 i2) where
  mem := List.mem_cons_self
  obj := fun i h st c hc => tls_lt st hc
  keep := fun i h h' st k => by
    obtain ⟨q0, q1, ⟨x, y, q2⟩, q3, q4⟩ := st
    exact ⟨k z (by simp) _ q0, k TI (by simp) _ q1, ⟨x, y, k TO (by simp) _ q2⟩, q3.at fun o e => k i1 (by simp) o e, q4.at fun o e => k i2 (by simp) o e⟩
  self := fun A i s Q E st h => wpAny_pyIter_zip st.1 h
  item := by
    intro X hP hw hK hc i pins s σ H E I hf st hg
    subst hP hw hK
    have st0 := st
    obtain ⟨q0, q1, ⟨x0, y0, q2⟩, q3, q4⟩ := st
    obtain ⟨ts, ls, x, y, ht, hl, ex, ey⟩ := hg
    obtain ⟨its, rv, p1, _⟩ := I.tuple ht
    obtain ⟨jts, rw', p2, _⟩ := I.list hl
    obtain ⟨u, hu, ru⟩ := rv.get ex
    obtain ⟨v, hv, rv'⟩ := rw'.get ey
    have n1 : i < its.toArray.size := by
      have := (List.getElem?_eq_some_iff.mp hu).1
      simpa using this
    have n2 : i < jts.toArray.size := by
      have := (List.getElem?_eq_some_iff.mp hv).1
      simpa using this
    have hh : X.A.in1.handled = none := I.ok.hd hc
    have zlt : z < s.heap.objs.size := Heap.lt_size q0
    refine wpAny_pyNext_zipD2_item (apart_sep D) (Draws.tuple hh i1 a D.l1i1 its.toArray) (Draws.list hh i2 b D.l2i2 jts.toArray) q0 q1 q2 ⟨q3, p1⟩ ⟨q4, p2.isList⟩ n1 n2 fun u' v' h1 tk hu' hv' z1 o1 a1 b1 hT sz kp => ?_
    have eu : u' = u := by
      have z : its[i]? = some u' := by simpa using hu'
      rw [hu] at z
      exact (Option.some.inj z).symm
    have ev : v' = v := by
      have z : jts[i]? = some v' := by simpa using hv'
      rw [hv] at z
      exact (Option.some.inj z).symm
    subst eu ev
    refine ⟨_, rfl, wpAny_letOwnedTupleGo_zip (s := { s with heap := h1, toks := tk }) z1 fun h2 z2 sb => ?_⟩
    have hT2 : h2.get? s.heap.objs.size = some { cls := .type "tuple", data := .seq #[u', v'] } := (sb.2 _ (Nat.ne_of_gt zlt)).trans hT
    have nw : ObjOk X.prog X.w (upd H s.heap.objs.size (.tup [x, y])) h2 s.heap.objs.size (.tup [x, y]) := ⟨by show 2 ≤ sizeLine; decide, [u', v'], .cons ru (.cons rv' .nil), ⟨_, hT2, rfl, _, rfl⟩⟩
    have I1 : Inv X pins σ (upd H s.heap.objs.size (.tup [x, y])) { s with heap := h2, toks := tk } := by
      refine I.turnedNew (ch := [z, TI, TO, i1, i2]) (fun c o n e => ?_) hf (Nat.le_refl _) nw
      obtain ⟨n1, n2, n3, n4⟩ := out4 n
      exact (sb.2 c n1).trans (kp c o n1 n2 n3 n4 e)
    refine ⟨.ref s.heap.objs.size, _, I1, rfl, ⟨_, x, y, rfl, I.hok.fresh (Nat.le_refl _), rfl, fun m hm => by rw [I.tuple_inj hm ht]; exact ex, fun m hm => by rw [I.list_inj hm hl]; exact ey⟩, ⟨z2, ?_, ⟨u', v', ?_⟩, ?_, ?_⟩, fun c hcm => ?_⟩
    · exact (sb.2 TI D.TIz).trans (kp TI _ D.TIz D.TITO D.TIi1 D.TIi2 q1)
    · exact (sb.2 TO D.TOz).trans o1
    · exact a1.1.at fun o e => (sb.2 i1 D.i1z).trans e
    · exact b1.1.at fun o e => (sb.2 i2 D.i2z).trans e
    · obtain ⟨o, ho, _⟩ := tls_lt st0 hcm
      rw [upd_ne (Nat.ne_of_lt (Heap.lt_size ho))]
      exact (hf c hcm).1
  done := by
    intro X hP hw hK hc i pins s σ H E I hf st hg
    subst hP hw hK
    obtain ⟨q0, q1, ⟨x0, y0, q2⟩, q3, q4⟩ := st
    obtain ⟨ts, ls, ht, hl, e1, e2⟩ := hg
    obtain ⟨its, rv, p1, _⟩ := I.tuple ht
    obtain ⟨jts, rw', p2, _⟩ := I.list hl
    have m1 : its.toArray.size = i := by
      have := rv.length
      simp
      omega
    have m2 : jts.toArray.size = i := by
      have := rw'.length
      simp
      omega
    have hh : X.A.in1.handled = none := I.ok.hd hc
    refine wpAny_pyNext_zipD2_end (apart_sep D) (Draws.tuple hh i1 a D.l1i1 its.toArray) (Draws.list hh i2 b D.l2i2 jts.toArray) q0 q1 q2 ⟨q3, p1⟩ ⟨q4, p2.isList⟩ (by omega) (by omega) (.inl m1.symm) fun h1 tk kp => ⟨rfl, ?_⟩
    refine I.turnedL (ch := [z, TI, TO, i1, i2]) (fun c o n e => ?_) hf
    obtain ⟨n1, n2, n3, n4⟩ := out4 n
    exact kp c o n1 n2 n3 n4 e
def iZipTL (K : PySem.W.Frag) (ta : TA) : TI := fun σ H R => ta σ H fun vs H1 => ∃ a b ts ls, vs = [.ref a, .ref b] ∧ SqT K H1 a ts ∧ SqL K H1 b ls ∧ R (ItTL K a b) H1
theorem pi_zipTL {X : Cx} {e e2 : Expr} {ta : TA} {p pos tpos : Pos} {elts : List Expr} {kk : Nat} (hg : Gl X "zip") (hm : X.mg "zip" = none) (ha : PA X [e, e2] ta)
    (hs : starEach [e, e2] X.env = (false, eval e X.env) :: starEach [e2] X.env := by rfl) (hpl : (backTo pos (starEach [e2] X.env)).any (·.1) = false := by rfl) :
    PI X (.Tuple elts kk tpos) (.Call (.Name "zip" p) [e, e2] [] pos) (iZipTL X.K ta) := by
  refine ⟨fun pins s σ H R I h => Call_ (ld_blt I hg hm PyProof.Rows.boot_zip (PyProof.Rows.callWith_type1 (thn (ha.run pos pins s σ H _ I h) fun us s1 hh => ?_) hs hpl))⟩
  obtain ⟨vs, H1, I1, r1, a, b, ts, ls, ev, ht, hl, q⟩ := hh
  subst ev
  cases r1 with
  | cons r rr =>
    cases rr with
    | cons r' rr =>
      cases rr
      cases r
      cases r'
      obtain ⟨its, rv, p1, _⟩ := I1.tuple ht
      obtain ⟨jts, rw', p2, _⟩ := I1.list hl
      have la : a < s1.heap.objs.size := by
        obtain ⟨o, ho, _⟩ := id p1
        exact Heap.lt_size ho
      refine zip_begins2 (begins_tuple a its.toArray) (begins_list b jts.toArray) p1 p2.isList fun h1 z1 t1 o1 g1 g2 sz kp => wpAny_pyIter_zip z1 ?_
      have I2 : Inv X pins σ H1 { s1 with heap := h1 } := I1.kept (t' := s1.toks) kp
      refine ⟨_, [s1.heap.objs.size + 4, s1.heap.objs.size + 2, s1.heap.objs.size + 3, s1.heap.objs.size, s1.heap.objs.size + 1], _, _, H1, rfl, I2, turn_TL (PySem.W.ktu_apart s1.heap.objs.size a b la p2.lt), ⟨z1, t1, ⟨_, _, o1⟩, ⟨_, g1, rfl, rfl⟩, ⟨_, g2, rfl, rfl⟩⟩, fun c hc => ?_, q⟩
      have le : s1.heap.objs.size ≤ c := by
        rcases mem5 hc with e | e | e | e | e <;> rw [e] <;> first | exact Nat.le_add_right _ _ | exact Nat.le_refl _
      exact I1.fpOk le (I1.hok.fresh le)
/-- a loop over zip(t, l), of one length -/
theorem for_zipTL {K : PySem.W.Frag} {a b : Addr} {xs ys : List V} {g : TG} {tb : TS} {D : Ends} {σ : L2.St} {H : Hp} (hl : xs.length = ys.length) (Pv : Nat → L2.St → Hp → Prop) (h0 : Pv 0 σ H) (hq : ∀ i σ H, Pv i σ H → SqT K H a xs ∧ SqL K H b ys)
    (hs : ∀ (i : Nat) (x y : V) (T : Addr) (σ : L2.St) (G : Hp), xs[i]? = some x → ys[i]? = some y → Pv i σ G → G T = none → g (.ref T) σ (upd G T (.tup [x, y])) fun σ2 G2 => tb { D with nx := Pv (i + 1), ct := Pv (i + 1), bk := D.nx } σ2 G2) (hd : ∀ σ G, Pv xs.length σ G → D.nx σ G) :
    ∃ W : Nat → Nat → L2.St → Hp → Prop, (∃ m, W 0 m σ H) ∧ ∀ i m σ H, W i m σ H → ((ItTL K a b).stop i H ∧ D.nx σ H) ∨ ((ItTL K a b).go i H ∧ ∃ N : L2.St → Hp → Prop, (∀ σ' H', N σ' H' → ∃ m', m' < m ∧ W (i + 1) m' σ' H') ∧
      ∀ v H', (ItTL K a b).yld i H v H' → g v σ H' fun σ2 H2 => tb { D with nx := N, ct := N, bk := D.nx } σ2 H2) := by
  refine ⟨fun i m σ G => m + i = xs.length ∧ Pv i σ G, ⟨xs.length, rfl, h0⟩, fun i m σ G hw => ?_⟩
  obtain ⟨hm, p⟩ := hw
  obtain ⟨qx, qy⟩ := hq i σ G p
  cases m with
  | zero =>
    have e : i = xs.length := by omega
    subst e
    exact .inl ⟨⟨xs, ys, qx, qy, rfl, hl.symm⟩, hd σ G p⟩
  | succ m =>
    have l1 : i < xs.length := by omega
    have l2 : i < ys.length := by omega
    refine .inr ⟨⟨xs, ys, _, _, qx, qy, List.getElem?_eq_getElem l1, List.getElem?_eq_getElem l2⟩, Pv (i + 1), fun σ' G' p' => ⟨m, Nat.lt_succ_self _, by omega, p'⟩, fun v G' y => ?_⟩
    obtain ⟨T, x, y, rfl, nT, rfl, f1, f2⟩ := y
    exact hs i x y T σ G (f1 xs qx) (f2 ys qy) p nT
end KS
namespace KS
open PySem PySem.Spec PyProof.Rows L2 RZ
/-! ### dicts whose keys are tuples: {k: v for ..} -/
/-- the pair (y, z) goes into the dict at D -/
def PutT (D : Addr) (y z : V) (G : Hp) (N : Hp → Prop) : Prop := ∃ (kvs : List (List L2.Key × V)) (k : List L2.Key) (b : Addr), y = .ref b ∧ G b = some (.tup (k.map kV)) ∧ G D = some (.dT kvs) ∧ kvs.length < sizeLine ∧ N (upd G D (.dT (putK kvs k z)))
/-- one turn of such a comprehension -/
def TurnDT (J : It) (g : TG) (tt : TT) (tk tv : TE) (vs : List Nat) (σ : L2.St) (D : Addr) (i : Nat) (G : Hp) (N : Hp → Prop) : Prop :=
  ∀ x G1, J.yld i G x G1 → g x (wipe σ vs) G1 fun τ G2 => wipe τ vs = wipe σ vs ∧ tt τ G2 fun b G3 => if b = true then tk τ G3 (fun y G4 => tv τ G4 fun z G5 => PutT D y z G5 N) else N G3
def tDcT (wi : TI) (g : TG) (tt : TT) (tk tv : TE) (vs : List Nat) : TE := fun σ H Q => wi σ H fun J H1 => ∀ D, H1 D = none →
  ∃ W : Nat → Nat → Hp → Prop, (∃ m, W 0 m (upd H1 D (.dT []))) ∧
    ∀ i m G, W i m G → (J.stop i G ∧ Q (.ref D) G) ∨ (J.go i G ∧ ∃ N : Hp → Prop, (∀ G', N G' → ∃ m', m' < m ∧ W (i + 1) m' G') ∧ TurnDT J g tt tk tv vs σ D i G N)
section
variable {X : Cx}
theorem putT_set {pins : List (Addr × Obj)} {σ : L2.St} {H : Hp} {s : Shared} {E : Value → Shared → Prop} {D : Addr} {y z : V} {u r : Value} {N : Hp → Prop} {Q : Unit → Shared → Prop} (hu : X.A.units < cLine)
    (I : Inv X pins σ H s) (p : PutT D y z H N) (ry : RelV y u) (rz : RelV z r) (h : ∀ H' s', Inv X pins σ H' s' → N H' → Q () s') :
    wpAny (model X.prog X.w) X.A (dictSet D u r) Q E s := by
  obtain ⟨kvs, k, b, rfl, eb, eD, len, nx⟩ := p
  cases (show u = Value.ref b from ry)
  obtain ⟨z0, hd, xs, rel, dd⟩ := dt_of I.hok eD
  have few : xs.length ≤ sizeLine := (Paired.length rel) ▸ z0
  have few' : (putK kvs k z).length ≤ sizeLine := Nat.le_trans (length_putK kvs k z) len
  refine wpAny_dictSet_heap (knd := tupleKind (mixKind X.prog X.w)) (hsz := few) hu (key_of I.hok eb) dd (fun h' dd' hs => h _ _ ?_ nx)
  obtain ⟨q, es, ep, hq, c2, c3, c4, _, c5⟩ := dd'
  have kept : L2.KT (upd H D (.dT (putK kvs k z))) (putK kvs k z) (storedH xs k b r) :=
    (rel.put k eb rz).keeps (fun c ys ec => (upd_ne (ne_of ec eD (fun e => nomatch e))).trans ec)
  exact d_write I (eD.symm ▸ True.intro) hs ⟨q, hq⟩ ⟨few', hd, _, kept, q, es, ep, hq, c2, c3, c4, c5⟩
/-- what the block's walker leaves alone -/
theorem foot {Y : Cx} {fp : List Addr} {τ : L2.St} {G : Hp} {t : Shared} (I : Inv Y [] τ G t) (hx : ∀ b ∈ fp, b ∈ Y.ex) (hp : Y.pn = []) (hn : ∀ b ∈ fp, G b = none) : ∀ b ∈ fp, FpOk Y [] G b := by
  intro b hb
  have inx := hx b hb
  have e1 := I.ok.exf b inx
  refine ⟨hn b hb, e1.1, I.ok.exfs b inx, Or.inl inx, fun x c e => e1.2 x c e, ?_⟩
  rw [hp]
  intro p hpm
  cases hpm
theorem dcT_core {pins : List (Addr × Obj)} {s : Shared} {σ : L2.St} {H : Hp} {Q : VK} {kx vx tg iter : Expr} {ifs : List Expr} {scope : Scope} {own : List (Str × Nat)} {pos pos' : Pos} {wi : TI} {g : TG} {tt : TT} {tk tv : TE} {use : Option (Value → Sem Unit)} {Qf : Value → Shared → Prop}
    (hu : X.A.units < cLine) (hc : X.calm = true) (hN : X.N.Nodup) (I : Inv X pins σ H s) (hi : PI X tg iter wi) (ok : BlkOk X.N X.env.scope scope own)
    (hg : ∀ (s : Shared) (H : Hp) (C : Addr) (cl : List (Str × Addr)) (fp : List Addr), PG (X.blk s H scope (compEnvC scope cl C X.env) fp) tg g)
    (ht : ∀ (s : Shared) (H : Hp) (C : Addr) (cl : List (Str × Addr)) (fp : List Addr), PTs (X.blk s H scope (compEnvC scope cl C X.env) fp) ifs tt)
    (hk : ∀ (s : Shared) (H : Hp) (C : Addr) (cl : List (Str × Addr)) (fp : List Addr), PE (X.blk s H scope (compEnvC scope cl C X.env) fp) kx tk)
    (hv : ∀ (s : Shared) (H : Hp) (C : Addr) (cl : List (Str × Addr)) (fp : List Addr), PE (X.blk s H scope (compEnvC scope cl C X.env) fp) vx tv)
    (hs : ∀ x, foldedSetIterable iter X.env x = pure x) (h : tDcT wi g tt tk tv (own.map (·.2)) σ H Q)
    (fin : ∀ D C s' m H', Inv X pins σ H' s' → Q (.ref D) H' → s'.heap.Ns C m → FpOk X pins H' C → compPost (model X.prog X.w) X.A X.xe use Qf (.ref D) C (.ok .next) s') :
    wpAny (model X.prog X.w) X.A (comprehension (.DictComp kx vx [⟨tg, iter, ifs, 0⟩] scope pos) scope X.env pos' newDict false (eval iter X.env) use) Qf X.xe s := by
  have caps : ∀ y ∈ scope.names, y.2 = .free → ∃ c, X.env.cells.lookup y.1 = some c := fun y hy e => (ok.free y hy e).elim (fun k => I.ok.has _ (Or.inl k)) (fun k => I.ok.has _ (Or.inr k))
  have loc : ∀ y ∈ scope.names, y.2 = .local → scope.names.lookup y.1 = some .local := fun y hy e => e ▸ ok.uniq y hy
  refine wpAny_comprehension_free (use := use) rfl hs (closure_ok caps) ok.kind loc (thn (hi.run pins s σ H _ I h) fun xv s1 hx => ?_)
  refine thn hx fun itv s2 came => ?_
  obtain ⟨it, fp, tn, J, H2, rfl, I2, T, st2, f2, q⟩ := came
  refine wpAny_newObj_type (newEnv_comp ?_)
  have DN : H2 s2.heap.objs.size = none := I2.hok.fresh (Nat.le_refl _)
  obtain ⟨W, ⟨m0, w0⟩, turn⟩ := q _ DN
  have I3 : Inv X pins σ (upd H2 s2.heap.objs.size (.dT [])) { s2 with heap := s2.heap.push { cls := .type "dict", data := .dict #[] } } :=
    I2.laid (t' := s2.toks) (fun b o e => Heap.get?_push_of_some _ e) (Nat.le_refl _) (dt_empty s2.heap I2.big)
  have small : ∀ b ∈ fp, b < s2.heap.objs.size := fun b hb => (T.obj _ _ st2 b hb).elim fun o e => Heap.lt_size e.1
  have f3 : ∀ b ∈ fp, FpOk X pins (upd H2 s2.heap.objs.size (.dT [])) b ∧ b < (s2.heap.push { cls := .type "dict", data := .dict #[] }).objs.size := fun b hb =>
    ⟨⟨(upd_ne (Nat.ne_of_lt (small b hb))).trans (f2 b hb).1, (f2 b hb).2⟩, (Heap.size_push ..).symm ▸ Nat.lt_succ_of_lt (small b hb)⟩
  have st3 : tn 0 (s2.heap.push { cls := .type "dict", data := .dict #[] }) := T.keep _ _ _ st2 fun b _ o e => Heap.get?_push_of_some _ e
  generalize eD : s2.heap.objs.size = D at *
  generalize eH : upd H2 D (.dT []) = H3 at *
  generalize eS : ({ s2 with heap := s2.heap.push { cls := .type "dict", data := .dict #[] } } : Shared) = s3 at *
  have I4 := block_start I3 ok hN (fun b hb => by rw [← eS]; exact f3 b hb)
  have sh : s3.heap = s2.heap.push { cls := .type "dict", data := .dict #[] } := by rw [← eS]
  rw [← sh] at st3
  have st4 : tn 0 (pushCells (s3.heap.push { cls := .type "dict", data := .dict #[] }) scope.names) := T.keep _ _ _ st3 fun b _ o e => pushCells_keeps _ _ _ _ (Heap.get?_push_of_some _ e)
  have n3 : ∀ b ∈ fp, H3 b = none := fun b hb => (f3 b hb).1.1
  have pg := hg s3 H3 s3.heap.objs.size (cellsFrom (s3.heap.objs.size + 1) scope.names (cloFrom X.env.cells scope.names [])) fp
  have pt := ht s3 H3 s3.heap.objs.size (cellsFrom (s3.heap.objs.size + 1) scope.names (cloFrom X.env.cells scope.names [])) fp
  have pk := hk s3 H3 s3.heap.objs.size (cellsFrom (s3.heap.objs.size + 1) scope.names (cloFrom X.env.cells scope.names [])) fp
  have pv' := hv s3 H3 s3.heap.objs.size (cellsFrom (s3.heap.objs.size + 1) scope.names (cloFrom X.env.cells scope.names [])) fp
  have cL : (compEnvC scope (cellsFrom (s3.heap.objs.size + 1) scope.names (cloFrom X.env.cells scope.names [])) s3.heap.objs.size X.env).locals = s3.heap.objs.size := rfl
  change codeAny (model X.prog X.w) X.A (.compStart (.DictComp kx vx [⟨tg, iter, ifs, 0⟩] scope pos) 0 (.ref it) (.ref D) (compEnvC scope (cellsFrom (s3.heap.objs.size + 1) scope.names (cloFrom X.env.cells scope.names [])) s3.heap.objs.size X.env))
    (compPost (model X.prog X.w) X.A X.xe use Qf (.ref D) s3.heap.objs.size) { s3 with heap := pushCells (s3.heap.push { cls := .type "dict", data := .dict #[] }) scope.names }
  generalize compEnvC scope (cellsFrom (s3.heap.objs.size + 1) scope.names (cloFrom X.env.cells scope.names [])) s3.heap.objs.size X.env = ce at I4 pg pt pk pv' cL ⊢
  generalize e4 : ({ s3 with heap := pushCells (s3.heap.push { cls := .type "dict", data := .dict #[] }) scope.names } : Shared) = s4 at I4 ⊢
  replace st4 : tn 0 s4.heap := by
    rw [← e4]
    exact st4
  suffices loop : codeAny (model X.prog X.w) X.A (.compLoop (.DictComp kx vx [⟨tg, iter, ifs, 0⟩] scope pos) 0 (.ref it) (.ref D) ce) (compPost (model X.prog X.w) X.A X.xe use Qf (.ref D) s3.heap.objs.size) s4 from
    codeAny_compStart_dict loop (T.self X.A 0 _ _ _ st4 loop)
  refine compLoop_anyD (fun n t => ∃ i G, Inv (X.blk s3 H3 scope ce fp) [] (wipe σ (own.map (·.2))) G t ∧ tn i t.heap ∧ (∀ b ∈ fp, G b = none) ∧ W i n G) (fun n t inv => ?_) m0 ⟨0, H3, I4, st4, n3, w0⟩
  obtain ⟨i, G, IG, stG, nG, wG⟩ := inv
  rcases turn i n G wG with ⟨halt, qG⟩ | ⟨more, N, hN', body⟩
  · -- no more items
    refine thnF (T.done (X.blk s3 H3 scope ce fp) rfl rfl rfl hc i [] t _ G (fun _ _ => False) IG (foot IG (fun _ hb => hb) rfl nG) stG halt) fun r t1 both => ?_
    obtain ⟨rfl, I1⟩ := both
    have back : Inv X pins σ G t1 := I3.call' (ch := fp) I1.os I1.base I1.hok I1.bare fun b hb =>
      let ⟨_, u1, _, u2, u3, u4⟩ := (f3 b hb).1
      ⟨u2, u1, u3, u4⟩
    have freeC : G s3.heap.objs.size = none := cL ▸ (show G ce.locals = none from I1.free)
    obtain ⟨m, hn, _⟩ := I1.loc
    exact fin D s3.heap.objs.size t1 m G back qG (cL ▸ (show t1.heap.Ns ce.locals m from hn)) (I3.fpOk (Nat.le_refl _) freeC)
  · refine thnF (T.item (X.blk s3 H3 scope ce fp) rfl rfl rfl hc i [] t _ G (fun _ _ => False) IG (foot IG (fun _ hb => hb) rfl nG) stG more) fun r t1 got => ?_
    obtain ⟨u, rfl, got⟩ := got
    refine thnF got fun _ t2 ⟨x, G2, IG2, rx, yx, stx, nx⟩ => ?_
    have held := IG2.pinned (foot IG2 (fun _ hb => hb) rfl nx) (T.obj _ _ stx)
    refine thnF (pg.run _ t2 _ G2 x u _ held rx (body x G2 yx)) fun _ t3 ⟨τ, G3, IG3, weq, rest⟩ => ?_
    refine thnF (pt.run _ t3 τ G3 _ IG3 rest) fun b t4 ⟨G4, IG4, rest⟩ => ?_
    have close : ∀ {t' : Shared} {G' : Hp}, Inv (X.blk s3 H3 scope ce fp) ([] ++ pinsAt fp t2.heap) τ G' t' → N G' → ∃ m, m < n ∧ ∃ i G, Inv (X.blk s3 H3 scope ce fp) [] (wipe σ (own.map (·.2))) G t' ∧ tn i t'.heap ∧ (∀ b ∈ fp, G b = none) ∧ W i m G := by
      intro t' G' IG' nn
      obtain ⟨m', lt, w'⟩ := hN' G' nn
      have still : ∀ b ∈ fp, ∀ o, t2.heap.get? b = some o → t'.heap.get? b = some o ∧ G' b = none := by
        intro b hb o e
        have z := IG'.pin (b, o) (List.mem_append_right _ (List.mem_append_right _ (mem_pinsAt hb e)))
        exact ⟨z.1, z.2.1⟩
      have lens : (wipe σ (own.map (·.2))).length = τ.length := (congrArg List.length weq).symm.trans (wipe_length _ _)
      refine ⟨m', lt, i + 1, G', (IG'.unpinned (pins := [])).weak lens (fun j v e => (wipe_some (weq ▸ e)).1), T.keep _ _ _ stx fun b hb o e => (still b hb o e).1, ?_, w'⟩
      intro b hb
      obtain ⟨o, e, _⟩ := T.obj _ _ stx b hb
      exact (still b hb o e).2
    cases b with
    | false => exact close IG4 rest
    | true =>
      refine thnF (pk.run _ t4 τ G4 _ IG4 rest) fun uk t5 ⟨yk, G5, IG5, rk, rest⟩ => ?_
      refine thnF (pv'.run _ t5 τ G5 _ IG5 rest) fun uv t6 ⟨yv, G6, IG6, rv, put⟩ => ?_
      exact putT_set (X := X.blk s3 H3 scope ce fp) hu IG6 put rk rv fun G' t' I' nn => close I' nn
theorem ps_setDcT {i : Nat} {y : Str} {py : Pos} {kx vx tg iter : Expr} {ifs : List Expr} {scope : Scope} {own : List (Str × Nat)} {pos spos : Pos} {wi : TI} {g : TG} {tt : TT} {tk tv : TE} (hu : X.A.units < cLine) (hc : X.calm = true) (hN : X.N.Nodup) (hy : X.N[i]? = some y) (hyl : X.env.scope.names.lookup y = some .local)
    (hsw : swapsWith (.DictComp kx vx [⟨tg, iter, ifs, 0⟩] scope pos) (some (.Name y py)) spos.line X.env = pure true) (hi : PI X tg iter wi) (ok : BlkOk X.N X.env.scope scope own)
    (hg : ∀ (s : Shared) (H : Hp) (C : Addr) (cl : List (Str × Addr)) (fp : List Addr), PG (X.blk s H scope (compEnvC scope cl C X.env) fp) tg g)
    (ht : ∀ (s : Shared) (H : Hp) (C : Addr) (cl : List (Str × Addr)) (fp : List Addr), PTs (X.blk s H scope (compEnvC scope cl C X.env) fp) ifs tt)
    (hk : ∀ (s : Shared) (H : Hp) (C : Addr) (cl : List (Str × Addr)) (fp : List Addr), PE (X.blk s H scope (compEnvC scope cl C X.env) fp) kx tk)
    (hv : ∀ (s : Shared) (H : Hp) (C : Addr) (cl : List (Str × Addr)) (fp : List Addr), PE (X.blk s H scope (compEnvC scope cl C X.env) fp) vx tv)
    (hs : ∀ x, foldedSetIterable iter X.env x = pure x := by intro _; rfl) :
    PS X (.Assign [.Name y py] (.DictComp kx vx [⟨tg, iter, ifs, 0⟩] scope pos) spos) (tAsg (tDcT wi g tt tk tv (own.map (·.2))) (gName i)) := by
  refine ⟨fun pins s σ H D I h => ?_⟩
  rw [exec_Assign_Name_used _ _ _ _ hsw]
  refine wpAny_bind (wpAny_standAt (wpAny_bind ?_))
  show wpAny _ X.A (do let _ ← comprehension (.DictComp kx vx [⟨tg, iter, ifs, 0⟩] scope pos) scope X.env (firstIterPos [⟨tg, iter, ifs, 0⟩] pos) newDict false (eval iter X.env) (some (assign (.Name y py) X.env))) _ _ s
  have h : tDcT wi g tt tk tv (own.map (·.2)) σ H (fun x H1 => gName i x σ H1 D.nx) := h
  refine wpAny_bind (thn (dcT_core (Qf := fun _ s' => SP X pins D .next s') hu hc hN I hi ok hg ht hk hv hs h fun L C s' m H' I' q hn f => ?_) fun _ s' hq => wpAny_pure (wpAny_pure hq))
  show wpAny _ _ (assign (.Name y py) X.env (.ref L)) _ _ _
  refine wpAny_assign_Name (store_ok2 (v := V.ref L) I' hN hy (.inl hyl) rfl (fun s2 I2 ⟨a, sb, ha⟩ => ?_) (.inr hyl))
  obtain ⟨f0, f1, f2, f3, f4, f5⟩ := f
  have off : C ≠ a := ha.elim (fun z => z ▸ f1) (fun z e => f4 y a z e.symm)
  refine ⟨m, hn.sameBut sb off, fun h3 sb3 => ?_⟩
  exact ⟨_, H', I2.turned (t' := s2.toks) (fun b o hb e => (sb3.2 b hb).trans e) f0 f1 f3 f4 f5, q⟩
end
theorem sw_dict {kx vx : Expr} {gs : List Comprehension} {scope : Scope} {pos py : Pos} {y : Str} {l : Nat} {env : Env} (hk : env.scope.kind = .function) (hy : env.scope.names.lookup y = some .local) (hl : (py.line == pos.line) = true)
    (ha : (scope.names.any fun (n, k) => n == y && (k == .local || k == .cell)) = false) : swapsWith (.DictComp kx vx gs scope pos) (some (.Name y py)) l env = pure true := by
  have ky : env.kindOf y = some .local := hy
  have hb : env.blockKind = .function := by unfold Env.blockKind; rw [hk]; rfl
  unfold swapsWith
  simp only [hb, ky, ha, Expr.pos, hl]
  rfl
/-- a walk over two tuples side by side -/
theorem walk_zipT {K : PySem.W.Frag} {a b : Addr} {xs ys : List V} {n : Nat} (hx : xs.length = n) (hy : ys.length = n) : Walk (ItzT K a b) n (fun H => SqT K H a xs ∧ SqT K H b ys) (YPair (fun i => xs[i]?) (fun i => ys[i]?)) where
  goes := fun i H hi ⟨h1, h2⟩ => ⟨xs, ys, _, _, h1, h2, List.getElem?_eq_getElem (by omega), List.getElem?_eq_getElem (by omega)⟩
  stops := fun H ⟨h1, h2⟩ => ⟨xs, ys, h1, h2, Or.inl (by omega)⟩
  yields := fun i H x H' hi ⟨h1, h2⟩ ⟨T, x', y', e1, e2, e3, f1, f2⟩ => ⟨T, x', y', e1, e2, e3, f1 xs h1, f2 ys h2⟩
/-- such a comprehension over any walk -/
theorem dcT_it {J : It} {n : Nat} {Gd : Hp → Prop} {Y : Nat → Hp → V → Hp → Prop} (w : Walk J n Gd Y) {g : TG} {tt : TT} {tk tv : TE} {vs : List Nat} {σ : L2.St} {H1 : Hp} {D : Addr} {Qd : Hp → Prop} (Pv : Nat → Hp → Prop) (h0 : Pv 0 (upd H1 D (.dT []))) (hl : ∀ i H, i ≤ n → Pv i H → Gd H)
    (hs : ∀ i x G G1, i < n → Pv i G → Y i G x G1 → g x (wipe σ vs) G1 fun τ G2 => wipe τ vs = wipe σ vs ∧ tt τ G2 fun b G3 => if b = true then tk τ G3 (fun y G4 => tv τ G4 fun z G5 => PutT D y z G5 (Pv (i + 1))) else Pv (i + 1) G3)
    (hd : ∀ H, Pv n H → Qd H) :
    ∃ W : Nat → Nat → Hp → Prop, (∃ m, W 0 m (upd H1 D (.dT []))) ∧
      ∀ i m G, W i m G → (J.stop i G ∧ Qd G) ∨ (J.go i G ∧ ∃ N : Hp → Prop, (∀ G', N G' → ∃ m', m' < m ∧ W (i + 1) m' G') ∧ TurnDT J g tt tk tv vs σ D i G N) := by
  refine ⟨fun i m G => m + i = n ∧ Pv i G, ⟨n, rfl, h0⟩, ?_⟩
  rintro i m G ⟨e, p⟩
  have hi : i ≤ n := by omega
  have good := hl i G hi p
  rcases Nat.lt_or_ge i n with lt | ge
  · refine Or.inr ⟨w.goes i G lt good, Pv (i + 1), fun G' p' => ⟨m - 1, by omega, by omega, p'⟩, ?_⟩
    intro x G1 y
    exact hs i x G G1 lt p (w.yields i G x G1 lt good y)
  · have e2 : i = n := by omega
    subst e2
    exact Or.inl ⟨w.stops G good, hd G p⟩
end KS
namespace KS
open PySem PySem.Spec PyProof.Rows L2 RZ
/-! ### dict(zip(t1, t2)): both tuples, the keys tuples -/
section
variable {prog : Program} {w : World} {A : Around} {E : Value → Shared → Prop} {s : Shared} {z TI TO T i1 i2 l1 l2 : Addr} {f : Bool} {oT : Obj}
/-- zip's next, its last tuple still out: whatever the two walkers do -/
theorem zn_two {Q : Value → Shared → Prop} (hz : IsZipHeld s.heap z TI TO T f) (hT : s.heap.get? T = some oT) (hTI : IsPair s.heap TI (.ref i1) (.ref i2))
    (h : ∀ h₁, IsZipHeld h₁ z TI TO T true → Heap.SameBut z s.heap h₁ → wpAny (model prog w) A (Builtin.SmallTypes.nextOf (.ref i1)) (fun x s2 => wpAny (model prog w) A (Builtin.SmallTypes.nextOf (.ref i2)) (fun y s3 => Q (.ref s3.heap.objs.size) { s3 with heap := s3.heap.push { cls := .type "tuple", data := .seq #[x, y] } }) E s2) E { s with heap := h₁ }) :
    wpAny (model prog w) A (Builtin.«zip.__next__» ⟨[.ref z], []⟩) (fun fin s' => ∃ v, fin = .done (.ret v) ∧ Q v s') E s := by
  show wpAny _ _ (field (.ref z) 2 >>= _) _ _ _
  refine wpAny_bind (wpAny_field hz rfl (x := .bool false) rfl (show wpAny _ _ (field (.ref z) 3 >>= _) _ _ _ from ?_))
  refine wpAny_bind (wpAny_field hz rfl (x := .ref TI) rfl (wpAny_bind (wpAny_seqItems hTI rfl (show wpAny _ _ (Builtin.SmallTypes.ownedTupleIsFree (.ref z) >>= _) _ _ _ from ?_))))
  refine wpAny_bind (wpAny_tupleHeld_zip hz hT fun h₁ hz₁ hs₁ => ?_)
  simp only [Bool.false_eq_true, if_false]
  refine wpAny_bind ?_
  rw [← Array.forIn_toList]
  simp only [List.forIn_cons, List.forIn_nil]
  refine wpAny_bind (wpAny_bind (wpAny_holding (show wpAny _ _ (Builtin.SmallTypes.nextOf (.ref i1) >>= _) _ _ _ from ?_)))
  refine wpAny_bind (thn (h h₁ hz₁ hs₁) fun x s2 h2 => wpAny_pure (wpAny_pure ?_))
  refine wpAny_bind (wpAny_bind (wpAny_holding (show wpAny _ _ (Builtin.SmallTypes.nextOf (.ref i2) >>= _) _ _ _ from ?_)))
  refine wpAny_bind (thn h2 fun y s3 h3 => wpAny_pure (wpAny_pure (wpAny_pure ?_)))
  show wpAny _ _ (newTuple [x, y] >>= _) _ _ _
  exact wpAny_bind (wpAny_newTuple (wpAny_pure ⟨_, rfl, h3⟩))
theorem zn_py {Q : Option Value → Shared → Prop} (hz : ∃ o, s.heap.get? z = some o ∧ o.cls = .type "zip") 
    (h : wpAny (model prog w) A.in1 (Builtin.«zip.__next__» ⟨[.ref z], []⟩) (fun fin s' => ∃ v, fin = .done (.ret v) ∧ Q (some v) s') (fun e s' => ∃ b o, e = .ref b ∧ s'.heap.get? b = some o ∧ o.cls = .type "StopIteration" ∧ Q none s') s) :
    wpAny (model prog w) A (pyNext (.ref z)) Q E s := by
  have hTy : s.TypeIs (.ref z) "zip" := hz
  unfold pyNext
  refine wpAny_bind (wpAny_attempt (wpAny_callSpecial?_slot (name := Str.ofString "__next__") hTy F.slot_zip_next (wpAny_call_entry F.slot_zip_next hTy F.entry_zip_next (wpAny_mono h (fun fin s' ⟨v, e, q⟩ => ⟨v, e, wpAny_pure q⟩) fun e s' hq => ?_) (F.args_zip_next_1 _))))
  obtain ⟨b, o, rfl, ho, hc, q⟩ := hq
  exact wpAny_bind (wpAny_isInstance (T := "StopIteration") (b := true) ⟨o, ho, hc⟩ isSubtype_stop (wpAny_pure q))
end
/-- a zip of two tuples, i turns in: fresh, or its last tuple still out -/
structure ZTs (z TI TO i1 i2 l1 l2 d : Addr) (xs ys : Array Value) (i : Nat) (h : Heap) : Prop where
  hTI : IsPair h TI (.ref i1) (.ref i2)
  w1 : h.IsTupleIter i1 l1 i
  w2 : h.IsTupleIter i2 l2 i
  t1 : h.IsTuple l1 xs
  t2 : h.IsTuple l2 ys
  zz : (IsZip h z TI TO .none ∧ ∃ a b, IsPair h TO a b) ∨ ∃ T f oT, IsZipHeld h z TI TO T f ∧ h.get? T = some oT ∧ T ≠ z ∧ T ≠ i1 ∧ T ≠ i2 ∧ T ≠ d
section
variable {prog : Program} {w : World}
theorem src_zipT {A : Around} {z TI TO i1 i2 l1 l2 d : Addr} (hA : A.handled = none) (D : ZipApart z TI TO i1 i2 l1 l2) {xs ys : Array Value} {n : Nat} (hx : xs.size = n) (hy : ys.size = n) (off : d ∉ [z, TI, TO, i1, i2, l1, l2]) :
    PairSrc prog w A z d [z, TO, i1, i2] n (fun i k v => xs[i]? = some k ∧ ys[i]? = some v) (ZTs z TI TO i1 i2 l1 l2 d xs ys) := by
  simp only [List.mem_cons, List.not_mem_nil, or_false, not_or] at off
  obtain ⟨dz, dTI, dTO, di1, di2, dl1, dl2⟩ := off
  constructor
  · simp only [List.mem_cons, List.not_mem_nil, or_false, not_or]
    exact ⟨dz, dTO, di1, di2⟩
  · intro i h h' st k
    refine ⟨k _ _ (Ne.symm dTI) st.hTI, st.w1.at fun o e => k _ o (Ne.symm di1) e, st.w2.at fun o e => k _ o (Ne.symm di2) e, st.t1.at fun o e => k _ o (Ne.symm dl1) e, st.t2.at fun o e => k _ o (Ne.symm dl2) e, ?_⟩
    refine st.zz.imp (fun ⟨q, a, b, r⟩ => ⟨k _ _ (Ne.symm dz) q, a, b, k _ _ (Ne.symm dTO) r⟩) ?_
    rintro ⟨T, f, oT, q, hT, r1, r2, r3, r4⟩
    exact ⟨T, f, oT, k _ _ (Ne.symm dz) q, k _ _ r4 hT, r1, r2, r3, r4⟩
  · intro i s Q E hi st ds hQ
    have ex := Array.getElem?_eq_getElem (xs := xs) (i := i) (by omega)
    have ey := Array.getElem?_eq_getElem (xs := ys) (i := i) (by omega)
    have lt : ∀ {c o}, s.heap.get? c = some o → s.heap.objs.size ≠ c := fun e => Nat.ne_of_gt (Heap.lt_size e)
    have n1 : s.heap.objs.size ≠ i1 := st.w1.elim fun _ e => lt e.1
    have n2 : s.heap.objs.size ≠ i2 := st.w2.elim fun _ e => lt e.1
    have memo : ∀ {c : Addr}, c ∉ [z, TO, i1, i2] → c ≠ z ∧ c ≠ TO ∧ c ≠ i1 ∧ c ≠ i2 := by
      intro c hc
      simpa only [List.mem_cons, List.not_mem_nil, or_false, not_or] using hc
    rcases st.zz with ⟨q, a, b, r⟩ | ⟨T, f, oT, q, hT, r1, r2, r3, r4⟩
    · refine pyNext_zipT_item D q st.hTI r st.w1 st.w2 st.t1 st.t2 ex ey fun h' a1 a2 a3 a4 a5 a6 k => ?_
      refine hQ s.heap.objs.size _ _ h' s.toks ⟨ex, ey⟩ (Or.inl ⟨_, a5, rfl, _, rfl⟩) ?_ fun c o hc e => let ⟨c1, c2, c3, c4⟩ := memo hc; k c o c1 c2 c3 c4 e
      exact ⟨k _ _ D.TIz D.TITO D.TIi1 D.TIi2 st.hTI, a3, a4, st.t1.at fun o e => k _ o D.l1z D.l1TO D.l1i1 D.l1i2 e, st.t2.at fun o e => k _ o D.l2z D.l2TO D.l2i1 D.l2i2 e, Or.inr ⟨_, false, _, a1, a5, lt q, n1, n2, Nat.ne_of_gt ds⟩⟩
    · refine zn_py ⟨_, q, rfl⟩ (zn_two (Q := fun v s' => Q (some v) s') q hT st.hTI fun h₁ z₁ b₁ => ?_)
      refine nextOf_tuple_item (s := { s with heap := h₁ }) (st.w1.extBut b₁.extBut D.i1z) (st.t1.extBut b₁.extBut D.l1z) ex fun h₂ w₁ b₂ => ?_
      refine nextOf_tuple_item (s := { s with heap := h₂ }) ((st.w2.extBut b₁.extBut D.i2z).extBut b₂.extBut D.i12.symm) ((st.t2.extBut b₁.extBut D.l2z).extBut b₂.extBut D.l2i1) ey fun h₃ w₂ b₃ => ?_
      have k : ∀ c o, c ≠ z → c ≠ i1 → c ≠ i2 → s.heap.get? c = some o → (h₃.push { cls := .type "tuple", data := .seq #[xs[i], ys[i]] }).get? c = some o := fun c o c1 c2 c3 e => Heap.get?_push_of_some _ (b₃.extBut _ _ c3 (b₂.extBut _ _ c2 (b₁.extBut _ _ c1 e)))
      have sz : h₃.objs.size = s.heap.objs.size := (b₃.1.trans b₂.1).trans b₁.1
      show Q (some (.ref h₃.objs.size)) { s with heap := h₃.push { cls := .type "tuple", data := .seq #[xs[i], ys[i]] } }
      refine hQ h₃.objs.size _ _ _ s.toks ⟨ex, ey⟩ (Or.inl ⟨_, Heap.get?_push_size _ rfl, rfl, _, rfl⟩) ?_ fun c o hc e => let ⟨c1, _, c3, c4⟩ := memo hc; k c o c1 c3 c4 e
      refine ⟨k _ _ D.TIz D.TIi1 D.TIi2 st.hTI, (w₁.extBut b₃.extBut D.i12).at fun o e => Heap.get?_push_of_some _ e, w₂.at fun o e => Heap.get?_push_of_some _ e, st.t1.at fun o e => k _ o D.l1z D.l1i1 D.l1i2 e, st.t2.at fun o e => k _ o D.l2z D.l2i1 D.l2i2 e, Or.inr ⟨T, true, oT, ?_, k _ _ r1 r2 r3 hT, r1, r2, r3, r4⟩⟩
      exact Heap.get?_push_of_some _ (b₃.extBut _ _ D.i2z.symm (b₂.extBut _ _ D.i1z.symm z₁))
  · intro s Q E st hQ
    have ex : xs[n]? = none := Array.getElem?_eq_none (by omega)
    have memo : ∀ {c : Addr}, c ∉ [z, TO, i1, i2] → c ≠ z ∧ c ≠ TO ∧ c ≠ i1 ∧ c ≠ i2 := by
      intro c hc
      simpa only [List.mem_cons, List.not_mem_nil, or_false, not_or] using hc
    rcases st.zz with ⟨q, a, b, r⟩ | ⟨T, f, oT, q, hT, r1, r2, r3, r4⟩
    · exact pyNext_zipT_end hA D q st.hTI r st.w1 st.w2 st.t1 st.t2 (Or.inl ex) fun h' k => hQ h' s.toks fun c o hc e => let ⟨c1, c2, c3, c4⟩ := memo hc; k c o c1 c2 c3 c4 e
    · refine zn_py ⟨_, q, rfl⟩ (zn_two (Q := fun v s' => Q (some v) s') q hT st.hTI fun h₁ z₁ b₁ => ?_)
      refine nextOf_tuple_end (s := { s with heap := h₁ }) (show A.in1.handled = none from hA) (st.w1.extBut b₁.extBut D.i1z) (st.t1.extBut b₁.extBut D.l1z) ex fun h₂ e b₂ ⟨o, ho, hc⟩ => ?_
      exact ⟨e, o, rfl, ho, hc, hQ h₂ s.toks fun c o hc e => let ⟨c1, _, c3, c4⟩ := memo hc; b₂ c o c3 (b₁.extBut c o c1 e)⟩
theorem arg_zipT {z TI TO i1 i2 l1 l2 : Addr} (D : ZipApart z TI TO i1 i2 l1 l2) {xs ys : Array Value} {n : Nat} (hx : xs.size = n) (hy : ys.size = n) :
    PairArg prog w "zip" z [z, TI, TO, i1, i2, l1, l2] [z, TO, i1, i2] n (fun i k v => xs[i]? = some k ∧ ys[i]? = some v)
      (fun h => (IsZip h z TI TO .none ∧ ∃ a b, IsPair h TO a b) ∧ IsPair h TI (.ref i1) (.ref i2) ∧ (h.IsTupleIter i1 l1 0 ∧ h.IsTupleIter i2 l2 0) ∧ h.IsTuple l1 xs ∧ h.IsTuple l2 ys) := by
  constructor
  · exact fun s ok => ⟨_, ok.1.1, rfl⟩
  · decide
  · rintro h h' ⟨⟨q, a, b, r⟩, p, ⟨w1, w2⟩, t1, t2⟩ k
    exact ⟨⟨k _ _ q, a, b, k _ _ r⟩, k _ _ p, ⟨w1.at fun o e => k _ o e, w2.at fun o e => k _ o e⟩, t1.at fun o e => k _ o e, t2.at fun o e => k _ o e⟩
  · rintro h ⟨⟨q, a, b', r⟩, p, ⟨⟨o1, w1, _⟩, ⟨o2, w2, _⟩⟩, ⟨o3, t1, _⟩, ⟨o4, t2, _⟩⟩ b hb
    simp only [List.mem_cons, List.not_mem_nil, or_false] at hb
    rcases hb with e | e | e | e | e | e | e <;> subst e
    · exact ⟨_, q⟩
    · exact ⟨_, p⟩
    · exact ⟨_, r⟩
    · exact ⟨_, w1⟩
    · exact ⟨_, w2⟩
    · exact ⟨_, t1⟩
    · exact ⟨_, t2⟩
  · intro b hb
    simp only [List.mem_cons, List.not_mem_nil, or_false] at hb ⊢
    rcases hb with e | e | e | e <;> simp [e]
  · exact fun A s Q E hA ok h => getAttrOr_miss_zip ok.1.1 rfl rfl rfl zip_no_keys (by decide +kernel) hA h
  · rintro A s d Q E hA ⟨⟨q, a, b, r⟩, p, ⟨w1, w2⟩, t1, t2⟩ hd off h
    exact wpAny_pyIter_zip q (h z _ _ s.heap s.toks (src_zipT hA D hx hy off) ⟨p, w1, w2, t1, t2, Or.inl ⟨q, a, b, r⟩⟩ (fun _ _ e => e) fun b hb => Or.inl hb)
end
def mergeT (acc more : List (List L2.Key × V)) : List (List L2.Key × V) := more.foldl (fun a kv => putK a kv.1 kv.2) acc
theorem mergeT_len (more : List (List L2.Key × V)) : ∀ acc : List (List L2.Key × V), (mergeT acc more).length ≤ acc.length + more.length := by
  induction more with
  | nil => exact fun acc => Nat.le_refl _
  | cons p r ih =>
    intro acc
    have h1 := ih (putK acc p.1 p.2)
    have h2 := length_putK acc p.1 p.2
    show (mergeT (putK acc p.1 p.2) r).length ≤ acc.length + (r.length + 1)
    omega
/-- keys, their tuples, values as they stand -/
inductive Trip (H : Hp) : List Addr → List (List L2.Key) → List V → List Value → Prop
  | nil : Trip H [] [] [] []
  | cons {p : Addr} {k : List L2.Key} {y : V} {u : Value} {ps : List Addr} {ks : List (List L2.Key)} {ys : List V} {us : List Value} : H p = some (.tup (k.map kV)) → RelV y u → Trip H ps ks ys us → Trip H (p :: ps) (k :: ks) (y :: ys) (u :: us)
def tri : List Addr → List (List L2.Key) → List Value → List (List L2.Key × Addr × Value)
  | p :: ps, k :: ks, u :: us => (k, p, u) :: tri ps ks us
  | _, _, _ => []
theorem Trip.kt {H : Hp} {ps : List Addr} {ks : List (List L2.Key)} {ys : List V} {us : List Value} (t : Trip H ps ks ys us) : ∀ {acc : List (List L2.Key × V)} {xs : List (List L2.Key × Addr × Value)}, L2.KT H acc xs → L2.KT H (mergeT acc (ks.zip ys)) (storedAllH xs (tri ps ks us)) := by
  induction t with
  | nil => exact fun h => h
  | cons h1 h2 _ ih => exact fun h => ih (h.put _ h1 h2)
theorem Trip.at {H : Hp} {ps : List Addr} {ks : List (List L2.Key)} {ys : List V} {us : List Value} (t : Trip H ps ks ys us) : ∀ {i : Nat} {p : Addr} {u : Value}, ps[i]? = some p → us[i]? = some u → ∃ k, (tri ps ks us)[i]? = some (k, p, u) := by
  induction t with
  | nil => intro i p u h; cases h
  | cons h1 h2 _ ih =>
    intro i p u e1 e2
    cases i with
    | zero =>
      cases e1
      cases e2
      exact ⟨_, rfl⟩
    | succ i => exact ih e1 e2
theorem Trip.len {H : Hp} {ps : List Addr} {ks : List (List L2.Key)} {ys : List V} {us : List Value} (t : Trip H ps ks ys us) : (tri ps ks us).length = ps.length ∧ us.length = ps.length ∧ (ks.zip ys).length = ps.length := by
  induction t with
  | nil => exact ⟨rfl, rfl, rfl⟩
  | cons _ _ _ ih => exact ⟨congrArg (· + 1) ih.1, congrArg (· + 1) ih.2.1, congrArg (· + 1) ih.2.2⟩
theorem Trip.mem {H : Hp} {ps : List Addr} {ks : List (List L2.Key)} {ys : List V} {us : List Value} (t : Trip H ps ks ys us) : ∀ x ∈ tri ps ks us, H x.2.1 = some (.tup (x.1.map kV)) := by
  induction t with
  | nil => intro x hx; cases hx
  | cons h1 _ _ ih =>
    intro x hx
    rcases List.mem_cons.mp hx with e | hx
    · rw [e]
      exact h1
    · exact ih x hx
theorem Trip.of {H : Hp} : ∀ {ps : List Addr} {ks : List (List L2.Key)} {ys : List V} {us : List Value}, Paired (fun (p : Addr) (k : List L2.Key) => H p = some (.tup (k.map kV))) ps ks → Paired RelV ys us → ps.length = ys.length → Trip H ps ks ys us
  | _, _, _, _, .nil, .nil, _ => .nil
  | _, _, _, _, .cons h1 t, .cons h2 t', e => .cons h1 h2 (Trip.of t t' (Nat.succ.inj e))
  | _, _, _, _, .nil, .cons _ _, e => by cases e
  | _, _, _, _, .cons _ _, .nil, e => by cases e
/-- dict(zip(a, b)) as a value -/
def tDictZip (K : PySem.W.Frag) (t : TA) : TE := fun σ H Q => t σ H fun vs H1 => ∃ (a b : Addr) (ps : List Addr) (ks : List (List L2.Key)) (ys : List V), vs = [.ref a, .ref b] ∧ SqT K H1 a (ps.map V.ref) ∧ SqT K H1 b ys ∧
  Paired (fun (p : Addr) (k : List L2.Key) => H1 p = some (.tup (k.map kV))) ps ks ∧ ps.length = ys.length ∧ ∀ D, H1 D = none → Q (.ref D) (upd H1 D (.dT (mergeT [] (ks.zip ys))))
theorem refs_arr : ∀ {ps : List Addr} {us : List Value}, Paired RelV (ps.map V.ref) us → us = ps.map Value.ref
  | [], _, .nil => rfl
  | p :: ps, _, .cons r t => by
    cases r
    rw [refs_arr t]
    rfl
section
variable {X : Cx}
theorem pe_dictZip {ea eb : Expr} {t : TA} {p1 p2 pos zpos : Pos} (hu : X.A.units + 64 < cLine) (hc : X.calm = true) (gd : Gl X "dict") (md : X.mg "dict" = none) (gz : Gl X "zip") (mz : X.mg "zip" = none) (ha : PA X [ea, eb] t)
    (hs : starEach [ea, eb] X.env = (false, eval ea X.env) :: starEach [eb] X.env := by rfl) (hpl : (backTo zpos (starEach [eb] X.env)).any (·.1) = false := by rfl)
    (hs' : starEach [.Call (.Name "zip" p2) [ea, eb] [] zpos] X.env = (false, eval (.Call (.Name "zip" p2) [ea, eb] [] zpos) X.env) :: [] := by rfl) :
    PE X (.Call (.Name "dict" p1) [.Call (.Name "zip" p2) [ea, eb] [] zpos] [] pos) (tDictZip X.K t) := by
  refine ⟨fun pins s σ H Q I h => ?_⟩
  refine wpAny_Call_Name_kw (ld_blt I gd md (show bootBuiltins "dict" = some (.type "dict") by decide +kernel) ?_ (by decide) (by decide))
  refine PyProof.Rows.callWith_type1 (T := "dict") ?_ hs' rfl
  rw [hs']
  refine Calls.spliced_cons (?_ : wpAny _ _ (eval (.Call (.Name "zip" p2) [ea, eb] [] zpos) X.env) _ _ _)
  refine wpAny_Call_Name_kw (ld_blt I gz mz PyProof.Rows.boot_zip ?_ (by decide) (by decide))
  refine PyProof.Rows.callWith_type1 (thn (ha.run zpos pins s σ H _ I h) fun us s1 came => ?_) hs hpl
  obtain ⟨vs, H1, I1, r1, a, b, ps, ks, ys, rfl, qa, qb, pk, len, q⟩ := came
  obtain ⟨u1, u2, rfl, ru1, ru2⟩ : ∃ u1 u2, us = [u1, u2] ∧ RelV (.ref a) u1 ∧ RelV (.ref b) u2 := by
    cases r1 with
    | cons r rr =>
      cases rr with
      | cons r' rr =>
        cases rr
        exact ⟨_, _, rfl, r, r'⟩
  cases ru1
  cases ru2
  obtain ⟨its, rv, ta, _⟩ := I1.tuple qa
  obtain ⟨jts, rw', tb, small⟩ := I1.tuple qb
  have ei := refs_arr rv
  subst ei
  have tp := Trip.of pk rw' len
  obtain ⟨l1, l2, l3⟩ := tp.len
  obtain ⟨oa, ga, _⟩ := id ta
  obtain ⟨ob, gb, _⟩ := id tb
  have D := PySem.W.ktu_apart s1.heap.objs.size a b (Heap.lt_size ga) (Heap.lt_size gb)
  refine call_zipT (show s1.heap.IsTuple a (ps.map Value.ref).toArray from ta) (show s1.heap.IsTuple b jts.toArray from tb) fun h' hz hTI hTO w1 w2 hsz hk => Calls.spliced_nil ?_
  have apart : ∀ {c : Addr} {o : Obj} (j : Nat), s1.heap.get? c = some o → c ≠ s1.heap.objs.size + j := fun j e => Nat.ne_of_lt (Nat.lt_of_lt_of_le (Heap.lt_size e) (Nat.le_add_right _ _))
  have outs : ∀ {c : Addr} {o : Obj}, s1.heap.get? c = some o → c ∉ [s1.heap.objs.size + 4, s1.heap.objs.size + 3, s1.heap.objs.size, s1.heap.objs.size + 1] := by
    intro c o e
    simp only [List.mem_cons, List.not_mem_nil, or_false, not_or]
    exact ⟨apart 4 e, apart 3 e, apart 0 e, apart 1 e⟩
  have key : ∀ x ∈ tri ps ks jts, (tupleKind (mixKind X.prog X.w)).is s1.heap x.1 x.2.1 := fun x hx => key_of I1.hok (tp.mem x hx)
  refine call_dict_pairsH (s := { s1 with heap := h' }) (knd := tupleKind (mixKind X.prog X.w)) (ps := tri ps ks jts) (n := ps.length)
    (arg_zipT (prog := X.prog) (w := X.w) D (xs := (ps.map Value.ref).toArray) (ys := jts.toArray) (n := ps.length) ((List.size_toArray ..).trans (List.length_map ..)) ((List.size_toArray ..).trans l2)) (I.ok.hd hc) (show X.A.units + 1 + 1 < cLine by omega) ⟨⟨hz, _, _, hTO⟩, hTI, ⟨w1, w2⟩, Heap.IsTuple.at ta fun o e => hk _ o e, Heap.IsTuple.at tb fun o e => hk _ o e⟩ ⟨l1, ?_⟩ ?_ ?_ ?_
  · rintro i k v ⟨e1, e2⟩
    have e1 : (ps.map Value.ref)[i]? = some k := by simpa using e1
    have e2 : jts[i]? = some v := by simpa using e2
    rw [List.getElem?_map] at e1
    obtain ⟨p, ep, rfl⟩ := Option.map_eq_some_iff.mp e1
    obtain ⟨k, ek⟩ := tp.at ep e2
    exact ⟨k, p, ek, rfl⟩
  · intro h'' keep x hx
    obtain ⟨o, its, n, g, rest⟩ := key x hx
    refine ⟨o, its, n, keep _ _ ?_ (outs g) (hk _ _ g), rest⟩
    show x.2.1 ≠ h'.objs.size
    rw [hsz]
    exact apart 5 g
  · rw [len]
    exact small
  · intro h'' tk dd keep
    show ∃ _, _
    have kept : ∀ c o, s1.heap.get? c = some o → h''.get? c = some o := by
      intro c o e
      exact keep c o (outs e) (hk c o e)
    have big := I1.big
    have le : s1.heap.objs.size ≤ h'.objs.size := by omega
    have none' : H1 h'.objs.size = none := I1.hok.fresh le
    have few : (mergeT [] (ks.zip ys)).length ≤ sizeLine := by
      have := mergeT_len (ks.zip ys) []
      rw [l3, len] at this
      simp only [List.length_nil, Nat.zero_add] at this
      exact Nat.le_trans this small
    obtain ⟨oo, es, ep, hq, c2, c3, c4, _, c5⟩ := dd
    refine ⟨.ref h'.objs.size, upd H1 h'.objs.size (.dT (mergeT [] (ks.zip ys))), ?_, rfl, q _ none'⟩
    refine I1.laid (t' := tk) kept le ⟨few, beq_eq_false_iff_ne.mpr (Nat.ne_of_gt (Nat.lt_of_lt_of_le big le)), _, (tp.kt .nil).keeps (fun c zs ec => ?_), oo, es, ep, hq, c2, c3, c4, c5⟩
    rw [upd_ne (ne_of_none ec none')]
    exact ec
end
end KS
namespace KS
open PySem PySem.Spec PyProof.Rows L2 TL
/-! ### the written form of a table -/
instance (a b : Cell) : Decidable (lt2 a b) := by unfold lt2; exact inferInstance
def atC : List (Cell × Int) → Cell → Option Int
  | [], _ => none
  | z :: zs, x => if z.1 = x then some z.2 else atC zs x
def topI (l : List Int) : Int := l.foldr max 0
theorem topI_ge : ∀ (l : List Int) (x : Int), x ∈ l → x ≤ topI l
  | y :: l, x, h => by
    show x ≤ max y (topI l)
    rcases List.mem_cons.mp h with e | h
    · omega
    · have := topI_ge l x h
      omega
theorem topI_0 : ∀ l : List Int, 0 ≤ topI l
  | [] => Int.le_refl _
  | y :: l => by
    show 0 ≤ max y (topI l)
    have := topI_0 l
    omega
theorem topI_le : ∀ (l : List Int) (m : Int), 0 ≤ m → (∀ x ∈ l, x ≤ m) → topI l ≤ m
  | [], m, h, _ => h
  | y :: l, m, h, k => by
    show max y (topI l) ≤ m
    have h1 := k y (List.mem_cons_self ..)
    have h2 := topI_le l m h fun x hx => k x (List.mem_cons_of_mem _ hx)
    omega
theorem topI_is {l : List Int} {m : Int} (hm : m ∈ l) (h0 : 0 ≤ m) (h : ∀ x ∈ l, x ≤ m) : topI l = m :=
  Int.le_antisymm (topI_le l m h0 h) (topI_ge l m hm)
def hiN (cs : List Cell) : Nat := (topI (cs.map (·.1))).toNat + 1
def wiN (cs : List Cell) : Nat := (topI (cs.map (·.2))).toNat + 1
theorem hiN_le {cs : List Cell} (g : Good cs) : hiN cs ≤ 8 := by
  have := topI_le (cs.map (·.1)) 7 (by decide) (fun x hx => by
    obtain ⟨c, hc, rfl⟩ := List.mem_map.mp hx
    exact (g.grid c hc).2.1)
  unfold hiN
  omega
theorem wiN_le {cs : List Cell} (g : Good cs) : wiN cs ≤ 8 := by
  have := topI_le (cs.map (·.2)) 7 (by decide) (fun x hx => by
    obtain ⟨c, hc, rfl⟩ := List.mem_map.mp hx
    exact (g.grid c hc).2.2.2)
  unfold wiN
  omega
theorem in_wi {cs : List Cell} {c : Cell} (hc : c ∈ cs) : c.2 < wiN cs := by
  have := topI_ge (cs.map (·.2)) c.2 (List.mem_map.mpr ⟨c, hc, rfl⟩)
  unfold wiN
  have := topI_0 (cs.map (·.2))
  omega
theorem in_hi {cs : List Cell} {c : Cell} (hc : c ∈ cs) : c.1 < hiN cs := by
  have := topI_ge (cs.map (·.1)) c.1 (List.mem_map.mpr ⟨c, hc, rfl⟩)
  unfold hiN
  have := topI_0 (cs.map (·.1))
  omega
def dotS : Str := "."
def wdAt (zs : List (Cell × Int)) (c : Cell) : Str := match atC zs c with
  | some v => nmS v
  | none => dotS
def rowW (cs : List Cell) (vs : List Int) (r : Nat) : List Str := (List.range (wiN cs)).map fun j => wdAt (cs.zip vs) ((r : Int), ((j : Nat) : Int))
def pgR (cs : List Cell) (vs : List Int) : List Str := (List.range (hiN cs)).map fun r => jn (rowW cs vs r)
def jl (L : List Str) : Str := Txt.join ("\n" : Str) L
def page (cs : List Cell) (vs : List Int) : Str := jl (pgR cs vs)
theorem atC_ne {z : Cell × Int} {zs : List (Cell × Int)} {c : Cell} (h : z.1 ≠ c) : atC (z :: zs) c = atC zs c := if_neg h
theorem atC_eq {z : Cell × Int} {zs : List (Cell × Int)} {c : Cell} (h : z.1 = c) : atC (z :: zs) c = some z.2 := if_pos h
theorem atC_mem : ∀ {zs : List (Cell × Int)} {c : Cell} {v : Int}, atC zs c = some v → (c, v) ∈ zs
  | z :: zs, c, v, h => by
    unfold atC at h
    by_cases e : z.1 = c
    · rw [if_pos e] at h
      cases h
      rw [← e]
      exact List.mem_cons_self ..
    · rw [if_neg e] at h
      exact List.mem_cons_of_mem _ (atC_mem h)
/-! ### what comes before a cell -/
def Asc (zs : List (Cell × Int)) : Prop := zs.Pairwise fun a b => lt2 a.1 b.1
def bef (zs : List (Cell × Int)) (b : Cell) : List (Cell × Int) := zs.filter fun z => decide (lt2 z.1 b)
theorem asc_zip : ∀ {cs : List Cell} {vs : List Int}, cs.Pairwise lt2 → Asc (cs.zip vs)
  | [], _, _ => List.Pairwise.nil
  | c :: cs, [], _ => List.Pairwise.nil
  | c :: cs, v :: vs, h => by
    obtain ⟨h1, h2⟩ := List.pairwise_cons.mp h
    refine List.pairwise_cons.mpr ⟨fun z hz => ?_, asc_zip h2⟩
    exact h1 _ (List.of_mem_zip (show (z.1, z.2) ∈ _ from hz)).1
theorem lt2_irr {a : Cell} : ¬ lt2 a a := by unfold lt2; omega
theorem lt2_asym {a b : Cell} (h : lt2 a b) : ¬ lt2 b a := by unfold lt2 at *; omega
theorem lt2_tr {a b c : Cell} (h : lt2 a b) (k : lt2 b c) : lt2 a c := by unfold lt2 at *; omega
theorem lt2_3 (a b : Cell) : lt2 a b ∨ a = b ∨ lt2 b a := by
  obtain ⟨a1, a2⟩ := a
  obtain ⟨b1, b2⟩ := b
  unfold lt2
  show (a1 < b1 ∨ (a1 = b1 ∧ a2 < b2)) ∨ (a1, a2) = (b1, b2) ∨ (b1 < a1 ∨ (b1 = a1 ∧ b2 < a2))
  rw [Prod.mk.injEq]
  omega
theorem atC_none : ∀ {zs : List (Cell × Int)} {b : Cell}, (∀ z ∈ zs, z.1 ≠ b) → atC zs b = none
  | [], _, _ => rfl
  | z :: zs, b, h => by
    unfold atC
    rw [if_neg (h z (List.mem_cons_self ..))]
    exact atC_none fun x hx => h x (List.mem_cons_of_mem _ hx)
theorem bef_step {b b' : Cell} (hb : ∀ x : Cell, lt2 x b' ↔ lt2 x b ∨ x = b) : ∀ {zs : List (Cell × Int)}, Asc zs → bef zs b' = bef zs b ++ (match atC zs b with | some v => [(b, v)] | none => [])
  | [], _ => rfl
  | z :: zs, h => by
    obtain ⟨h1, h2⟩ := List.pairwise_cons.mp h
    have ih := bef_step hb h2
    have nil : ∀ {c : Cell}, (∀ x ∈ zs, ¬ lt2 x.1 c) → bef zs c = [] := by
      intro c hc
      exact List.filter_eq_nil_iff.mpr fun x hx e => hc x hx (of_decide_eq_true e)
    rcases lt2_3 z.1 b with l | e | g
    · have e1 : z.1 ≠ b := fun q => lt2_irr (q ▸ l)
      unfold bef at *
      rw [List.filter_cons_of_pos (by simpa using (hb z.1).mpr (.inl l)), List.filter_cons_of_pos (by simpa using l), ih]
      rw [atC_ne e1]
      rfl
    · have n1 : bef zs b = [] := nil fun x hx q => lt2_asym (h1 x hx) (e ▸ q)
      have n2 : bef zs b' = [] := nil fun x hx q => by
        rcases (hb x.1).mp q with q | q
        · exact lt2_asym (h1 x hx) (e ▸ q)
        · have := h1 x hx
          rw [e, q] at this
          exact lt2_irr this
      unfold bef at *
      rw [List.filter_cons_of_pos (by simpa using (hb z.1).mpr (.inr e)), List.filter_cons_of_neg (by simpa using (show ¬ lt2 z.1 b from e ▸ lt2_irr)), n1, n2]
      rw [atC_eq e, ← e]
      rfl
    · have n1 : bef zs b = [] := nil fun x hx q => lt2_asym (lt2_tr g (h1 x hx)) q
      have n2 : bef zs b' = [] := nil fun x hx q => by
        rcases (hb x.1).mp q with q | q
        · exact lt2_asym (lt2_tr g (h1 x hx)) q
        · have := lt2_tr g (h1 x hx)
          rw [q] at this
          exact lt2_irr this
      have n3 : ¬ lt2 z.1 b' := fun q => by
        rcases (hb z.1).mp q with q | q
        · exact lt2_asym g q
        · rw [q] at g
          exact lt2_irr g
      have n4 : atC zs b = none := atC_none fun x hx q => by
        have := lt2_tr g (h1 x hx)
        rw [q] at this
        exact lt2_irr this
      unfold bef at *
      rw [List.filter_cons_of_neg (by simpa using n3), List.filter_cons_of_neg (by simpa using lt2_asym g), n1, n2]
      rw [atC_ne (fun q => lt2_irr (a := b) (by rw [q] at g; exact g)), n4]
      rfl
theorem bef_next (zs : List (Cell × Int)) (h : Asc zs) (i j : Int) : bef zs (i, j + 1) = bef zs (i, j) ++ (match atC zs (i, j) with | some v => [((i, j), v)] | none => []) := by
  refine bef_step (fun x => ?_) h
  obtain ⟨x1, x2⟩ := x
  unfold lt2
  show (x1 < i ∨ (x1 = i ∧ x2 < j + 1)) ↔ (x1 < i ∨ (x1 = i ∧ x2 < j)) ∨ (x1, x2) = (i, j)
  rw [Prod.mk.injEq]
  omega
theorem bef_row {zs : List (Cell × Int)} {i w : Int} (h : ∀ z ∈ zs, 0 ≤ z.1.2 ∧ z.1.2 < w) : bef zs (i, w) = bef zs (i + 1, 0) := by
  unfold bef
  refine List.filter_congr fun z hz => ?_
  have := h z hz
  obtain ⟨⟨x1, x2⟩, v⟩ := z
  have e : lt2 (x1, x2) (i, w) ↔ lt2 (x1, x2) (i + 1, 0) := by
    unfold lt2
    show (x1 < i ∨ (x1 = i ∧ x2 < w)) ↔ (x1 < i + 1 ∨ (x1 = i + 1 ∧ x2 < 0))
    have h1 : 0 ≤ x2 := this.1
    have h2 : x2 < w := this.2
    omega
  exact decide_eq_decide.mpr e
theorem bef_all {zs : List (Cell × Int)} {n : Int} (h : ∀ z ∈ zs, z.1.1 < n) : bef zs (n, 0) = zs := by
  unfold bef
  refine List.filter_eq_self.mpr fun z hz => decide_eq_true ?_
  exact .inl (h z hz)
theorem bef_none {zs : List (Cell × Int)} (h : ∀ z ∈ zs, 0 ≤ z.1.1 ∧ 0 ≤ z.1.2) : bef zs (0, 0) = [] := by
  unfold bef
  refine List.filter_eq_nil_iff.mpr fun z hz e => ?_
  have := h z hz
  have e := of_decide_eq_true e
  unfold lt2 at e
  omega
theorem bef_len (zs : List (Cell × Int)) (b : Cell) : (bef zs b).length ≤ zs.length := List.length_filter_le _ _
/-! ### split again -/
theorem wd_cases (zs : List (Cell × Int)) (c : Cell) : (∃ v, atC zs c = some v ∧ wdAt zs c = nmS v) ∨ (atC zs c = none ∧ wdAt zs c = dotS) := by
  unfold wdAt
  cases e : atC zs c with
  | none => exact .inr ⟨rfl, rfl⟩
  | some v => exact .inl ⟨v, rfl, rfl⟩
theorem dot_tl : tl dotS = [46] := by decide +kernel
theorem nl_tl : tl ("\n" : Str) = [10] := by decide +kernel
theorem wd_free {zs : List (Cell × Int)} (hv : ∀ z ∈ zs, 1 ≤ z.2) (c : Cell) (s : Nat) (hs : s = 32 ∨ s = 10) : s ∉ tl (wdAt zs c) := by
  rcases wd_cases zs c with ⟨v, e, w⟩ | ⟨e, w⟩ <;> rw [w]
  · have := hv _ (atC_mem e)
    rw [nm_tl (show 0 ≤ v by have : 1 ≤ v := this; omega)]
    exact numL_free (by rcases hs with h | h <;> subst h <;> exact .inl (by decide))
  · rw [dot_tl]
    rcases hs with h | h <;> subst h <;> decide
theorem wd_sm {zs : List (Cell × Int)} (hv : ∀ z ∈ zs, 1 ≤ z.2) (c : Cell) : ∀ x ∈ tl (wdAt zs c), x < 128 := by
  rcases wd_cases zs c with ⟨v, e, w⟩ | ⟨e, w⟩ <;> rw [w]
  · have := hv _ (atC_mem e)
    rw [nm_tl (show 0 ≤ v by have : 1 ≤ v := this; omega)]
    intro x hx
    have := numL_digits v.toNat x hx
    omega
  · rw [dot_tl]
    intro x hx
    rw [List.mem_singleton.mp hx]
    decide
theorem nm4 {v : Int} (h1 : 1 ≤ v) (h2 : v ≤ 9999) : (nmS v).length ≤ 4 := by
  rw [len_tl, nm_tl (by omega)]
  exact numL_len (by decide) (by omega)
theorem wd_len {zs : List (Cell × Int)} (hv : ∀ z ∈ zs, 1 ≤ z.2 ∧ z.2 ≤ 9999) (c : Cell) : (wdAt zs c).length ≤ 4 := by
  rcases wd_cases zs c with ⟨v, e, w⟩ | ⟨e, w⟩ <;> rw [w]
  · have := hv _ (atC_mem e)
    exact nm4 this.1 this.2
  · decide +kernel
theorem zip_vals {cs : List Cell} {vs : List Int} (h : Vals9 cs.length vs) : ∀ z ∈ cs.zip vs, 1 ≤ z.2 ∧ z.2 ≤ 9999 := fun z hz => by
  have := h.bd z.2 (List.of_mem_zip (show (z.1, z.2) ∈ _ from hz)).2
  omega
theorem zip_cell {cs : List Cell} {vs : List Int} {z : Cell × Int} (hz : z ∈ cs.zip vs) : z.1 ∈ cs := (List.of_mem_zip (show (z.1, z.2) ∈ _ from hz)).1
theorem row_ne (cs : List Cell) (vs : List Int) (r : Nat) : rowW cs vs r ≠ [] := by
  intro e
  have := congrArg List.length e
  unfold rowW at this
  rw [List.length_map, List.length_range] at this
  unfold wiN at this
  cases this
theorem row_wt {cs : List Cell} {vs : List Int} (g : Good cs) (h : Vals9 cs.length vs) (r : Nat) : wtS (rowW cs vs r) ≤ 40 := by
  have hw := wiN_le g
  unfold rowW
  generalize wiN cs = n at *
  suffices ∀ n : Nat, wtS ((List.range n).map fun j => wdAt (cs.zip vs) ((r : Int), ((j : Nat) : Int))) ≤ 5 * n by
    have := this n
    omega
  intro n
  induction n with
  | zero => exact Nat.le_refl _
  | succ n ih =>
    rw [List.range_succ, List.map_append, wtS_app]
    have := wd_len (zip_vals h) ((r : Int), ((n : Nat) : Int))
    show _ + wtS [wdAt (cs.zip vs) ((r : Int), ((n : Nat) : Int))] ≤ _
    rw [wtS_cons, wtS_nil]
    omega
theorem row_len {cs : List Cell} {vs : List Int} (g : Good cs) (h : Vals9 cs.length vs) (r : Nat) : (jn (rowW cs vs r)).length ≤ 40 := Nat.le_trans (jn_len _) (row_wt g h r)
theorem row_split {cs : List Cell} {vs : List Int} (h : Vals9 cs.length vs) (r : Nat) : Txt.split (jn (rowW cs vs r)) " " = rowW cs vs r := by
  refine split_jn (row_ne cs vs r) fun p hp => ?_
  obtain ⟨j, _, rfl⟩ := List.mem_map.mp hp
  exact wd_free (fun z hz => (zip_vals h z hz).1) _ 32 (.inl rfl)
theorem mem_joinS (S : List Nat) : ∀ (L : List (List Nat)) (c : Nat), c ∈ joinL S L → c ∈ S ∨ ∃ p ∈ L, c ∈ p
  | [], c, h => by cases h
  | [p], c, h => .inr ⟨p, List.mem_singleton.mpr rfl, h⟩
  | p :: q :: r, c, h => by
    have h : c ∈ p ++ (S ++ joinL S (q :: r)) := h
    rcases List.mem_append.mp h with h | h
    · exact .inr ⟨p, List.mem_cons_self .., h⟩
    · rcases List.mem_append.mp h with h | h
      · exact .inl h
      · rcases mem_joinS S (q :: r) c h with z | ⟨x, hx, z⟩
        · exact .inl z
        · exact .inr ⟨x, List.mem_cons_of_mem _ hx, z⟩
theorem row_mem {cs : List Cell} {vs : List Int} {r c : Nat} (hc : c ∈ tl (jn (rowW cs vs r))) : c = 32 ∨ ∃ x, c ∈ tl (wdAt (cs.zip vs) x) := by
  rw [tl_jn] at hc
  rcases mem_joinS _ _ c hc with z | ⟨p, hp, z⟩
  · exact .inl (List.mem_singleton.mp z)
  · obtain ⟨x, hx, rfl⟩ := List.mem_map.mp hp
    obtain ⟨j, _, rfl⟩ := List.mem_map.mp hx
    exact .inr ⟨_, z⟩
theorem tl_jl (L : List Str) : tl (jl L) = joinL [10] (L.map tl) := by
  unfold jl
  rw [join_eq, tl_join, nl_tl]
theorem page_split {cs : List Cell} {vs : List Int} (h : Vals9 cs.length vs) : Txt.split (page cs vs) "\n" = pgR cs vs := by
  refine split_join nl_tl (by decide +kernel) (fun e => ?_) fun p hp hm => ?_
  · have := congrArg List.length e
    unfold pgR at this
    rw [List.length_map, List.length_range] at this
    unfold hiN at this
    cases this
  · obtain ⟨r, _, rfl⟩ := List.mem_map.mp hp
    rcases row_mem hm with z | ⟨x, z⟩
    · exact absurd z (by decide)
    · exact wd_free (fun z hz => (zip_vals h z hz).1) _ 10 (.inr rfl) z
theorem joinS_len (s : Nat) : ∀ L : List (List Nat), (joinL [s] L).length ≤ (L.map List.length).sum + L.length
  | [] => Nat.le_refl _
  | [p] => by
    show p.length ≤ _
    rw [List.map_cons, List.sum_cons]
    omega
  | p :: q :: r => by
    have ih := joinS_len s (q :: r)
    show (p ++ ([s] ++ joinL [s] (q :: r))).length ≤ _
    rw [List.length_append, List.length_append, List.map_cons, List.sum_cons, List.length_cons (a := p)]
    show p.length + (1 + (joinL [s] (q :: r)).length) ≤ _
    omega
theorem jl_len (L : List Str) : (jl L).length ≤ wtS L := by
  have := joinS_len 10 (L.map tl)
  rw [len_tl, tl_jl]
  unfold wtS
  rw [List.map_map, List.length_map] at this
  have e : L.map (List.length ∘ tl) = L.map (·.length) := List.map_congr_left fun x _ => (len_tl x).symm
  rw [e] at this
  exact this
theorem pg_wt {cs : List Cell} {vs : List Int} (g : Good cs) (h : Vals9 cs.length vs) (n : Nat) : wtS ((List.range n).map fun r => jn (rowW cs vs r)) ≤ 41 * n := by
  induction n with
  | zero => exact Nat.le_refl _
  | succ n ih =>
    rw [List.range_succ, List.map_append, wtS_app]
    have := row_len g h n
    show _ + wtS [jn (rowW cs vs n)] ≤ _
    rw [wtS_cons, wtS_nil]
    omega
theorem page_len {cs : List Cell} {vs : List Int} (g : Good cs) (h : Vals9 cs.length vs) : (page cs vs).length ≤ 328 := by
  have h1 := jl_len (pgR cs vs)
  have h2 := pg_wt g h (hiN cs)
  have h3 := hiN_le g
  show (jl (pgR cs vs)).length ≤ _
  have : wtS (pgR cs vs) ≤ 41 * hiN cs := h2
  omega
theorem page_sm {cs : List Cell} {vs : List Int} (h : Vals9 cs.length vs) : ∀ c ∈ (page cs vs).cps.toList, c < 16 ^ 8 := by
  intro c hc
  have hc : c ∈ tl (jl (pgR cs vs)) := hc
  rw [tl_jl] at hc
  have e : (128 : Nat) < 16 ^ 8 := by decide
  have : c < 128 := by
    rcases mem_joinS _ _ c hc with z | ⟨p, hp, z⟩
    · rw [List.mem_singleton.mp z]
      decide
    · obtain ⟨x, hx, rfl⟩ := List.mem_map.mp hp
      obtain ⟨r, _, rfl⟩ := List.mem_map.mp hx
      rcases row_mem z with z | ⟨x, z⟩
      · rw [z]
        decide
      · exact wd_sm (fun z hz => (zip_vals h z hz).1) _ c z
  omega
theorem last_row {cs : List Cell} (g : Good cs) {c : Cell} (hl : cs.getLast? = some c) : hiN cs = c.1.toNat + 1 := by
  have hm : c ∈ cs := List.mem_of_getLast? hl
  have h0 := (g.grid c hm).1
  have e : topI (cs.map (·.1)) = c.1 := by
    refine topI_is (List.mem_map.mpr ⟨c, hm, rfl⟩) h0 fun x hx => ?_
    obtain ⟨d, hd, rfl⟩ := List.mem_map.mp hx
    obtain ⟨ys, rfl⟩ : ∃ ys, cs = ys ++ [c] := List.getLast?_eq_some_iff.mp hl
    rcases List.mem_append.mp hd with hd | hd
    · have := (List.pairwise_append.mp g.asc).2.2 d hd c (List.mem_singleton.mpr rfl)
      unfold lt2 at this
      omega
    · rw [List.mem_singleton.mp hd]
      exact Int.le_refl _
  unfold hiN
  rw [e]
/-! ### the dict of a table -/
def keyC (c : Cell) : List L2.Key := [.inl c.1, .inl c.2]
theorem keyC_inj {a b : Cell} : keyC a = keyC b ↔ a = b := by
  obtain ⟨a1, a2⟩ := a
  obtain ⟨b1, b2⟩ := b
  unfold keyC
  simp
/-- the dict holds f of each value, by the cells -/
def DictT (f : Int → V) (zs : List (Cell × Int)) (kvs : List (List L2.Key × V)) : Prop := kvs.length ≤ zs.length ∧ ∀ c, valV kvs (keyC c) = (atC zs c).map f
theorem atC_snoc : ∀ (zs : List (Cell × Int)) (c x : Cell) (v : Int), (∀ z ∈ zs, z.1 ≠ c) → atC (zs ++ [(c, v)]) x = if c = x then some v else atC zs x
  | [], c, x, v, _ => rfl
  | z :: zs, c, x, v, h => by
    have ih := atC_snoc zs c x v fun y hy => h y (List.mem_cons_of_mem _ hy)
    show atC (z :: (zs ++ [(c, v)])) x = _
    by_cases e : z.1 = x
    · rw [atC_eq e, atC_eq e, if_neg (fun q => h z (List.mem_cons_self ..) (e.trans q.symm))]
    · rw [atC_ne e, atC_ne e, ih]
theorem DictT.put {f : Int → V} {zs : List (Cell × Int)} {kvs : List (List L2.Key × V)} {c : Cell} {v : Int} (h : DictT f zs kvs) (nc : ∀ z ∈ zs, z.1 ≠ c) : DictT f (zs ++ [(c, v)]) (putK kvs (keyC c) (f v)) := by
  refine ⟨?_, fun x => ?_⟩
  · have h1 := length_putK kvs (keyC c) (f v)
    have h2 := h.1
    rw [List.length_append]
    show _ ≤ zs.length + 1
    omega
  · rw [valV_put, h.2 x, atC_snoc zs c x v nc]
    by_cases e : c = x
    · rw [if_pos e, if_pos (keyC_inj.mpr e.symm)]
      rfl
    · rw [if_neg e, if_neg (fun q => e (keyC_inj.mp q).symm)]
theorem DictT.nil {f : Int → V} : DictT f [] [] := ⟨Nat.le_refl _, fun c => rfl⟩
theorem dictT_merge {f : Int → V} : ∀ (cs : List Cell) (vs : List Int) (zs : List (Cell × Int)) (kvs : List (List L2.Key × V)), DictT f zs kvs → cs.Nodup → (∀ z ∈ zs, z.1 ∉ cs) → DictT f (zs ++ cs.zip vs) (mergeT kvs ((cs.map keyC).zip (vs.map f)))
  | [], vs, zs, kvs, h, _, _ => by
    rw [List.zip_nil_left, List.append_nil]
    exact h
  | c :: cs, [], zs, kvs, h, _, _ => by
    rw [List.zip_nil_right, List.append_nil]
    exact h
  | c :: cs, v :: vs, zs, kvs, h, nd, ni => by
    have ih := dictT_merge cs vs (zs ++ [(c, v)]) (putK kvs (keyC c) (f v)) (h.put fun z hz e => ni z hz (by rw [e]; exact List.mem_cons_self ..)) (List.nodup_cons.mp nd).2 (fun z hz => by
      rcases List.mem_append.mp hz with hz | hz
      · exact fun q => ni z hz (List.mem_cons_of_mem _ q)
      · rw [List.mem_singleton.mp hz]
        exact (List.nodup_cons.mp nd).1)
    rw [List.append_assoc] at ih
    exact ih
end KS
namespace KS
open PySem PySem.Spec PyProof.Rows L2
open PySem.W (EachIs AllAlike Sortable dataLe)
/-! ### sorted(l), l a list of objects that are plain data -/
def rSortedD (K : PySem.W.Frag) : List V → Hp → VK → Prop := fun vs H Q => ∃ (a : Addr) (β : Type) (bs : List β) (val : β → V) (enc : β → PyData), vs = [V.ref a] ∧ SqL K H a (bs.map val) ∧ (∀ b ∈ bs, (∃ t, val b = V.ref t) ∧ Dp K H (val b) (enc b) ∧ (enc b).depth ≤ 30) ∧
  AllAlike (bs.map enc) ∧ Sortable (bs.map enc) ∧ ∀ p, H p = none → Q (.ref p) (upd H p (.lst ((bs.mergeSort (dataLe false enc)).map val)))
section
variable {β : Type} {val : β → V} {enc : β → PyData}
def isRefOf (val : β → V) (v : Value) (b : β) : Prop := ∃ t, val b = V.ref t ∧ v = Value.ref t
theorem each_refs : ∀ {bs : List β} {its : List Value}, Vals (bs.map val) its → (∀ b ∈ bs, ∃ t, val b = V.ref t) → EachIs (isRefOf val) its bs
  | [], _, r, _ => by
    cases r
    exact .nil
  | z :: zs, _, r, h => by
    cases r with
    | cons r1 r2 =>
      obtain ⟨t, e⟩ := h z (List.mem_cons_self ..)
      refine .cons ⟨t, e, ?_⟩ (each_refs r2 fun y hy => h y (List.mem_cons_of_mem _ hy))
      rw [e] at r1
      cases r1
      rfl
theorem refs_each : ∀ {bs : List β} {out : List Value}, EachIs (isRefOf val) out bs → Vals (bs.map val) out
  | [], _, .nil => .nil
  | z :: zs, _, .cons ⟨t, e, ev⟩ r => by
    subst ev
    rw [List.map_cons, e]
    exact .cons rfl (refs_each r)
theorem each_reads {X : Cx} {pins : List (Addr × Obj)} {s : Shared} {σ : L2.St} {H : Hp} (I : Inv X pins σ H s) : ∀ {bs : List β} {its : List Value}, Vals (bs.map val) its → (∀ b ∈ bs, Dp X.K H (val b) (enc b)) → EachIs (fun v b => ∃ as, Reads s.heap v (enc b) as) its bs
  | [], _, r, _ => by
    cases r
    exact .nil
  | z :: zs, _, r, h => by
    cases r with
    | cons r1 r2 =>
      exact .cons (Dp.reads I (enc z) (val z) _ (h z (List.mem_cons_self ..)) r1) (each_reads I r2 fun y hy => h y (List.mem_cons_of_mem _ hy))
end
theorem cr_sortedD {X : Cx} (hu : X.A.units + 65 < cLine) : CallR X (.builtin "sorted") (rSortedD X.K) := by
  intro pins s σ H vs us Q I r h
  obtain ⟨a, β, bs, val, enc, rfl, hs, hz, al, so, q⟩ := h
  obtain ⟨its, rv, hl, hlen⟩ := I.list hs
  obtain ⟨u, rfl, ru⟩ := vals1 r
  obtain rfl : u = Value.ref a := ru
  have zl : bs.length ≤ sizeLine := by
    rw [List.length_map] at hlen
    exact hlen
  refine PySem.W.sorted_data (vs := its) (bs := bs) (enc := enc) (R := isRefOf val) hl.isList (each_refs rv fun z m => (hz z m).1) (each_reads I rv fun z m => (hz z m).2.1) al so zl (fun z m => ?_) fun out ol oe => ?_
  · have := (hz z m).2.2
    show X.A.units + 2 + (enc z).depth < cLine
    omega
  · obtain ⟨n, hn⟩ := sortedAll_at s.heap its out.toArray
    have hp : s.heap.objs.size ≤ s.heap.objs.size + 1 := Nat.le_succ _
    refine ⟨.ref (s.heap.objs.size + 1), upd H (s.heap.objs.size + 1) (.lst ((bs.mergeSort (dataLe false enc)).map val)), I.laid (t' := s.toks) (fun b o e => sortedAll_old e) hp ⟨?_, out, n, refs_each oe, hn⟩, rfl, q _ (I.hok.fresh hp)⟩
    rw [List.length_map, (List.mergeSort_perm _ _).length_eq]
    exact zl
end KS
namespace KS
open PySem PySem.Spec PyProof.Rows L2 TL
open PySem.W (AllAlike Sortable dataLe dataLt)
/-! ### pairs of a cell and its value, sorted -/
def PrT (H : Hp) (x : V) (z : Cell × Int) : Prop := ∃ p q, x = .ref p ∧ H p = some (.tup [.ref q, .int z.2]) ∧ H q = some (.tup [.int z.1.1, .int z.1.2])
theorem PrT.ktt {H H' : Hp} (k : KTt H H') {x : V} {z : Cell × Int} (h : PrT H x z) : PrT H' x z := by
  obtain ⟨p, q, e, h1, h2⟩ := h
  exact ⟨p, q, e, k _ _ h1, k _ _ h2⟩
abbrev PrsT (H : Hp) : List V → List (Cell × Int) → Prop := Paired (PrT H)
theorem PrsT.ktt {H H' : Hp} (k : KTt H H') {xs : List V} {zs : List (Cell × Int)} (h : PrsT H xs zs) : PrsT H' xs zs := Paired.mono (fun _ _ q => q.ktt k) h
def prD (z : Cell × Int) : PyData := .tuple [.tuple [.int z.1.1, .int z.1.2], .int z.2]
theorem PrT.dp {K : PySem.W.Frag} {H : Hp} {x : V} {z : Cell × Int} (h : PrT H x z) : Dp K H x (prD z) := by
  obtain ⟨p, q, rfl, h1, h2⟩ := h
  exact .tup (SqT.of h1) (.cons (.tup (SqT.of h2) (.cons (.int _) (.cons (.int _) .nil))) (.cons (.int _) .nil))
def le3 (a b : Cell × Int) : Prop := lt2 a.1 b.1 ∨ (a.1 = b.1 ∧ a.2 ≤ b.2)
instance (a b : Cell × Int) : Decidable (le3 a b) := by unfold le3; exact inferInstance
theorem prD_lt (a b : Cell × Int) : dataLt (prD a) (prD b) = decide (lt2 a.1 b.1 ∨ (a.1 = b.1 ∧ a.2 < b.2)) := by
  obtain ⟨⟨a1, a2⟩, a3⟩ := a
  obtain ⟨⟨b1, b2⟩, b3⟩ := b
  unfold prD
  dsimp only
  rw [PySem.W.dataLt_pair (by simp [PySem.W.alike, PySem.W.alikeAll]) (by simp [PySem.W.alike]), PySem.W.dataLt_ii]
  have e1 : PyData.eqv (.tuple [.int a1, .int a2]) (.tuple [.int b1, .int b2]) = decide (a1 = b1 ∧ a2 = b2) := by
    simp only [PyData.eqv, PyData.eqvAll, Bool.and_true]
    by_cases c : a1 = b1 <;> by_cases c2 : a2 = b2 <;> simp [c, c2]
  have e2 : PyData.eqv (.int a3) (.int b3) = decide (a3 = b3) := by
    simp only [PyData.eqv]
    by_cases c : a3 = b3 <;> simp [c]
  have e3 : dataLt (.int a3) (.int b3) = decide (a3 < b3) := by
    exact PySem.W.dataLt_int a3 b3
  rw [e1, e2, e3]
  unfold lt2
  by_cases c : a1 = b1 ∧ a2 = b2
  · obtain ⟨rfl, rfl⟩ := c
    rw [if_pos (by simp)]
    by_cases c3 : a3 = b3
    · subst c3
      simp
    · rw [if_neg (by simpa using c3)]
      simp
  · rw [if_neg (by simpa using c)]
    refine decide_eq_decide.mpr ?_
    rw [Prod.mk.injEq]
    dsimp only
    omega
theorem prD_le {β : Type} (f : β → Cell × Int) : dataLe false (fun b => prD (f b)) = fun p q => decide (le3 (f p) (f q)) := by
  rw [PySem.W.dataLe_eq]
  funext p q
  show (!dataLt (prD (f q)) (prD (f p))) = _
  rw [prD_lt]
  have h : (¬ (lt2 (f q).1 (f p).1 ∨ ((f q).1 = (f p).1 ∧ (f q).2 < (f p).2))) ↔ le3 (f p) (f q) := by
    generalize f p = a
    generalize f q = b
    obtain ⟨⟨a1, a2⟩, a3⟩ := a
    obtain ⟨⟨b1, b2⟩, b3⟩ := b
    unfold le3 lt2
    rw [Prod.mk.injEq, Prod.mk.injEq]
    dsimp only
    omega
  by_cases c : le3 (f p) (f q)
  · rw [decide_eq_true c, decide_eq_false (h.mpr c)]
    rfl
  · rw [decide_eq_false c, decide_eq_true (Decidable.not_not.mp fun z => c (h.mp z))]
    rfl
theorem le3_tr {a b c : Cell × Int} (h : le3 a b) (k : le3 b c) : le3 a c := by
  obtain ⟨⟨a1, a2⟩, a3⟩ := a
  obtain ⟨⟨b1, b2⟩, b3⟩ := b
  obtain ⟨⟨c1, c2⟩, c3⟩ := c
  unfold le3 lt2 at *
  rw [Prod.mk.injEq] at *
  dsimp only at *
  omega
theorem le3_tot (a b : Cell × Int) : le3 a b ∨ le3 b a := by
  obtain ⟨⟨a1, a2⟩, a3⟩ := a
  obtain ⟨⟨b1, b2⟩, b3⟩ := b
  unfold le3 lt2
  rw [Prod.mk.injEq, Prod.mk.injEq]
  dsimp only
  omega
/-- sorted pairs with cells that are all different: the cells ascend -/
theorem sort_prs {β : Type} (f : β → Cell × Int) (bs : List β) (nd : ((bs.map f).map (·.1)).Nodup) :
    ((bs.mergeSort (dataLe false (fun b => prD (f b)))).map f).Perm (bs.map f) ∧ Asc ((bs.mergeSort (dataLe false (fun b => prD (f b)))).map f) := by
  have p : ((bs.mergeSort (dataLe false (fun b => prD (f b)))).map f).Perm (bs.map f) := (List.mergeSort_perm _ _).map f
  refine ⟨p, ?_⟩
  have h := List.pairwise_mergeSort (le := dataLe false (fun b => prD (f b))) (by
    rw [prD_le]
    intro a b c h1 h2
    exact decide_eq_true (le3_tr (of_decide_eq_true h1) (of_decide_eq_true h2))) (by
    rw [prD_le]
    intro a b
    rw [Bool.or_eq_true, decide_eq_true_eq, decide_eq_true_eq]
    exact le3_tot _ _) bs
  have n2 := (p.map (·.1)).nodup_iff.mpr nd
  generalize bs.mergeSort (dataLe false (fun b => prD (f b))) = cs at p h n2
  unfold Asc
  rw [List.nodup_iff_pairwise_ne, List.map_map, List.pairwise_map] at n2
  rw [List.pairwise_map]
  refine (h.and n2).imp fun {a b} ⟨h1, h2⟩ => ?_
  rw [prD_le] at h1
  rcases of_decide_eq_true h1 with z | ⟨z, _⟩
  · exact z
  · exact absurd z h2
theorem prs_sortable {β : Type} (f : β → Cell × Int) (bs : List β) : AllAlike (bs.map fun b => prD (f b)) ∧ Sortable (bs.map fun b => prD (f b)) := by
  refine ⟨AllAlike.of fun a b => ?_, Sortable.tuples fun b => ⟨_, _, rfl⟩⟩
  unfold prD
  simp [PySem.W.alike, PySem.W.alikeAll]
theorem prD_depth (z : Cell × Int) : (prD z).depth ≤ 30 := by
  unfold prD
  simp only [PyData.depth, PyData.depthAll]
  decide
end KS
namespace KS
open PySem PySem.Spec PyProof.Rows L2 RZ
/-! ### list(zip(t1, t2)), both tuples of one length -/
theorem nolen_zip : typeLookup (.type "zip") "__len__" = pure none := by rw [typeLookup_type, builtinLookup_eq_fast]; kernel_rfl
theorem nohint_zip : typeLookup (.type "zip") "__length_hint__" = pure none := by rw [typeLookup_type, builtinLookup_eq_fast]; kernel_rfl
def pairO (x y : Value) : Obj := { cls := .type "tuple", data := .seq #[x, y] }
section
variable {prog : Program} {w : World} {E : Value → Shared → Prop} {s : Shared} {z TI TO i1 i2 l1 l2 d : Addr}
theorem nxtZ {A : Around} (D : ZipApart z TI TO i1 i2 l1 l2) {xs ys : Array Value} {n i : Nat} (hx : xs.size = n) (hy : ys.size = n) (hi : i < n) (st : ZTs z TI TO i1 i2 l1 l2 d xs ys i s.heap) (ds : d < s.heap.objs.size) {Q : Option Value → Shared → Prop}
    (hQ : ∀ h' x y, xs[i]? = some x → ys[i]? = some y → h'.get? s.heap.objs.size = some (pairO x y) → ZTs z TI TO i1 i2 l1 l2 d xs ys (i + 1) h' → (∀ b o, b ∉ [z, TO, i1, i2] → s.heap.get? b = some o → h'.get? b = some o) → Q (some (.ref s.heap.objs.size)) { s with heap := h' }) :
    wpAny (model prog w) A (pyNext (.ref z)) Q E s := by
  have ex := Array.getElem?_eq_getElem (xs := xs) (i := i) (by omega)
  have ey := Array.getElem?_eq_getElem (xs := ys) (i := i) (by omega)
  have lt : ∀ {c o}, s.heap.get? c = some o → s.heap.objs.size ≠ c := fun e => Nat.ne_of_gt (Heap.lt_size e)
  have n1 : s.heap.objs.size ≠ i1 := st.w1.elim fun _ e => lt e.1
  have n2 : s.heap.objs.size ≠ i2 := st.w2.elim fun _ e => lt e.1
  have memo : ∀ {c : Addr}, c ∉ [z, TO, i1, i2] → c ≠ z ∧ c ≠ TO ∧ c ≠ i1 ∧ c ≠ i2 := by
    intro c hc
    simpa only [List.mem_cons, List.not_mem_nil, or_false, not_or] using hc
  rcases st.zz with ⟨q, a, b, r⟩ | ⟨T, f, oT, q, hT, r1, r2, r3, r4⟩
  · refine pyNext_zipT_item D q st.hTI r st.w1 st.w2 st.t1 st.t2 ex ey fun h' a1 a2 a3 a4 a5 a6 k => ?_
    refine hQ h' _ _ ex ey a5 ?_ fun c o hc e => let ⟨c1, c2, c3, c4⟩ := memo hc; k c o c1 c2 c3 c4 e
    exact ⟨k _ _ D.TIz D.TITO D.TIi1 D.TIi2 st.hTI, a3, a4, st.t1.at fun o e => k _ o D.l1z D.l1TO D.l1i1 D.l1i2 e, st.t2.at fun o e => k _ o D.l2z D.l2TO D.l2i1 D.l2i2 e, Or.inr ⟨_, false, _, a1, a5, lt q, n1, n2, Nat.ne_of_gt ds⟩⟩
  · refine zn_py ⟨_, q, rfl⟩ (zn_two (Q := fun v s' => Q (some v) s') q hT st.hTI fun h₁ z₁ b₁ => ?_)
    refine nextOf_tuple_item (s := { s with heap := h₁ }) (st.w1.extBut b₁.extBut D.i1z) (st.t1.extBut b₁.extBut D.l1z) ex fun h₂ w₁ b₂ => ?_
    refine nextOf_tuple_item (s := { s with heap := h₂ }) ((st.w2.extBut b₁.extBut D.i2z).extBut b₂.extBut D.i12.symm) ((st.t2.extBut b₁.extBut D.l2z).extBut b₂.extBut D.l2i1) ey fun h₃ w₂ b₃ => ?_
    have k : ∀ c o, c ≠ z → c ≠ i1 → c ≠ i2 → s.heap.get? c = some o → (h₃.push { cls := .type "tuple", data := .seq #[xs[i], ys[i]] }).get? c = some o := fun c o c1 c2 c3 e => Heap.get?_push_of_some _ (b₃.extBut _ _ c3 (b₂.extBut _ _ c2 (b₁.extBut _ _ c1 e)))
    have sz : h₃.objs.size = s.heap.objs.size := (b₃.1.trans b₂.1).trans b₁.1
    show Q (some (.ref h₃.objs.size)) { s with heap := h₃.push { cls := .type "tuple", data := .seq #[xs[i], ys[i]] } }
    rw [sz]
    refine hQ _ _ _ ex ey (by rw [← sz]; exact Heap.get?_push_size _ rfl) ?_ fun c o hc e => let ⟨c1, _, c3, c4⟩ := memo hc; k c o c1 c3 c4 e
    refine ⟨k _ _ D.TIz D.TIi1 D.TIi2 st.hTI, (w₁.extBut b₃.extBut D.i12).at fun o e => Heap.get?_push_of_some _ e, w₂.at fun o e => Heap.get?_push_of_some _ e, st.t1.at fun o e => k _ o D.l1z D.l1i1 D.l1i2 e, st.t2.at fun o e => k _ o D.l2z D.l2i1 D.l2i2 e, Or.inr ⟨T, true, oT, ?_, k _ _ r1 r2 r3 hT, r1, r2, r3, r4⟩⟩
    exact Heap.get?_push_of_some _ (b₃.extBut _ _ D.i2z.symm (b₂.extBut _ _ D.i1z.symm z₁))
theorem finZ {A : Around} (hA : A.handled = none) (D : ZipApart z TI TO i1 i2 l1 l2) {xs ys : Array Value} {n : Nat} (hx : xs.size = n) (st : ZTs z TI TO i1 i2 l1 l2 d xs ys n s.heap) {Q : Option Value → Shared → Prop}
    (hQ : ∀ h', (∀ b o, b ∉ [z, TO, i1, i2] → s.heap.get? b = some o → h'.get? b = some o) → Q none { s with heap := h' }) : wpAny (model prog w) A (pyNext (.ref z)) Q E s := by
  have ex : xs[n]? = none := Array.getElem?_eq_none (by omega)
  have memo : ∀ {c : Addr}, c ∉ [z, TO, i1, i2] → c ≠ z ∧ c ≠ TO ∧ c ≠ i1 ∧ c ≠ i2 := by
    intro c hc
    simpa only [List.mem_cons, List.not_mem_nil, or_false, not_or] using hc
  rcases st.zz with ⟨q, a, b, r⟩ | ⟨T, f, oT, q, hT, r1, r2, r3, r4⟩
  · exact pyNext_zipT_end hA D q st.hTI r st.w1 st.w2 st.t1 st.t2 (Or.inl ex) fun h' k => hQ h' fun c o hc e => let ⟨c1, c2, c3, c4⟩ := memo hc; k c o c1 c2 c3 c4 e
  · refine zn_py ⟨_, q, rfl⟩ (zn_two (Q := fun v s' => Q (some v) s') q hT st.hTI fun h₁ z₁ b₁ => ?_)
    refine nextOf_tuple_end (s := { s with heap := h₁ }) (show A.in1.handled = none from hA) (st.w1.extBut b₁.extBut D.i1z) (st.t1.extBut b₁.extBut D.l1z) ex fun h₂ e b₂ ⟨o, ho, hc⟩ => ?_
    exact ⟨e, o, rfl, ho, hc, hQ h₂ fun c o hc e => let ⟨c1, _, c3, c4⟩ := memo hc; b₂ c o c3 (b₁.extBut c o c1 e)⟩
/-- the pairs that were made -/
structure PrMade (xs ys : Array Value) (lo : Nat) (h : Heap) (as : List Addr) : Prop where
  rise : as.Pairwise (· < ·)
  above : ∀ a ∈ as, lo ≤ a
  pairs : ∀ (j : Nat) (a : Addr), as[j]? = some a → ∃ x y, xs[j]? = some x ∧ ys[j]? = some y ∧ h.get? a = some (pairO x y)
theorem PrMade.there {xs ys : Array Value} {lo : Nat} {h : Heap} {as : List Addr} (g : PrMade xs ys lo h as) {a : Addr} (ha : a ∈ as) : a < h.objs.size := by
  obtain ⟨j, hj⟩ := List.mem_iff_getElem?.mp ha
  obtain ⟨_, _, _, _, e⟩ := g.pairs j a hj
  exact Heap.lt_size e
theorem loopZ {A : Around} {R : Result → Shared → Prop} (hh : A.handled = none) (D : ZipApart z TI TO i1 i2 l1 l2) {xs ys : Array Value} {n lo : Nat} (hx : xs.size = n) (hy : ys.size = n) (hn : n ≤ sizeLine)
    (off : d ∉ [z, TI, TO, i1, i2, l1, l2]) (hlo : d < lo ∧ z < lo ∧ TO < lo ∧ i1 < lo ∧ i2 < lo) (res : Value) {h₁ : Heap}
    (hR : ∀ h' tk acc c as, (∀ b o, b ∉ [z, TO, i1, i2] → b ≠ d → h₁.get? b = some o → h'.get? b = some o) → h'.get? d = some { cls := .type "list", dict := none, data := .seq acc c, slots := #[] } → as.length = n → PrMade xs ys lo h' as →
      acc.toList = as.map Value.ref → R (.ok (.ret res)) { s with heap := h', toks := tk }) :
    ∀ (k i : Nat) (h : Heap) (tk c : Nat) (acc : Array Value) (as : List Addr), n - i = k → i ≤ n → ZTs z TI TO i1 i2 l1 l2 d xs ys i h → (∀ b o, b ∉ [z, TO, i1, i2] → b ≠ d → h₁.get? b = some o → h.get? b = some o) →
      h.get? d = some { cls := .type "list", dict := none, data := .seq acc c, slots := #[] } → acc.toList = as.map Value.ref → as.length = i → PrMade xs ys lo h as → lo ≤ h.objs.size →
      codeAny (model prog w) A (.builtin "list.extend.loop" ⟨[.ref d, .ref z, res], []⟩) R { s with heap := h, toks := tk } := by
  simp only [List.mem_cons, List.not_mem_nil, or_false, not_or] at off
  obtain ⟨dz, dTI, dTO, di1, di2, dl1, dl2⟩ := off
  have dw : d ∉ [z, TO, i1, i2] := by
    simp only [List.mem_cons, List.not_mem_nil, or_false, not_or]
    exact ⟨dz, dTO, di1, di2⟩
  have hw : ∀ {a : Addr}, lo ≤ a → a ∉ [z, TO, i1, i2] ∧ a ≠ d := by
    intro a ha
    have h1 : d < lo := hlo.1
    have h2 : z < lo := hlo.2.1
    have h3 : TO < lo := hlo.2.2.1
    have h4 : i1 < lo := hlo.2.2.2.1
    have h5 : i2 < lo := hlo.2.2.2.2
    simp only [List.mem_cons, List.not_mem_nil, or_false, not_or]
    exact ⟨⟨Nat.ne_of_gt (Nat.lt_of_lt_of_le h2 ha), Nat.ne_of_gt (Nat.lt_of_lt_of_le h3 ha), Nat.ne_of_gt (Nat.lt_of_lt_of_le h4 ha), Nat.ne_of_gt (Nat.lt_of_lt_of_le h5 ha)⟩, Nat.ne_of_gt (Nat.lt_of_lt_of_le h1 ha)⟩
  have frame : ∀ i h h', ZTs z TI TO i1 i2 l1 l2 d xs ys i h → (∀ b o, b ≠ d → h.get? b = some o → h'.get? b = some o) → ZTs z TI TO i1 i2 l1 l2 d xs ys i h' := by
    intro i h h' st k
    refine ⟨k _ _ (Ne.symm dTI) st.hTI, st.w1.at fun o e => k _ o (Ne.symm di1) e, st.w2.at fun o e => k _ o (Ne.symm di2) e, st.t1.at fun o e => k _ o (Ne.symm dl1) e, st.t2.at fun o e => k _ o (Ne.symm dl2) e, ?_⟩
    refine st.zz.imp (fun ⟨q, a, b, r⟩ => ⟨k _ _ (Ne.symm dz) q, a, b, k _ _ (Ne.symm dTO) r⟩) ?_
    rintro ⟨T, f, oT, q, hT, r1, r2, r3, r4⟩
    exact ⟨T, f, oT, k _ _ (Ne.symm dz) q, k _ _ r4 hT, r1, r2, r3, r4⟩
  intro k
  induction k with
  | zero =>
    intro i h tk c acc as hk hi hst hkeep hS hacc hal hG hlz
    have ein : i = n := by omega
    subst ein
    refine codeAny_builtin PySem.F.entry_extend_loop ?_
    rw [Around.under_plainId PySem.F.plain_extend_loop _]
    show wpAny _ A.in1 (pyNext (.ref z) >>= _) _ _ _
    refine wpAny_bind (finZ (s := { s with heap := h, toks := tk }) (A := A.in1) hh D hx hst fun h' he => ?_)
    refine wpAny_pure (hR h' tk acc c as (fun b o h1 h2 e => he b o h1 (hkeep b o h1 h2 e)) (he d _ dw hS) hal ⟨hG.rise, hG.above, fun j a hj => ?_⟩ hacc)
    obtain ⟨x, y, e1, e2, e3⟩ := hG.pairs j a hj
    exact ⟨x, y, e1, e2, he a _ (hw (hG.above a (List.mem_of_getElem? hj))).1 e3⟩
  | succ k ih =>
    intro i h tk c acc as hk hi hst hkeep hS hacc hal hG hlz
    have hlt : i < n := by omega
    have hsz : acc.size = i := by rw [← Array.length_toList, hacc, List.length_map, hal]
    refine codeAny_builtin PySem.F.entry_extend_loop ?_
    rw [Around.under_plainId PySem.F.plain_extend_loop _]
    show wpAny _ A.in1 (pyNext (.ref z) >>= _) _ _ _
    refine wpAny_bind (nxtZ (s := { s with heap := h, toks := tk }) D hx hy hlt hst (Heap.lt_size hS) fun h' x y ex ey ht hz hkp => ?_)
    dsimp only at ht hz hkp ⊢
    have hS' := hkp d _ dw hS
    have up : ∀ b o, b ≠ d → h'.get? b = some o → (h'.update d (Obj.mapSeq (·.push (Value.ref h.objs.size)))).get? b = some o := fun b o hb e => (Heap.get?_update_other _ _ (Ne.symm hb)).trans e
    have hSl : d < h.objs.size := Heap.lt_size hS
    have e5 : (h'.update d (Obj.mapSeq (·.push (Value.ref h.objs.size)))).get? h.objs.size = some (pairO x y) := up _ _ (Nat.ne_of_gt hSl) ht
    show wpAny _ A.in1 (updateSeq d (·.push (Value.ref h.objs.size)) >>= _) _ _ _
    refine wpAny_bind ?_
    refine wpAny_updateSeq hS' rfl (wpAny_pure ⟨plainId_quiet PySem.F.plain_extend_loop _, ih (i + 1) _ tk _ (acc.push (Value.ref h.objs.size)) (as ++ [h.objs.size]) (by omega) hlt (frame _ _ _ hz up)
      (fun b o h1 h2 e => up b o h2 (hkp b o h1 (hkeep b o h1 h2 e))) (Heap.get?_update_self _ hS' rfl) (by rw [Array.toList_push, hacc, List.map_append]; rfl) (by rw [List.length_append, hal]; rfl) ⟨?_, ?_, ?_⟩ ?_⟩) (by rw [hsz]; omega) (by show (acc.push (Value.ref h.objs.size)).size ≤ sizeLine + 1; rw [Array.size_push, hsz]; omega)
    · refine List.pairwise_append.mpr ⟨hG.rise, List.pairwise_singleton _ _, fun a ha b hb => ?_⟩
      rw [List.mem_singleton.mp hb]
      exact hG.there ha
    · intro a ha
      rcases List.mem_append.mp ha with ha | ha
      · exact hG.above a ha
      · rw [List.mem_singleton.mp ha]; exact hlz
    · intro j b hj
      rcases Nat.lt_trichotomy j as.length with h1 | h1 | h1
      · rw [List.getElem?_append_left h1] at hj
        obtain ⟨x', y', e1, e2, e3⟩ := hG.pairs j b hj
        have hb := hw (hG.above b (List.mem_of_getElem? hj))
        exact ⟨x', y', e1, e2, up b _ hb.2 (hkp b _ hb.1 e3)⟩
      · subst h1
        have hb : h.objs.size = b := by simpa using hj
        subst hb
        rw [hal]
        exact ⟨x, y, ex, ey, e5⟩
      · have hnone : (as ++ [h.objs.size])[j]? = none := List.getElem?_eq_none (by rw [List.length_append, List.length_singleton]; omega)
        rw [hnone] at hj; cases hj
    · exact Nat.le_of_lt (Nat.lt_of_le_of_lt hlz (Heap.lt_size e5))
end
end KS
namespace KS
open PySem PySem.Spec PyProof.Rows L2 RZ
section
variable {prog : Program} {w : World} {A : Around} {E : Value → Shared → Prop} {s : Shared} {z TI TO i1 i2 l1 l2 d : Addr}
theorem ZTs.there {xs ys : Array Value} {h : Heap} {i : Nat} (st : ZTs z TI TO i1 i2 l1 l2 d xs ys i h) : (∃ o, h.get? z = some o) ∧ (∃ o, h.get? i1 = some o) ∧ ∃ o, h.get? i2 = some o := by
  refine ⟨?_, ?_, ?_⟩
  · rcases st.zz with ⟨q, _⟩ | ⟨T, f, oT, q, _⟩
    · exact ⟨_, q⟩
    · exact ⟨_, q⟩
  · obtain ⟨o, e, _⟩ := st.w1
    exact ⟨o, e⟩
  · obtain ⟨o, e, _⟩ := st.w2
    exact ⟨o, e⟩
theorem ZTs.isZip {xs ys : Array Value} {h : Heap} {i : Nat} (st : ZTs z TI TO i1 i2 l1 l2 d xs ys i h) : ∃ o, h.get? z = some o ∧ o.cls = .type "zip" := by
  rcases st.zz with ⟨q, _⟩ | ⟨T, f, oT, q, _⟩
  · exact ⟨_, q, rfl⟩
  · exact ⟨_, q, rfl⟩
theorem ZTs.frame {xs ys : Array Value} {h h' : Heap} {i : Nat} (off : d ∉ [z, TI, TO, i1, i2, l1, l2]) (st : ZTs z TI TO i1 i2 l1 l2 d xs ys i h) (k : ∀ b o, b ≠ d → h.get? b = some o → h'.get? b = some o) : ZTs z TI TO i1 i2 l1 l2 d xs ys i h' := by
  simp only [List.mem_cons, List.not_mem_nil, or_false, not_or] at off
  obtain ⟨dz, dTI, dTO, di1, di2, dl1, dl2⟩ := off
  refine ⟨k _ _ (Ne.symm dTI) st.hTI, st.w1.at fun o e => k _ o (Ne.symm di1) e, st.w2.at fun o e => k _ o (Ne.symm di2) e, st.t1.at fun o e => k _ o (Ne.symm dl1) e, st.t2.at fun o e => k _ o (Ne.symm dl2) e, ?_⟩
  refine st.zz.imp (fun ⟨q, a, b, r⟩ => ⟨k _ _ (Ne.symm dz) q, a, b, k _ _ (Ne.symm dTO) r⟩) ?_
  rintro ⟨T, f, oT, q, hT, r1, r2, r3, r4⟩
  exact ⟨T, f, oT, k _ _ (Ne.symm dz) q, k _ _ r4 hT, r1, r2, r3, r4⟩
theorem extZ {R : Result → Shared → Prop} (hh : A.handled = none) (D : ZipApart z TI TO i1 i2 l1 l2) {xs ys : Array Value} {n : Nat} (hx : xs.size = n) (hy : ys.size = n) (hn : n ≤ sizeLine)
    (off : d ∉ [z, TI, TO, i1, i2, l1, l2]) (fresh : IsZip s.heap z TI TO .none ∧ ∃ a b, IsPair s.heap TO a b) (st : ZTs z TI TO i1 i2 l1 l2 d xs ys 0 s.heap) (res : Value) (c₀ : Nat) (hS : s.heap.get? d = some { cls := .type "list", data := .seq #[] c₀ })
    (hR : ∀ h' tk acc c as, (∀ b o, b ∉ [z, TO, i1, i2] → b ≠ d → s.heap.get? b = some o → h'.get? b = some o) → h'.get? d = some { cls := .type "list", dict := none, data := .seq acc c, slots := #[] } → as.length = n → PrMade xs ys s.heap.objs.size h' as →
      acc.toList = as.map Value.ref → R (.ok (.ret res)) { s with heap := h', toks := tk }) :
    wpAny (model prog w) A.in1 (Builtin.List.listExtendWith (.ref d) (.ref z) res)
      (fun fin s' => match fin with | .done f => R (.ok f) s' | .again c' => c'.quiet = true ∧ codeAny (model prog w) A c' R s') (fun e s' => R (.error e) s') s := by
  have dz : d ≠ z := fun e => off (by rw [e]; exact List.mem_cons_self ..)
  obtain ⟨oz, hz, hzc⟩ := st.isZip
  obtain ⟨_, ⟨o1, e1⟩, ⟨o2, e2⟩⟩ := st.there
  obtain ⟨a0, b0, hTO⟩ := fresh.2
  have hTy : s.TypeIs (.ref z) "zip" := ⟨oz, hz, hzc⟩
  unfold Builtin.List.listExtendWith
  refine wpAny_bind (wpAny_typeOf hTy ?_)
  have h1 : Builtin.List.listSameRef (.ref d) (.ref z) = false := by simp [Builtin.List.listSameRef, dz]
  have h2 : (Value.type "zip" == Value.type "list") = false := by decide
  have h3 : (Value.type "zip" == Value.type "tuple") = false := by decide
  simp only [h1, h2, h3, Bool.or_false, Bool.false_eq_true, if_false]
  refine wpAny_bind (wpAny_pyIter_zip fresh.1 ?_)
  refine wpAny_bind (wpAny_holding ?_)
  unfold Builtin.List.listLengthHint
  refine wpAny_bind (wpAny_specialOf hTy nolen_zip ?_)
  show wpAny _ A.in1 (specialOf (Value.ref z) (Str.ofString "__length_hint__") >>= _) _ _ _
  refine wpAny_bind (wpAny_specialOf hTy nohint_zip ?_)
  refine wpAny_pure ?_
  show wpAny _ A.in1 (rule "list.extend.makes-room" >>= fun _ => Builtin.List.listTouch (.ref d) >>= fun _ =>
    again (.builtin "list.extend.loop" ⟨[.ref d, .ref z, res], []⟩)) _ _ _
  refine wpAny_bind (wpAny_rule ?_)
  refine wpAny_bind ?_
  show wpAny _ A.in1 (updateSeq d (·.push .none) >>= fun _ => updateSeq d (·.pop)) _ _ _
  refine wpAny_bind (wpAny_updateSeq hS rfl ?_)
  have hS₂ := Heap.get?_update_self (Obj.mapSeq (·.push Value.none)) hS rfl
  refine wpAny_updateSeq (hz := by seq_fits) hS₂ rfl ?_
  have hS₃ := Heap.get?_update_self (Obj.mapSeq (·.pop)) hS₂ rfl
  have oth : ∀ b o, b ≠ d → s.heap.get? b = some o → ((s.heap.update d (Obj.mapSeq (·.push Value.none))).update d (Obj.mapSeq (·.pop))).get? b = some o :=
    fun b o hb e => (Heap.get?_update_other _ _ (Ne.symm hb)).trans ((Heap.get?_update_other _ _ (Ne.symm hb)).trans e)
  have szu : ((s.heap.update d (Obj.mapSeq (·.push Value.none))).update d (Obj.mapSeq (·.pop))).objs.size = s.heap.objs.size := by simp
  refine wpAny_pure ⟨plainId_quiet PySem.F.plain_extend_loop _, loopZ (s := s) (h₁ := s.heap) (lo := s.heap.objs.size) hh D hx hy hn off ⟨Heap.lt_size hS, Heap.lt_size hz, Heap.lt_size hTO, Heap.lt_size e1, Heap.lt_size e2⟩ res
    (fun h' tk acc c as k1 k2 k3 k4 k5 => hR h' tk acc c as k1 k2 k3 k4 k5) n 0 _ _ _ #[] [] (Nat.sub_zero _) (Nat.zero_le _) (st.frame off oth) (fun b o _ hb e => oth b o hb e) hS₃ rfl rfl
    ⟨List.Pairwise.nil, (fun _ ha => nomatch ha), (fun j a hj => by simp at hj)⟩ (by rw [szu]; exact Nat.le_refl _)⟩
theorem initZ {R : Result → Shared → Prop} (hh : A.handled = none) (D : ZipApart z TI TO i1 i2 l1 l2) {xs ys : Array Value} {n : Nat} (hx : xs.size = n) (hy : ys.size = n) (hn : n ≤ sizeLine)
    (off : d ∉ [z, TI, TO, i1, i2, l1, l2]) (fresh : IsZip s.heap z TI TO .none ∧ ∃ a b, IsPair s.heap TO a b) (st : ZTs z TI TO i1 i2 l1 l2 d xs ys 0 s.heap) (hS : s.heap.get? d = some { cls := .type "list", data := .seq #[] })
    (hR : ∀ h' tk acc c as, (∀ b o, b ∉ [z, TO, i1, i2] → b ≠ d → s.heap.get? b = some o → h'.get? b = some o) → h'.get? d = some { cls := .type "list", dict := none, data := .seq acc c, slots := #[] } → as.length = n → PrMade xs ys s.heap.objs.size h' as →
      acc.toList = as.map Value.ref → R (.ok (.ret .none)) { s with heap := h', toks := tk }) :
    wpAny (model prog w) A.in1 (Builtin.«list.__init__» ⟨[.ref d, .ref z], []⟩)
      (fun fin s' => match fin with | .done f => R (.ok f) s' | .again c' => c'.quiet = true ∧ codeAny (model prog w) A c' R s') (fun e s' => R (.error e) s') s := by
  show wpAny _ A.in1 (do let old ← Builtin.List.listItems (.ref d); Builtin.List.listUpdate (.ref d) (fun _ => #[]); letGo old.toList.reverse; Builtin.List.listExtendWith (.ref d) (.ref z) .none) _ _ s
  refine wpAny_bind ?_
  unfold Builtin.List.listItems
  refine wpAny_bind (wpAny_seqItems hS rfl (wpAny_pure ?_))
  show wpAny _ A.in1 (updateSeq d (fun _ => #[]) >>= fun _ => letGo (#[] : Array Value).toList.reverse >>= fun _ => Builtin.List.listExtendWith (.ref d) (.ref z) .none) _ _ s
  refine wpAny_bind (wpAny_updateSeq hS rfl ?_)
  have hS₂ := Heap.get?_update_self (Obj.mapSeq (fun _ => (#[] : Array Value))) hS rfl
  have oth : ∀ b o, b ≠ d → s.heap.get? b = some o → (s.heap.update d (Obj.mapSeq (fun _ => (#[] : Array Value)))).get? b = some o :=
    fun b o hb e => (Heap.get?_update_other _ _ (Ne.symm hb)).trans e
  have szu : (s.heap.update d (Obj.mapSeq (fun _ => (#[] : Array Value)))).objs.size = s.heap.objs.size := by simp
  refine wpAny_bind (wpAny_letGo ?_)
  have dn := off
  simp only [List.mem_cons, List.not_mem_nil, or_false, not_or] at dn
  obtain ⟨dz, dTI, dTO, di1, di2, dl1, dl2⟩ := dn
  refine extZ (s := { s with heap := s.heap.update d (Obj.mapSeq (fun _ => (#[] : Array Value))) }) hh D hx hy hn off ?_ (st.frame off oth) .none _ hS₂ fun h' tk acc c as k1 k2 k3 k4 k5 => ?_
  · obtain ⟨q, a, b, r⟩ := fresh
    exact ⟨oth _ _ (Ne.symm dz) q, a, b, oth _ _ (Ne.symm dTO) r⟩
  · refine hR h' tk acc c as (fun b o h1 h2 e => k1 b o h1 h2 (oth b o h2 e)) k2 k3 ?_ k5
    have e : PrMade xs ys (s.heap.update d (Obj.mapSeq (fun _ => (#[] : Array Value)))).objs.size h' as := k4
    rw [szu] at e
    exact e
theorem call_listZ {Q : Value → Shared → Prop} (hh : A.handled = none) (D : ZipApart z TI TO i1 i2 l1 l2) {xs ys : Array Value} {n : Nat} (hx : xs.size = n) (hy : ys.size = n) (hn : n ≤ sizeLine)
    (lt : z < s.heap.objs.size ∧ TI < s.heap.objs.size ∧ TO < s.heap.objs.size ∧ i1 < s.heap.objs.size ∧ i2 < s.heap.objs.size ∧ l1 < s.heap.objs.size ∧ l2 < s.heap.objs.size)
    (fresh : IsZip s.heap z TI TO .none ∧ ∃ a b, IsPair s.heap TO a b) (hTI : IsPair s.heap TI (.ref i1) (.ref i2)) (w1 : s.heap.IsTupleIter i1 l1 0) (w2 : s.heap.IsTupleIter i2 l2 0) (t1 : s.heap.IsTuple l1 xs) (t2 : s.heap.IsTuple l2 ys)
    (hQ : ∀ h' tk acc c as, (∀ b o, b ∉ [z, TO, i1, i2] → s.heap.get? b = some o → h'.get? b = some o) → h'.get? s.heap.objs.size = some { cls := .type "list", dict := none, data := .seq acc c, slots := #[] } → as.length = n → PrMade xs ys (s.heap.objs.size + 1) h' as →
      acc.toList = as.map Value.ref → Q (.ref s.heap.objs.size) { s with heap := h', toks := tk }) : wpAny (model prog w) A (call (.type "list") [.ref z]) Q E s := by
  obtain ⟨g1, g2, g3, g4, g5, g6, g7⟩ := lt
  have off : s.heap.objs.size ∉ [z, TI, TO, i1, i2, l1, l2] := by
    simp only [List.mem_cons, List.not_mem_nil, or_false, not_or]
    exact ⟨Nat.ne_of_gt g1, Nat.ne_of_gt g2, Nat.ne_of_gt g3, Nat.ne_of_gt g4, Nat.ne_of_gt g5, Nat.ne_of_gt g6, Nat.ne_of_gt g7⟩
  have hk : ∀ b o, s.heap.get? b = some o → (s.heap.push { cls := .type "list", data := .seq #[] }).get? b = some o := fun b o e => Heap.get?_push_of_some _ e
  have fr : IsZip (s.heap.push { cls := .type "list", data := .seq #[] }) z TI TO .none ∧ ∃ a b, IsPair (s.heap.push { cls := .type "list", data := .seq #[] }) TO a b := by
    obtain ⟨q, a, b, r⟩ := fresh
    exact ⟨hk _ _ q, a, b, hk _ _ r⟩
  refine callType_codes (Q₁ := fun obj s₁ => obj = .ref s.heap.objs.size ∧ s₁ = { s with heap := s.heap.push { cls := .type "list", data := .seq #[] } }) PySem.F.called_list (PySem.F.typeCall_list_1 _) PySem.F.entry_list_init
    (code_list_new _ ⟨rfl, rfl⟩) fun obj s₁ h₁ => ?_
  obtain ⟨rfl, rfl⟩ := h₁
  have hS : (s.heap.push { cls := .type "list", data := .seq #[] }).get? s.heap.objs.size = some { cls := .type "list", data := .seq #[] } := Heap.get?_push_size _ rfl
  refine ⟨⟨_, hS, rfl⟩, PySem.F.args_list_init_2 _ _, initZ (s := { s with heap := s.heap.push { cls := .type "list", data := .seq #[] } }) (d := s.heap.objs.size) hh D hx hy hn off fr
    ⟨hk _ _ hTI, w1.at fun o e => hk _ o e, w2.at fun o e => hk _ o e, t1.at fun o e => hk _ o e, t2.at fun o e => hk _ o e, .inl fr⟩ hS fun h' tk acc c as k1 k2 k3 k4 k5 => ?_⟩
  refine ⟨rfl, hQ h' tk acc c as (fun b o h1 e => k1 b o h1 (Nat.ne_of_lt (Heap.lt_size e)) (hk b o e)) k2 k3 ?_ k5⟩
  have e : PrMade xs ys (s.heap.push { cls := .type "list", data := .seq #[] }).objs.size h' as := k4
  rw [Heap.size_push] at e
  exact e
end
end KS
namespace KS
open PySem PySem.Spec PyProof.Rows L2 RZ
def tListZip (K : PySem.W.Frag) (t : TA) : TE := fun σ H Q => t σ H fun vs H1 => ∃ (a b : Addr) (xs ys : List V), vs = [.ref a, .ref b] ∧ SqT K H1 a xs ∧ SqT K H1 b ys ∧ xs.length = ys.length ∧
  ∀ H2 (as : List Addr) D, Same H1 H2 → as.length = xs.length → (∀ p ∈ as, H1 p = none) → as.Nodup → (∀ (j : Nat) (p : Addr) (x y : V), as[j]? = some p → xs[j]? = some x → ys[j]? = some y → H2 p = some (.tup [x, y])) → H2 D = some (.lst (as.map V.ref)) → H1 D = none → Q (.ref D) H2
theorem vals_refs : ∀ as : List Addr, Vals (as.map V.ref) (as.map Value.ref)
  | [] => .nil
  | a :: as => .cons rfl (vals_refs as)
section
variable {X : Cx}
theorem pe_listZip {ea eb : Expr} {t : TA} {p1 p2 pos zpos : Pos} (hc : X.calm = true) (gd : Gl X "list") (md : X.mg "list" = none) (gz : Gl X "zip") (mz : X.mg "zip" = none) (ha : PA X [ea, eb] t)
    (hs : starEach [ea, eb] X.env = (false, eval ea X.env) :: starEach [eb] X.env := by rfl) (hpl : (backTo zpos (starEach [eb] X.env)).any (·.1) = false := by rfl)
    (hs' : starEach [.Call (.Name "zip" p2) [ea, eb] [] zpos] X.env = (false, eval (.Call (.Name "zip" p2) [ea, eb] [] zpos) X.env) :: [] := by rfl) :
    PE X (.Call (.Name "list" p1) [.Call (.Name "zip" p2) [ea, eb] [] zpos] [] pos) (tListZip X.K t) := by
  refine ⟨fun pins s σ H Q I h => ?_⟩
  refine wpAny_Call_Name_kw (ld_blt I gd md (show bootBuiltins "list" = some (.type "list") by decide +kernel) ?_ (by decide) (by decide))
  refine PyProof.Rows.callWith_type1 (T := "list") ?_ hs' rfl
  rw [hs']
  refine Calls.spliced_cons (?_ : wpAny _ _ (eval (.Call (.Name "zip" p2) [ea, eb] [] zpos) X.env) _ _ _)
  refine wpAny_Call_Name_kw (ld_blt I gz mz PyProof.Rows.boot_zip ?_ (by decide) (by decide))
  refine PyProof.Rows.callWith_type1 (thn (ha.run zpos pins s σ H _ I h) fun us s1 came => ?_) hs hpl
  obtain ⟨vs, H1, I1, r1, a, b, xs, ys, rfl, qa, qb, len, q⟩ := came
  obtain ⟨u1, u2, rfl, ru1, ru2⟩ : ∃ u1 u2, us = [u1, u2] ∧ RelV (.ref a) u1 ∧ RelV (.ref b) u2 := by
    cases r1 with
    | cons r rr =>
      cases rr with
      | cons r' rr =>
        cases rr
        exact ⟨_, _, rfl, r, r'⟩
  cases ru1
  cases ru2
  obtain ⟨its, rv, ta, small⟩ := I1.tuple qa
  obtain ⟨jts, rw', tb, _⟩ := I1.tuple qb
  have li := rv.length
  have lj := rw'.length
  obtain ⟨oa, ga, _⟩ := id ta
  obtain ⟨ob, gb, _⟩ := id tb
  have la := Heap.lt_size ga
  have lb := Heap.lt_size gb
  have D := PySem.W.ktu_apart s1.heap.objs.size a b la lb
  refine call_zipT (show s1.heap.IsTuple a its.toArray from ta) (show s1.heap.IsTuple b jts.toArray from tb) fun h' hz hTI hTO w1 w2 hsz hk => Calls.spliced_nil ?_
  refine call_listZ (s := { s1 with heap := h' }) (n := xs.length) (I.ok.hd hc) D (xs := its.toArray) (ys := jts.toArray) (by rw [List.size_toArray]; exact li.symm) (by rw [List.size_toArray]; omega) small
    ⟨by show _ < h'.objs.size; omega, by show _ < h'.objs.size; omega, by show _ < h'.objs.size; omega, by show _ < h'.objs.size; omega, by show _ < h'.objs.size; omega, by show _ < h'.objs.size; rw [hsz]; exact Nat.lt_of_lt_of_le la (Nat.le_add_right _ _), by show _ < h'.objs.size; rw [hsz]; exact Nat.lt_of_lt_of_le lb (Nat.le_add_right _ _)⟩
    ⟨hz, _, _, hTO⟩ hTI w1 w2 (Heap.IsTuple.at ta fun o e => hk _ o e) (Heap.IsTuple.at tb fun o e => hk _ o e) fun h'' tk acc c as k1 k2 k3 k4 k5 => ?_
  have kept : ∀ b o, s1.heap.get? b = some o → h''.get? b = some o := by
    intro b o e
    have lt := Heap.lt_size e
    refine k1 b o ?_ (hk b o e)
    simp only [List.mem_cons, List.not_mem_nil, or_false, not_or]
    have apart : ∀ j : Nat, b ≠ s1.heap.objs.size + j := fun j => Nat.ne_of_lt (Nat.lt_of_lt_of_le lt (Nat.le_add_right _ _))
    exact ⟨apart 4, apart 3, apart 0, apart 1⟩
  have I2 : Inv X pins σ H1 { s1 with heap := h'', toks := tk } := I1.kept (t' := tk) kept
  have nd : as.Nodup := List.Pairwise.imp (fun h => Nat.ne_of_lt h) k4.rise
  have ab : ∀ p ∈ as, s1.heap.objs.size ≤ p := fun p hp => by
    have := k4.above p hp
    have e : ({ s1 with heap := h' } : Shared).heap.objs.size = s1.heap.objs.size + 5 := hsz
    rw [e] at this
    exact Nat.le_trans (by omega) this
  have fr : ∀ p ∈ as, H1 p = none := fun p hp => I1.hok.fresh (ab p hp)
  have dz : s1.heap.objs.size ≤ h'.objs.size := by rw [hsz]; exact Nat.le_add_right _ _
  have dn : H1 h'.objs.size = none := I1.hok.fresh dz
  have dna : h'.objs.size ∉ as := fun hp => absurd (k4.above _ hp) (Nat.not_le_of_gt (Nat.lt_succ_self _))
  have acl : acc = (as.map Value.ref).toArray := by rw [← k5]
  subst acl
  have I4 : Inv X pins σ (upd H1 h'.objs.size (.lst (as.map V.ref))) { s1 with heap := h'', toks := tk } := I2.take (h' := h'') (t' := tk) (fun b ob _ e => e) (I1.fpOk dz dn) ⟨by rw [List.length_map, k3]; exact small, _, c, vals_refs as, k2⟩
  obtain ⟨H2, I3, keepH, got⟩ := L2.DX.takeT (P := fun p vs => ∃ (j : Nat) (x y : V), as[j]? = some p ∧ xs[j]? = some x ∧ ys[j]? = some y ∧ vs = [x, y]) I1 as (upd H1 h'.objs.size (.lst (as.map V.ref))) I4 nd fun p hp => by
    have np : p ≠ h'.objs.size := fun e => dna (by rw [← e]; exact hp)
    refine ⟨ab p hp, by rw [upd_ne np]; exact fr p hp, ?_⟩
    obtain ⟨j, hj⟩ := List.mem_iff_getElem?.mp hp
    obtain ⟨u, v, eu, ev, g⟩ := k4.pairs j p hj
    have eu : its[j]? = some u := by simpa using eu
    have ev : jts[j]? = some v := by simpa using ev
    have jl : j < xs.length := by
      rw [li]
      exact (List.getElem?_eq_some_iff.mp eu).1
    have ex := List.getElem?_eq_getElem jl
    have ey := List.getElem?_eq_getElem (show j < ys.length by omega)
    obtain ⟨u', eu', r1⟩ := rv.get ex
    obtain ⟨v', ev', r2⟩ := rw'.get ey
    rw [eu] at eu'
    rw [ev] at ev'
    cases eu'
    cases ev'
    exact ⟨_, ⟨j, _, _, hj, ex, ey, rfl⟩, fun H2 => ⟨by show 2 ≤ sizeLine; decide, [u, v], .cons r1 (.cons r2 .nil), ⟨pairO u v, g, rfl, 0, rfl⟩⟩⟩
  have sm : Same H1 H2 := fun b o e => keepH b o (by
    rw [upd_ne (ne_of_none e dn)]
    exact e)
  refine ⟨.ref h'.objs.size, _, I3, rfl, q _ as h'.objs.size sm k3 fr nd (fun j p x y hj hx hy => ?_) (keepH _ _ upd_same) dn⟩
  have hp := List.mem_of_getElem? hj
  obtain ⟨vs, ⟨j', x', y', ej, ex, ey, rfl⟩, g⟩ := got p hp
  have ejj : j' = j := by
    obtain ⟨l1, z1⟩ := List.getElem?_eq_some_iff.mp ej
    obtain ⟨l2, z2⟩ := List.getElem?_eq_some_iff.mp hj
    exact (List.getElem_inj nd).mp (z1.trans z2.symm)
  subst ejj
  rw [hx] at ex
  rw [hy] at ey
  cases ex
  cases ey
  exact g
end
end KS
namespace KS
open PySem PySem.Spec PyProof.Rows L2
def topS (i : Nat) : Stmt := PySem.Challenge.pw_keepsort_k27_whole_texts_written_and_rea.main.body.getD i (.Pass ⟨0, 0, 0, 0⟩)
abbrev sCell : Stmt := topS 44
abbrev sPool : Stmt := topS 45
abbrev sDraw : Stmt := topS 46
theorem scCell : FnScope ["_law_script", "_law_k", "_law_state", "_law_number"] ["_law_script", "_law_k"] (defScope sCell) := ⟨rfl, rfl, rfl, by decide +kernel, rfl, by decide +kernel, by decide +kernel⟩
theorem scPool : FnScope ["_law_number", "_law_digits"] ["_law_number"] (defScope sPool) := ⟨rfl, rfl, rfl, by decide +kernel, rfl, by decide +kernel, by decide +kernel⟩
theorem scDraw : FnScope ["_law_pool_here", "_law_most", "_law_state", "_law_digit"] ["_law_pool_here", "_law_most"] (defScope sDraw) := ⟨rfl, rfl, rfl, by decide +kernel, rfl, by decide +kernel, by decide +kernel⟩
section
variable {P : Program} {w : World} {K : PySem.W.Frag} {mg : Str → Option Value} {base : Heap}
theorem ok_cell {f : Addr} {fd : FuncData} (F : Fun K "_law_cell" "_law_cell" sCell f fd) (ml : mg "len" = none) : FnOk P w K mg base CX0 1 f fd ["_law_script", "_law_k"] (spCell K) := by
  refine F.ok scCell (fun vs H Q E h => ?_) (fun cdv A outer s H vs Q E hr h => ?_)
  · obtain ⟨a, ns, k, rfl, _⟩ := h
    rfl
  · obtain ⟨a, ns, k, rfl, hS, hk, q⟩ := h
    refine ⟨_, pss_cons (ps_if (pt_cmpR op_lt (pv 1) (pe_callB call_len_seq (by rfl) ml PySem.boot_len (pa_cons (pv 0) pa_nil)) (nomark _))
        (pss_one (ps_ret (pe_ix ix_list (pv 0) (pv 1) (fun _ _ => rfl)))) pss_nil)
      (pss_cons (ps_set (i := 2) scCell.nd rfl (.inl rfl) (pe_op op_mod (pe_op op_mul pe_int (pe_op op_add (pe_op op_add (pe_op op_mul (pv 1) (pv 1)) (pe_op op_mul pe_int (pv 1))) pe_int)) pe_int))
      (pss_cons (ps_for PassesOwn.never rfl (pi_list (pe_slice sl_list (pv 0) po_none (po_some pe_int))) (pg_name (i := 3) scCell.nd rfl (.inl rfl))
        (pss_one (ps_set (i := 2) scCell.nd rfl (.inl rfl) (pe_op op_mod (pe_op op_add (pe_op op_mul (pv 2) pe_int) (pv 3)) pe_int))))
      (pss_one (ps_ret (pv 2))))), ?_⟩
    refine ⟨_, rfl, _, rfl, a, ns.map V.int, rfl, .inl hS, _, _, rfl, rfl, _, rfl, ite2 (fun e => ?_) (fun e => ?_)⟩
    · have e0 : (k : Int) < ((ns.map V.int).length : Int) := of_decide_eq_true e
      rw [List.length_map] at e0
      have hj : k < ns.length := by omega
      refine ⟨_, rfl, _, rfl, a, _, _, .int ns[k], rfl, rfl, hS, atI_nat (j := k) ?_, q H _ (Same.refl H)⟩
      rw [List.getElem?_map, List.getElem?_eq_getElem hj]
      rfl
    · refine ⟨_, rfl, _, rfl, _, _, rfl, rfl, .inl ⟨by omega, by omega⟩, _, rfl, _, _, rfl, rfl, .inl ⟨by omega, by omega⟩, _, _, rfl, rfl, _, _, rfl, rfl, _, _, rfl, rfl, .inl ⟨by omega, by omega⟩, _, _, rfl, rfl, by show (0 : Int) < 2147483249; decide, ?_⟩
      refine ⟨_, rfl, 3, rfl, a, _, rfl, hS, fun c nc => ?_⟩
      have s1 := same_new (o := .lst (cutV (ns.map V.int) none (some 3))) nc
      have hc : SqL K (upd H c (.lst (cutV (ns.map V.int) none (some 3)))) c (cutV (ns.map V.int) none (some 3)) := SqL.of upd_same
      refine ⟨c, rfl, ⟨_, hc⟩, for_list (K := K) (a := c) (xs := cutV (ns.map V.int) none (some 3)) (fun i σ H' => ∃ (st : Int) (y : Option V), σ = [some (.ref a), some (.int k), some (.int st), y] ∧ 0 ≤ st ∧ st < 2147483249 ∧ H' = upd H c (.lst (cutV (ns.map V.int) none (some 3)))) ?_ ?_ ?_ ?_⟩
      · have b := int_mod_bd (60013 * ((k : Int) * k + 5 * k + 3)) (m := 2147483249) (by decide)
        exact ⟨_, none, rfl, b.1, b.2, rfl⟩
      · rintro i σ H' _ ⟨st, y, rfl, _, _, rfl⟩
        exact hc
      · rintro i x σ H' hi ⟨st, y, rfl, h0, h1, rfl⟩
        have hm : x ∈ ns.map V.int := by
          have := List.mem_of_getElem? hi
          unfold cutV at this
          exact List.mem_of_mem_drop (List.mem_of_mem_take this)
        obtain ⟨n, _, rfl⟩ := List.mem_map.mp hm
        have b := int_mod_bd (st * 41221 + n) (m := 2147483249) (by decide)
        refine ⟨_, rfl, _, _, rfl, rfl, .inl ⟨by omega, by omega⟩, _, rfl, _, _, rfl, rfl, _, _, rfl, rfl, by show (0 : Int) < 2147483249; decide, ?_⟩
        exact ⟨_, some (.int n), rfl, b.1, b.2, rfl⟩
      · rintro σ H' ⟨st, y, rfl, h0, h1, rfl⟩
        exact ⟨_, rfl, q _ _ s1⟩
theorem ok_pool {f : Addr} {fd : FuncData} (F : Fun K "_law_pool" "_law_pool" sPool f fd) (ma : mg "abs" = none) : FnOk P w K mg base CX0 1 f fd ["_law_number"] spPool := by
  refine F.ok scPool (fun vs H Q E h => ?_) (fun cdv A outer s H vs Q E hr h => ?_)
  · obtain ⟨n, rfl, _⟩ := h
    rfl
  · obtain ⟨n, rfl, q⟩ := h
    refine ⟨_, pss_cons (ps_set (i := 1) scPool.nd rfl (.inl rfl) (pe_ifExp (PW.pt (pw_or (pt_cmpR op_lt (pv 0) pe_int (nomark _)) (pw_or1 (pt_cmpR op_ge (pv 0) (pe_op op_pow pe_int pe_int) (nomark _)))))
        (pe_callB call_abs (by rfl) ma (by decide +kernel) (pa_cons (pv 0) pa_nil)) pe_int))
      (pss_one (ps_ret (pe_lst (pa_cons (pe_op op_mod (pv 0) pe_int) (pa_cons (pv 1) (pa_cons pe_int pa_nil)))))), ?_⟩
    have b := int_mod_bd n (m := 2147483249) (by decide)
    have fin : ∀ d : Int, 0 ≤ d → tRet (tLst (tCons (tOp (rI (fun _ j => 0 < j) fun i j => .int (i % j)) (tVar 0) (tC (.int 2147483249))) (tCons (tVar 1) (tCons (tC (.int 0)) tNil)))) { nx := fun _ H' => Q .non H', rt := Q } [some (.int n), some (.int d)] H := fun d hd => by
      refine ⟨_, rfl, _, _, rfl, rfl, by show (0 : Int) < 2147483249; decide, _, rfl, (by show 3 ≤ sizeLine; decide), fun p np => ?_⟩
      exact q _ _ (same_new np) np ⟨_, _, _, upd_same, b.1, b.2, hd⟩
    refine ⟨_, rfl, _, _, rfl, rfl, _, rfl, ite2 (fun e => ?_) (fun e => ?_)⟩
    · have e0 : n < 0 := of_decide_eq_true e
      refine iteT ⟨_, rfl, n, rfl, ?_⟩
      rw [if_pos e0]
      exact fin _ (by omega)
    · refine ⟨_, rfl, _, _, rfl, rfl, ⟨by decide, by decide, by decide⟩, _, _, rfl, rfl, _, rfl, ite2 (fun e1 => ?_) (fun e1 => ?_)⟩
      · have e0 : ¬ n < 0 := fun z => e (decide_eq_true z)
        refine ⟨_, rfl, n, rfl, ?_⟩
        rw [if_neg e0]
        exact fin _ (by omega)
      · exact fin _ (by omega)
theorem ok_draw {f : Addr} {fd : FuncData} (F : Fun K "_law_draw" "_law_draw" sDraw f fd) (md : mg "divmod" = none) : FnOk P w K mg base CX0 1 f fd ["_law_pool_here", "_law_most"] spDraw := by
  refine F.ok scDraw (fun vs H Q E h => ?_) (fun cdv A outer s H vs Q E hr h => ?_)
  · obtain ⟨p, m, rfl, _⟩ := h
    rfl
  · obtain ⟨p, m, rfl, ⟨a, b, c, hp, a0, a1, b0⟩, m0, m1, q⟩ := h
    refine ⟨_, pss_cons (ps_asg (pe_op op_add (pe_ix ix_list (pv 0) pe_int (fun _ _ => rfl)) pe_int) (pg_sub (pv 0) pe_int set_list))
      (pss_cons (ps_set (i := 2) scDraw.nd rfl (.inl rfl) (pe_ix ix_list (pv 0) pe_int (fun _ _ => rfl)))
      (pss_cons (ps_asg (pe_op op_mod (pe_op op_add (pe_op op_mul (pv 2) (pe_op op_add (pe_op op_mod (pv 2) pe_int) pe_int)) (pe_op op_mul pe_int (pe_ix ix_list (pv 0) pe_int (fun _ _ => rfl)))) pe_int) (pg_sub (pv 0) pe_int set_list))
      (pss_cons (ps_if (pt_cmpR op_gt (pe_ix ix_list (pv 0) pe_int (fun _ _ => rfl)) pe_int (nomark _))
        (pss_cons (ps_asg (pe_callB call_divmod (by rfl) md (by decide +kernel) (pa_cons (pe_ix ix_list (pv 0) pe_int (fun _ _ => rfl)) (pa_cons (pv 1) pa_nil)))
            (pg_tup (by rfl) (pgs_cons (pg_sub (pv 0) pe_int set_list) (pgs_cons (pg_name (i := 3) scDraw.nd rfl (.inl rfl)) pgs_nil))))
          (pss_one (ps_ret (pv 3)))) pss_nil)
      (pss_one (ps_ret (pe_op op_mod (pe_op op_fdiv (pe_ix ix_list (pv 0) pe_int (fun _ _ => rfl)) pe_int) (pv 1))))))), ?_⟩
    -- pool[2] = pool[2] + 1
    refine ⟨_, rfl, p, _, 2, .int c, rfl, rfl, SqL.of hp, rfl, _, _, rfl, rfl, _, rfl, p, _, 2, 2, rfl, rfl, hp, rfl, ?_⟩
    refine ⟨_, rfl, p, _, 0, .int a, rfl, rfl, SqL.of upd_same, rfl, ?_⟩
    have bm := int_mod_bd a (m := 50021) (by decide)
    refine ⟨_, rfl, _, rfl, _, _, rfl, rfl, by show (0 : Int) < 50021; decide, _, _, rfl, rfl, _, _, rfl, rfl, .inl ⟨by omega, by omega⟩, _, rfl, p, _, 2, .int (c + 1), rfl, rfl, SqL.of upd_same, rfl, _, _, rfl, rfl, .inl ⟨by decide, by decide⟩, _, _, rfl, rfl, _, _, rfl, rfl, by show (0 : Int) < 2147483249; decide, ?_⟩
    refine ⟨_, rfl, p, _, 0, 0, rfl, rfl, upd_same, rfl, ?_⟩
    have bz := int_mod_bd (a * (a % 50021 + 30011) + 80021 * (c + 1)) (m := 2147483249) (by decide)
    rw [upd_upd]
    show _
    refine ⟨_, rfl, p, _, 1, .int b, rfl, rfl, SqL.of upd_same, rfl, _, _, rfl, rfl, _, rfl, ite2 (fun e => ?_) (fun e => ?_)⟩
    · refine ⟨_, rfl, p, _, 1, .int b, rfl, rfl, SqL.of upd_same, rfl, _, rfl, b, m, rfl, ⟨m0, m1⟩, fun t nt => ?_⟩
      have npt : p ≠ t := ne_of_none upd_same nt
      refine ⟨t, _, rfl, SqT.of upd_same, rfl, _, _, rfl, ?_⟩
      refine ⟨_, rfl, p, _, 1, 1, rfl, rfl, by rw [upd_ne npt]; exact upd_same, rfl, _, [], rfl, rfl, ?_⟩
      have br := int_mod_bd b m0
      refine ⟨_, rfl, q _ _ (fun x o n e => ?_) ⟨_, _, _, upd_same, bz.1, bz.2, Int.ediv_nonneg b0 (by omega)⟩ br.1 br.2⟩
      rw [upd_ne n, upd_ne, upd_ne n]
      · exact e
      · intro z
        rw [z] at e
        rw [upd_ne (Ne.symm npt)] at nt
        rw [nt] at e
        cases e
    · refine ⟨_, rfl, p, _, 0, .int ((a * (a % 50021 + 30011) + 80021 * (c + 1)) % 2147483249), rfl, rfl, SqL.of upd_same, rfl, _, _, rfl, rfl, ⟨by decide, by decide⟩, _, rfl, _, _, rfl, rfl, m0, ?_⟩
      have br := int_mod_bd ((a * (a % 50021 + 30011) + 80021 * (c + 1)) % 2147483249 / 64) m0
      exact q _ _ keepX_upd ⟨_, _, _, upd_same, bz.1, bz.2, b0⟩ br.1 br.2
end
end KS
namespace KS
open PySem PySem.Spec PyProof.Rows L2 RZ TL
def spPaired (K : PySem.W.Frag) : Sp := fun xs H Q _ => ∃ (L : Addr) (ps : List V) (zs : List (Cell × Int)), xs = [.ref L] ∧ H L = some (.lst ps) ∧ PrsT H ps zs ∧ (zs.map (·.1)).Nodup ∧ zs.length ≤ 24 ∧
  ∀ H' T a t (zs' : List (Cell × Int)), Same H H' → zs'.Perm zs → Asc zs' → H' T = some (.tup [.ref a, .ref t]) → PlanT K H' a (zs'.map (·.1)) → H' t = some (.tup ((zs'.map (·.2)).map V.int)) → Q (.ref T) H'
abbrev sPaired : Stmt := topS 54
abbrev nPaired : List Str := ["_law_pairs", "_law_found", "_law_pair"]
theorem scPaired : FnScope nPaired ["_law_pairs"] (defScope sPaired) := ⟨rfl, rfl, rfl, by decide +kernel, rfl, by decide +kernel, by decide +kernel⟩
section
variable {P : Program} {w : World} {K : PySem.W.Frag} {mg : Str → Option Value} {base : Heap}
theorem ok_paired {f : Addr} {fd : FuncData} (F : Fun K "_law_paired" "_law_paired" sPaired f fd) (ms : mg "sorted" = none) (mt : mg "tuple" = none) : FnOk P w K mg base CX0 1 f fd ["_law_pairs"] (spPaired K) := by
  refine F.ok scPaired (fun vs H Q E h => ?_) (fun cdv A outer s H vs Q E hr h => ?_)
  · obtain ⟨L, ps, zs, rfl, _⟩ := h
    rfl
  · obtain ⟨L, ps, zs, rfl, hL, hp, ndc, hl, q⟩ := h
    have nd := scPaired.nd
    have hu : (A.deeper (envOfC "_law_paired" (defScope sPaired) s.heap.objs.size f cdv)).units + 65 < cLine := by
      have := hr.un
      omega
    refine ⟨_, pss_cons (ps_set (i := 1) nd rfl (.inl rfl) (pe_callB (cr_sortedD hu) (by rfl) ms (by decide +kernel) (pa_cons (pv 0) pa_nil)))
      (pss_one (ps_ret (pe_tup (pa_cons (pe_callTy call_tuple_of (by rfl) mt (by decide +kernel) (pa_cons
          (pe_lc (own := [("_law_pair", 2)]) (g := gName 2) (tt := tYes) rfl nd (pi_list (pv 1)) (blkOk_by (N := nPaired) (sc := defScope sPaired) (by decide +kernel)) (fun _ _ _ _ _ => pg_name (i := 2) nd rfl (Or.inl rfl)) (fun _ _ _ _ _ => pts_nil)
            (fun _ _ _ _ _ => pe_ix (r := rIxT K) ix_tup (pv 2) pe_int (fun _ _ => rfl))) pa_nil))
        (pa_cons (pe_callTy call_tuple_of (by rfl) mt (by decide +kernel) (pa_cons
          (pe_lc (own := [("_law_pair", 2)]) (g := gName 2) (tt := tYes) rfl nd (pi_list (pv 1)) (blkOk_by (N := nPaired) (sc := defScope sPaired) (by decide +kernel)) (fun _ _ _ _ _ => pg_name (i := 2) nd rfl (Or.inl rfl)) (fun _ _ _ _ _ => pts_nil)
            (fun _ _ _ _ _ => pe_ix (r := rIxT K) ix_tup (pv 2) pe_int (fun _ _ => rfl))) pa_nil)) pa_nil))))), ?_⟩
    have len := Paired.length hp
    have e1 : (ps.zip zs).map (·.1) = ps := by
      rw [← List.unzip_fst, List.unzip_zip len]
    have e2 : (ps.zip zs).map (·.2) = zs := by
      rw [← List.unzip_snd, List.unzip_zip len]
    have mem : ∀ b ∈ ps.zip zs, PrT H b.1 b.2 := by
      clear e1 e2 len q ndc hl hL
      induction hp with
      | nil => intro b hb; cases hb
      | cons h1 _ ih =>
        intro b hb
        rcases List.mem_cons.mp hb with e | hb
        · rw [e]
          exact h1
        · exact ih b hb
    obtain ⟨al, so⟩ := prs_sortable (fun b : V × (Cell × Int) => b.2) (ps.zip zs)
    refine ⟨_, rfl, L, V × (Cell × Int), ps.zip zs, (·.1), (fun b => prD b.2), rfl, by rw [e1]; exact SqL.of hL, fun b hb => ⟨?_, (mem b hb).dp, prD_depth _⟩, al, so, fun p np => ?_⟩
    · obtain ⟨t, _, e, _⟩ := mem b hb
      exact ⟨t, e⟩
    obtain ⟨pm, as⟩ := sort_prs (fun b : V × (Cell × Int) => b.2) (ps.zip zs) (by rw [e2]; exact ndc)
    have hb' : ∀ b ∈ (ps.zip zs).mergeSort (PySem.W.dataLe false (fun b => prD b.2)), PrT H b.1 b.2 := fun b hb => mem b ((List.mergeSort_perm _ _).mem_iff.mp hb)
    generalize (ps.zip zs).mergeSort (PySem.W.dataLe false (fun b => prD b.2)) = bs at pm as hb' ⊢
    rw [e2] at pm
    have hy : PrsT H (bs.map (·.1)) (bs.map (·.2)) := by
      clear pm as
      induction bs with
      | nil => exact .nil
      | cons b bs ih => exact .cons (hb' b (List.mem_cons_self ..)) (ih fun c hc => hb' c (List.mem_cons_of_mem _ hc))
    have sp := same_new (o := .lst (bs.map (·.1))) np
    have hP : upd H p (.lst (bs.map (·.1))) p = some (.lst (bs.map (·.1))) := upd_same
    have hy := hy.ktt (KTt.of_same sp)
    generalize bs.map (·.1) = ys at hy hP sp ⊢
    generalize bs.map (·.2) = zs' at hy pm as
    generalize upd H p (.lst ys) = H1 at hy hP sp ⊢
    have yl : ys.length ≤ 24 := by
      rw [Paired.length hy, pm.length_eq]
      exact hl
    -- the cells
    refine ⟨_, rfl, p, rfl, ⟨_, SqL.of hP⟩, fun D nD => ?_⟩
    have nPD : p ≠ D := ne_of_none hP nD
    refine lc_list (K := K) (a := p) (xs := ys) (fun j G => ∃ acc, G D = some (.lst acc) ∧ CellsT G acc ((zs'.map (·.1)).take j) ∧ (∀ b o, b ≠ D → H1 b = some o → G b = some o)) ?_ ?_ ?_ ?_
    · exact ⟨[], upd_same, .nil, fun b o n e => by rw [upd_ne n]; exact e⟩
    · rintro j G _ ⟨acc, a1, a2, a3⟩
      exact SqL.of (a3 _ _ nPD hP)
    · rintro j x G hj ⟨acc, a1, a2, a3⟩
      have sG : Same H1 G := fun b o e => a3 b o (ne_of_none e nD) e
      obtain ⟨z, hz, t, c, rfl, h1, h2⟩ := paired_get hy hj
      have jl := (List.getElem?_eq_some_iff.mp hj).1
      have al : acc.length ≤ 24 := by
        rw [Paired.length a2, List.length_take]
        omega
      refine ⟨rfl, _, rfl, t, _, 0, .ref c, rfl, rfl, SqT.of (sG _ _ h1), rfl, _, a1, small64 (by omega), acc ++ [.ref c], upd_same, ?_, fun b o n e => by rw [upd_ne n]; exact a3 b o n e⟩
      rw [List.take_add_one, List.getElem?_map, hz]
      exact cellsT_kt (KTt.upd a1) (paired_append a2 (.cons ⟨c, rfl, sG _ _ h2⟩ .nil))
    rintro G ⟨acc, a1, a2, a3⟩
    have sG : Same H1 G := fun b o e => a3 b o (ne_of_none e nD) e
    rw [List.take_of_length_le (by rw [List.length_map, Paired.length hy]; exact Nat.le_refl _)] at a2
    refine ⟨D, _, rfl, .inl ⟨SqL.of a1, fun a na => ?_⟩⟩
    have sa := same_new (o := .tup acc) na
    have ha : PlanT K (upd G a (.tup acc)) a (zs'.map (·.1)) := ⟨acc, SqT.of upd_same, cellsT_kt (KTt.of_same sa) a2⟩
    have s12 := sG.trans sa
    have hP2 := s12 _ _ hP
    have hy2 := hy.ktt (KTt.of_same s12)
    generalize upd G a (.tup acc) = H2 at ha s12 hP2 hy2
    -- the values
    refine ⟨_, rfl, p, rfl, ⟨_, SqL.of hP2⟩, fun D2 nD2 => ?_⟩
    have nPD2 : p ≠ D2 := ne_of_none hP2 nD2
    refine lc_list (K := K) (a := p) (xs := ys) (fun j G => G D2 = some (.lst (((zs'.map (·.2)).take j).map V.int)) ∧ (∀ b o, b ≠ D2 → H2 b = some o → G b = some o)) ?_ ?_ ?_ ?_
    · exact ⟨upd_same, fun b o n e => by rw [upd_ne n]; exact e⟩
    · rintro j G _ ⟨a1, a3⟩
      exact SqL.of (a3 _ _ nPD2 hP2)
    · rintro j x G hj ⟨a1, a3⟩
      have sG : Same H2 G := fun b o e => a3 b o (ne_of_none e nD2) e
      obtain ⟨z, hz, t, c, rfl, h1, h2⟩ := paired_get hy2 hj
      have jl := (List.getElem?_eq_some_iff.mp hj).1
      refine ⟨rfl, _, rfl, t, _, 1, .int z.2, rfl, rfl, SqT.of (sG _ _ h1), rfl, _, a1, ?_, ?_, fun b o n e => by rw [upd_ne n]; exact a3 b o n e⟩
      · rw [List.length_map, List.length_take]
        exact small64 (by omega)
      · rw [upd_same, List.take_add_one, List.getElem?_map, hz, List.map_append]
        rfl
    rintro G2 ⟨b1, b3⟩
    have sG2 : Same H2 G2 := fun b o e => b3 b o (ne_of_none e nD2) e
    rw [List.take_of_length_le (by rw [List.length_map, Paired.length hy]; exact Nat.le_refl _)] at b1
    refine ⟨D2, _, rfl, .inl ⟨SqL.of b1, fun t nt => ?_⟩⟩
    have st := same_new (o := .tup ((zs'.map (·.2)).map V.int)) nt
    refine ⟨by show 2 ≤ sizeLine; decide, fun T nT => ?_⟩
    have sT := same_new (o := .tup [.ref a, .ref t]) nT
    have sA := (sG2.trans st).trans sT
    exact q _ T a t zs' ((sp.trans s12).trans sA) pm as upd_same (ha.same sA) (sT _ _ upd_same)
end
end KS
namespace KS
open PySem PySem.Spec PyProof.Rows L2
open PySem.W (AlikeAll dataLt minD min_list_default readsAll_atA reads_keeps alike_unique)
/-! ### x not in t -/
def rNotInT (K : PySem.W.Frag) : V → V → Hp → VK → Prop := fun x y H Q => ∃ d ds, Dp K H x d ∧ Dp K H y (.tuple ds) ∧ SeqAt.shaped d = true ∧ SeqAt.shaped (.tuple ds) = true ∧ Q (.bl (!ds.any fun z => PyData.eqv z d)) H
theorem op_notInT {X : Cx} (hu : X.A.units + 65 < cLine) : OpR X (compareOp .NotIn) (rNotInT X.K) := by
  intro pins s σ H x y v u Q I rx ry h
  obtain ⟨d, ds, hd, he, sd, se, q⟩ := h
  obtain ⟨as, r1⟩ := Dp.reads I d x v hd rx
  obtain ⟨bs, r2⟩ := Dp.reads I (.tuple ds) y u he ry
  refine SeqAt.notIn_tuple_reads r2 r1 (SeqAt.canLay_of_shaped se) (SeqAt.canLay_of_shaped sd) ?_ ⟨.bl _, H, I, rfl, q⟩
  have := SeqAt.depth_of_shaped sd
  have h2 : min (PyData.depthAll ds) d.depth ≤ d.depth := Nat.min_le_right _ _
  omega
/-! ### repr(x), x None or plain data -/
def rReprN (K : PySem.W.Frag) : List V → Hp → VK → Prop := fun xs H Q => (xs = [.non] ∧ Q (.str "None") H) ∨ ∃ (a : Addr) (d : PyData), xs = [.ref a] ∧ Dp K H (.ref a) d ∧ d.showable = true ∧ d.hasDict = false ∧ d.shown.length ≤ sizeLine ∧ d.depth ≤ 64 ∧ Q (.str d.shown) H
theorem call_reprN {X : Cx} (hgd : X.A.guards = some []) (hu : X.A.units + 100 < cLine) : CallR X (.builtin "repr") (rReprN X.K) := by
  intro pins s σ H xs us Q I r h
  rcases h with ⟨rfl, q⟩ | h
  · cases r with
    | cons r rr =>
      cases rr
      cases r
      exact P.repr_of_none ⟨.str "None", H, I.tok _, ⟨_, rfl⟩, q⟩
  · exact call_reprD hgd hu pins s σ H xs us Q I r h
/-! ### min(l, default=None), l a list of plain data, whose first is least -/
def rMinF (K : PySem.W.Frag) : List V → List V → Hp → VK → Prop := fun xs zs H Q => ∃ (l : Addr) (ys : List V) (ds : List PyData), xs = [.ref l] ∧ zs = [.non] ∧ SqL K H l ys ∧ DpAll K H ys ds ∧ AlikeAll ds ∧ PyData.depthAll ds ≤ 64 ∧
  ds.Pairwise (fun a b => dataLt b a = false) ∧ ds.Nodup ∧ (ds = [] → Q .non H) ∧ (∀ y d, ys.head? = some y → ds.head? = some d → Q y H)
theorem minD_first {x : PyData} : ∀ {xs : List PyData}, (∀ y ∈ xs, dataLt y x = false) → minD x xs = x
  | [], _ => rfl
  | y :: ys, h => by
    show ys.foldl _ (if dataLt y x then y else x) = x
    rw [h y List.mem_cons_self]
    exact minD_first fun z hz => h z (List.mem_cons_of_mem _ hz)
theorem cr_minF {X : Cx} (hc : X.calm = true) (hu : X.A.units + 100 < cLine) : CallRK X (.builtin "min") [Str.ofString "default"] (rMinF X.K) := by
  intro pins s σ H xs zs us ws Q I rx rz h
  obtain ⟨l, ys, ds, rfl, rfl, hl, hd, al, dp, pw, nd, q0, q1⟩ := h
  rw [Vals.ref1 rx]
  cases rz with
  | cons r rr =>
    cases rr
    cases r
    obtain ⟨its, rv, p, _⟩ := I.list hl
    obtain ⟨as, hr⟩ := Dp.readsAll I ds ys its hd rv
    refine min_list_default (I.ok.hd hc) p.isList (by simpa using hr) al (by omega) (fun e h' tk hk => ⟨.non, H, I.kept hk, rfl, q0 e⟩) fun y zs i v h' tk bs e hv rd hk => ?_
    subst e
    have hv' : its[i]? = some v := by simpa using hv
    have hm : minD y zs = y := minD_first fun z hz => (List.pairwise_cons.mp pw).1 z hz
    rw [hm] at rd
    -- the item is the first one
    obtain ⟨bs2, r2, hlt, hmem, _⟩ := readsAll_atA (vs := its.toArray) (xs := y :: zs) (by simpa using hr) i v (by simpa using hv)
    have r2' := reads_keeps hk r2
    have eq : (y :: zs).getD i .none = y := alike_unique _ _ v _ _ (al.1 _ hmem _ List.mem_cons_self) r2' rd
    have i0 : i = 0 := by
      cases i with
      | zero => rfl
      | succ j =>
        have hj : (y :: zs).getD (j + 1) .none = zs.getD j .none := rfl
        rw [hj] at eq
        have hjl : j < zs.length := by simpa using hlt
        have em : zs.getD j .none ∈ zs := by
          rw [List.getD_eq_getElem?_getD, List.getElem?_eq_getElem hjl]
          exact List.getElem_mem hjl
        rw [eq] at em
        exact absurd em (List.nodup_cons.mp nd).1
    subst i0
    cases rv with
    | nil => cases hv'
    | cons ra rb =>
      have ev := Option.some.inj hv'
      subst ev
      exact ⟨_, H, I.kept hk, ra, q1 _ y rfl rfl⟩
end KS
namespace KS
open PySem PySem.Spec PyProof.Rows L2
section
variable {K : PySem.W.Frag} {σ : L2.St} {H : Hp} {Q : VK} {ta : TA}
theorem catA_ok2 {a b : Addr} {xs ys : List V} (ha : SqT K H a xs) (hb : SqT K H b ys) (hl : xs.length + ys.length ≤ 64)
    (k : ∀ H' u, Same H H' → SqT K H' u (xs ++ ys) → Q (.ref u) H') : rCatA K (.ref a) (.ref b) H Q := by
  refine ⟨a, b, xs, ys, rfl, rfl, ha, hb, Nat.le_of_lt (small64 hl), fun e => ?_, fun _ e => ?_, fun _ _ p np => ?_⟩
  · subst e
    exact k H b (Same.refl _) hb
  · subst e
    exact k H a (Same.refl _) (by rw [List.append_nil]; exact ha)
  · exact k _ p (same_new np) (SqT.of upd_same)
theorem cut_to2 {xs : List V} {k : Nat} (h : k ≤ xs.length) : cutV xs none (some (k : Int)) = xs.take k := by
  unfold cutV
  rw [HT.sIx_none, HT.sIx_nat, Nat.min_eq_left h]
  simp
theorem cut_from2 {xs : List V} {k : Nat} (h : k ≤ xs.length) : cutV xs (some (k : Int)) none = xs.drop k := by
  unfold cutV
  rw [HT.sIx_none, HT.sIx_nat, Nat.min_eq_left h]
  exact List.take_of_length_le (by rw [List.length_drop]; exact Nat.le_refl _)
theorem slTo_ok2 {a : Addr} {xs : List V} {n : Nat} (ha : SqT K H a xs) (hn : n ≤ xs.length) (k : ∀ H' u, Same H H' → SqT K H' u (xs.take n) → Q (.ref u) H') : rSlA K (.ref a) none (some (n : Int)) H Q := by
  refine ⟨a, xs, rfl, ha, fun z => ?_, fun _ p np => ?_⟩
  · obtain ⟨_, z2⟩ := z
    rw [show HT.sIx xs.length xs.length (some (n : Int)) = min n xs.length from HT.sIx_nat _ _ n] at z2
    have e : n = xs.length := by omega
    refine k H a (Same.refl _) ?_
    rw [e, List.take_length]
    exact ha
  · refine k _ p (same_new np) (SqT.of ?_)
    rw [upd_same, cut_to2 hn]
theorem slFrom_ok2 {a : Addr} {xs : List V} {n : Nat} (ha : SqT K H a xs) (hn : n ≤ xs.length) (k : ∀ H' u, Same H H' → SqT K H' u (xs.drop n) → Q (.ref u) H') : rSlA K (.ref a) (some (n : Int)) none H Q := by
  refine ⟨a, xs, rfl, ha, fun z => ?_, fun _ p np => ?_⟩
  · obtain ⟨z1, _⟩ := z
    rw [show HT.sIx xs.length 0 (some (n : Int)) = min n xs.length from HT.sIx_nat _ _ n] at z1
    refine k H a (Same.refl _) ?_
    rcases Nat.eq_zero_or_pos n with e | e
    · subst e
      exact ha
    · have e2 : xs.length = 0 := by omega
      have e3 := List.eq_nil_of_length_eq_zero e2
      subst e3
      simpa using ha
  · refine k _ p (same_new np) (SqT.of ?_)
    rw [upd_same, cut_from2 hn]
end
end KS
namespace KS
open PySem PySem.Spec PyProof.Rows L2
/-! ### t[::-1], t a tuple -/
section
variable {prog : Program} {w : World} {A : Around} {E : Value → Shared → Prop} {s : Shared}
theorem adjust_rev (n : Nat) : Builtin.Slice.sliceAdjust none none (-1) (n : Int) = ((n : Int) - 1, -1) := by
  first
  | rfl
  | simp [Builtin.Slice.sliceAdjust]
theorem places_rev (n : Nat) : Builtin.Slice.slicePlaces ((n : Int) - 1) (-1) (-1) = n := by
  unfold Builtin.Slice.slicePlaces
  by_cases h : n = 0
  · subst h
    decide
  · simp
    omega
theorem applied_rev {sl : Addr} {vl vu vs : Value} {n : Nat} {Q : Int × Int × Nat → Shared → Prop} (hs : s.heap.IsSliceOf sl vl vu vs) (pl : IsPart vl none) (pu : IsPart vu none) (ps : IsPart vs (some (-1)))
    (h : Q ((n : Int) - 1, -1, n) s) : wpAny (model prog w) A (Builtin.Slice.sliceApplied (.ref sl) (pure (n : Int))) Q E s := by
  obtain ⟨os, hos, hcs, hds⟩ := id hs
  unfold Builtin.Slice.sliceApplied Builtin.Slice.sliceFields
  refine wpAny_bind (wpAny_bind (wpAny_field hos hds (x := vl) rfl
    (wpAny_bind (wpAny_field hos hds (x := vu) rfl (wpAny_bind (wpAny_field hos hds (x := vs) rfl (wpAny_pure ?_)))))))
  refine wpAny_bind (HT.slicePart_ ps ?_)
  show wpAny _ _ (if ((-1 : Int) == 0) = true then _ else _) _ _ s
  rw [if_neg (by decide)]
  refine wpAny_bind (HT.slicePart_ pl (wpAny_bind (HT.slicePart_ pu (wpAny_bind (wpAny_pure ?_)))))
  show wpAny _ _ (match Builtin.Slice.sliceAdjust none none (-1) (n : Int) with | (lo, hi) => pure (lo, (-1 : Int), Builtin.Slice.slicePlaces lo hi (-1))) _ _ s
  rw [adjust_rev n]
  show wpAny _ _ (pure ((n : Int) - 1, (-1 : Int), Builtin.Slice.slicePlaces ((n : Int) - 1) (-1) (-1))) _ _ s
  rw [places_rev]
  exact wpAny_pure h
theorem pick_rev (xs : Array Value) : ((List.range xs.size).filterMap fun (k : Nat) => xs[(((xs.size : Int) - 1) + (k : Int) * (-1)).toNat]?).toArray = xs.toList.reverse.toArray := by
  have e : (fun (k : Nat) => xs[(((xs.size : Int) - 1) + (k : Int) * (-1)).toNat]?) = (xs[·]?) ∘ fun k => xs.size - 1 - k := by
    funext k
    show xs[(((xs.size : Int) - 1) + (k : Int) * (-1)).toNat]? = xs[xs.size - 1 - k]?
    have z : (((xs.size : Int) - 1) + (k : Int) * (-1)).toNat = xs.size - 1 - k := by omega
    rw [z]
  rw [e, ← List.filterMap_map, PySem.W.krv_range, List.filterMap_reverse, PySem.W.krv_all]
theorem getItem_tuple_rev {t sl : Addr} {items : Array Value} {vl vu vs : Value} {Q : Value → Shared → Prop} (ht : IsTup s.heap t items) (hs : s.heap.IsSliceOf sl vl vu vs) (pl : IsPart vl none) (pu : IsPart vu none)
    (ps : IsPart vs (some (-1))) (h : Q (.ref s.heap.objs.size) { s with heap := s.heap.push { cls := .type "tuple", data := .seq items.toList.reverse.toArray } }) (hsz : items.size ≤ sizeLine) :
    wpAny (model prog w) A (getItem (.ref t) (.ref sl)) Q E s := by
  have htake : sizeOk (.seq items.toList.reverse.toArray) := by
    show items.toList.reverse.toArray.size ≤ sizeLine
    rw [List.size_toArray, List.length_reverse, Array.length_toList]
    exact hsz
  obtain ⟨os, hos, hcs, hds⟩ := id hs
  have hTs : s.TypeIs (.ref sl) "slice" := ⟨os, hos, hcs⟩
  unfold getItem
  try with_reducible refine wpAny_holding ?_
  first | refine wpAny_bind (wpAny_pure ?_) | skip
  refine wpAny_bind (wpAny_sequenceKey ht.typeIs (by decide) ?_)
  refine wpAny_bind (wpAny_callSpecial?_slot (name := Str.ofString "__getitem__") ht.typeIs PyProof.Rows.slot_tuple_getitem (wpAny_call_entry PyProof.Rows.slot_tuple_getitem ht.typeIs entry_tuple_getitem ?_ (args_tuple_getitem _ _)))
  show wpAny _ _ (Builtin.Tuple.tupleItemsOf (.ref t) >>= _) _ _ s
  refine wpAny_bind (tupleItemsOf_ ht (wpAny_bind (wpAny_typeOf hTs ?_)))
  rw [if_pos (by decide)]
  refine wpAny_bind (applied_rev hs pl pu ps ?_)
  have hno : ¬ ((((items.size : Int) - 1) == 0 && (-1 : Int) == 1 && items.size == items.size) = true) := by
    simp
  show wpAny _ _ (if (((items.size : Int) - 1) == 0 && (-1 : Int) == 1 && items.size == items.size) = true then _ else _) _ _ s
  rw [if_neg hno, pick_rev]
  first
    | exact wpAny_bind (m := Builtin.Tuple.tupleExact _) (wpAny_newObj_type (wpAny_pure ⟨_, rfl, wpAny_pure h⟩) htake)
    | exact wpAny_bind (m := Builtin.Tuple.tupleExact _) (wpAny_newObj_type (wpAny_bind (wpAny_pure (wpAny_pure ⟨_, rfl, wpAny_pure h⟩))) htake)
    | exact wpAny_bind (wpAny_bind (m := Builtin.Tuple.tupleExact _) (wpAny_newObj_type (wpAny_pure (wpAny_pure ⟨_, rfl, wpAny_pure h⟩)) htake))
    | exact wpAny_bind (wpAny_bind (m := Builtin.Tuple.tupleExact _) (wpAny_newObj_type (wpAny_pure ⟨_, rfl, wpAny_pure h⟩) htake))
end
def tRevT (K : PySem.W.Frag) (te : TE) : TE := fun σ H Q => te σ H fun x H1 => ∃ a xs, x = .ref a ∧ SqT K H1 a xs ∧ ∀ p, H1 p = none → Q (.ref p) (upd H1 p (.tup xs.reverse))
theorem pe_revT {X : Cx} {e : Expr} {te : TE} {k : Nat} {p1 p2 p3 pos : Pos} (he : PE X e te) :
    PE X (.Subscript e (.Slice none none (some (.UnaryOp .USub (.Constant (.int 1) k p1) p2)) p3) pos) (tRevT X.K te) := by
  refine ⟨fun pins s σ H Q I h => Subscript_ (thn (he.run pins s σ H _ I h) fun v s1 hh => ?_)⟩
  obtain ⟨x, H1, I1, r1, a, xs, ex, hx, q⟩ := hh
  subst ex
  cases r1
  have hst : PO X (some (.UnaryOp .USub (.Constant (.int 1) k p1) p2)) (tPart (tUn (rU fun i => .int (-i)) (tC (.int 1)))) := po_some (pe_un un_neg pe_int)
  refine wpAny_Slice (thn (po_none.run pins s1 σ H1 (fun o H2 => o = none ∧ H2 = H1) I1 ⟨rfl, rfl⟩) fun vl s2 h2 => ?_)
  obtain ⟨l, H2, I2, pl, el, e2⟩ := h2
  subst el e2
  refine thn (po_none.run pins s2 σ H2 (fun o H3 => o = none ∧ H3 = H2) I2 ⟨rfl, rfl⟩) fun vu s3 h3 => ?_
  obtain ⟨u, H3, I3, pu, eu, e3⟩ := h3
  subst eu e3
  refine thn (hst.run pins s3 σ H3 (fun o H4 => o = some (-1) ∧ H4 = H3) I3 ⟨1, rfl, -1, rfl, rfl, rfl⟩) fun vs s4 h4 => ?_
  obtain ⟨o, H4, I4, ps, eo, e4⟩ := h4
  subst eo e4
  have I5 : Inv X pins σ H4 { s4 with heap := s4.heap.push { cls := .type "slice", data := .fields #[vl, vu, vs] } } :=
    I4.kept (t' := s4.toks) fun b ob q => Heap.get?_push_of_some _ q
  obtain ⟨its, r, ht, hz⟩ := I5.tuple hx
  have hlen := r.length
  show wpAny (model X.prog X.w) X.A (subscriptTail e (.Slice none none (some (.UnaryOp .USub (.Constant (.int 1) k p1) p2)) p3) (.ref a) (.ref s4.heap.objs.size)) (EP X pins σ Q) X.xe
    { s4 with heap := s4.heap.push { cls := .type "slice", data := .fields #[vl, vu, vs] } }
  refine tail_any (ops := [.ref a, .ref s4.heap.objs.size]) ht.typeIs PyProof.Rows.slot_tuple_getitem.lookup ?_ (by with_unfolding_all rfl)
  refine getItem_tuple_rev ht (Heap.IsSliceOf.new _ vl vu vs) pl pu ps ?_ (by rw [List.size_toArray]; omega)
  refine ⟨.ref _, _, I5.laid (t' := s4.toks) (o := .tup xs.reverse) (fun b ob q => Heap.get?_push_of_some _ q) (Nat.le_refl _) ?_, rfl, q _ (I5.hok.fresh (Nat.le_refl _))⟩
  exact ⟨by rw [List.length_reverse]; exact hz, _, r.reverse, IsTup.new _ _⟩
end KS
namespace KS
open PySem PySem.Spec PyProof.Rows L2
/-! ### obstacles, as mathematics -/
abbrev Quad := Nat × Nat × Nat × Nat
def inC (cs : List Cell) (r c : Nat) : Bool := decide (((r : Int), (c : Int)) ∈ cs)
def obs (cs : List Cell) (u l a b : Nat) : Bool := inC cs u a && inC cs l b && (inC cs u b != inC cs l a)
def obsQ (cs : List Cell) (q : Quad) : Bool := obs cs q.1 q.2.1 q.2.2.1 q.2.2.2
def qlt (p q : Quad) : Prop := p.1 < q.1 ∨ (p.1 = q.1 ∧ (p.2.1 < q.2.1 ∨ (p.2.1 = q.2.1 ∧ (p.2.2.1 < q.2.2.1 ∨ (p.2.2.1 = q.2.2.1 ∧ p.2.2.2 < q.2.2.2)))))
def okQ (q : Quad) : Prop := q.1 < q.2.1 ∧ q.2.1 ≤ 7 ∧ q.2.2.1 < q.2.2.2 ∧ q.2.2.2 ≤ 7
theorem qlt_tri (p q : Quad) : qlt p q ∨ p = q ∨ qlt q p := by
  obtain ⟨p1, p2, p3, p4⟩ := p
  obtain ⟨q1, q2, q3, q4⟩ := q
  unfold qlt
  simp only [Prod.mk.injEq]
  omega
def NoObs (cs : List Cell) : Prop := ∀ q, okQ q → obsQ cs q = false
structure First (cs : List Cell) (q : Quad) : Prop where
  ok : okQ q
  hit : obsQ cs q = true
  none : ∀ p, okQ p → qlt p q → obsQ cs p = false
/-- what obstacle is to tell -/
def Ans (cs : List Cell) : Option Quad → Prop
  | none => NoObs cs
  | some q => First cs q
theorem Ans.uniq {cs : List Cell} : ∀ {o o' : Option Quad}, Ans cs o → Ans cs o' → o = o'
  | none, none, _, _ => rfl
  | none, some q, h, k => by
    have h1 := h q k.ok
    rw [k.hit] at h1
    cases h1
  | some q, none, h, k => by
    have h1 := k q h.ok
    rw [h.hit] at h1
    cases h1
  | some q, some q', h, k => by
    rcases qlt_tri q q' with e | e | e
    · have h1 := k.none q h.ok e
      rw [h.hit] at h1
      cases h1
    · rw [e]
    · have h1 := h.none q' k.ok e
      rw [k.hit] at h1
      cases h1
def quadV (q : Quad) : List V := [.int (q.1 : Nat), .int (q.2.1 : Nat), .int (q.2.2.1 : Nat), .int (q.2.2.2 : Nat)]
def quadD (q : Quad) : PyData := .tuple [.int (q.1 : Nat), .int (q.2.1 : Nat), .int (q.2.2.1 : Nat), .int (q.2.2.2 : Nat)]
def QuadAt (K : PySem.W.Frag) (H : Hp) (v : V) : Option Quad → Prop
  | none => v = .non
  | some q => ∃ t, v = .ref t ∧ SqT K H t (quadV q)
theorem QuadAt.kt {K : PySem.W.Frag} {H H' : Hp} {v : V} : ∀ {o : Option Quad}, KT K H H' → QuadAt K H v o → QuadAt K H' v o
  | none, _, h => h
  | some q, k, ⟨t, e, h⟩ => ⟨t, e, k _ _ h⟩
def spIsObs (K : PySem.W.Frag) : Sp := fun xs H Q _ => ∃ (p : Addr) (cs : List Cell) (u l a b : Nat), xs = [.ref p, .int (u : Nat), .int (l : Nat), .int (a : Nat), .int (b : Nat)] ∧ PlanAt K H p cs ∧ ∀ H', Same H H' → Q (.bl (obs cs u l a b)) H'
def spObs (K : PySem.W.Frag) : Sp := fun xs H Q _ => ∃ (p : Addr) (cs : List Cell), xs = [.ref p] ∧ PlanAt K H p cs ∧ Good cs ∧ cs.length ≤ 24 ∧ ∀ H' v o, Same H H' → Ans cs o → QuadAt K H' v o → Q v H'
def spKeeps (K : PySem.W.Frag) : Sp := fun xs H Q _ => ∃ (p : Addr) (cs : List Cell), xs = [.ref p] ∧ PlanAt K H p cs ∧ Good cs ∧ cs.length ≤ 24 ∧ ∀ H' o, Same H H' → Ans cs o → Q (.bl (decide (o = none))) H'
theorem dp_quad {K : PySem.W.Frag} {H : Hp} {t : Addr} {q : Quad} (h : SqT K H t (quadV q)) : Dp K H (.ref t) (quadD q) := .tup h (.cons (.int _) (.cons (.int _) (.cons (.int _) (.cons (.int _) .nil))))
theorem quad_small {q : Quad} (h : okQ q) : Shows (quadD q) 960 ∧ (quadD q).depth ≤ 64 := by
  obtain ⟨h1, h2, h3, h4⟩ := h
  have := shows_line (l := [(q.1 : Int), (q.2.1 : Int), (q.2.2.1 : Int), (q.2.2.2 : Int)]) (by
    intro x hx
    rcases (by simpa using hx : x = (q.1 : Int) ∨ x = (q.2.1 : Int) ∨ x = (q.2.2.1 : Int) ∨ x = (q.2.2.2 : Int)) with e | e | e | e <;> subst e <;> omega) (by show 4 ≤ 64; decide)
  exact ⟨this, by show (lineD [(q.1 : Int), (q.2.1 : Int), (q.2.2.1 : Int), (q.2.2.2 : Int)]).depth ≤ 64; rw [depth_line]; decide⟩
theorem in_cell {K : PySem.W.Frag} {H : Hp} {T p : Addr} {cs : List Cell} {r c : Nat} (hT : SqT K H T [.int (r : Nat), .int (c : Nat)]) (hp : PlanAt K H p cs) {Q : VK} (k : Q (.bl (inC cs r c)) H) : rInT K (.ref T) (.ref p) H Q := by
  refine ⟨cellD ((r : Int), (c : Int)), cs.map cellD, dp_cell hT, hp.dp, cell_shaped _, plan_shaped _, ?_⟩
  rw [in_plan]
  exact k
theorem notin_cell {K : PySem.W.Frag} {H : Hp} {T p : Addr} {cs : List Cell} {r c : Nat} (hT : SqT K H T [.int (r : Nat), .int (c : Nat)]) (hp : PlanAt K H p cs) {Q : VK} (k : Q (.bl (!inC cs r c)) H) : rNotInT K (.ref T) (.ref p) H Q := by
  refine ⟨cellD ((r : Int), (c : Int)), cs.map cellD, dp_cell hT, hp.dp, cell_shaped _, plan_shaped _, ?_⟩
  rw [in_plan]
  exact k
/-! ### the quads in their order -/
def inner4 (u l a : Nat) : List Quad := (List.range (7 - a)).map fun k => (u, l, a, a + 1 + k)
def mid4 (u l : Nat) : List Quad := (List.range 7).flatMap fun a => inner4 u l a
def two4 (u : Nat) : List Quad := (List.range (7 - u)).flatMap fun k => mid4 u (u + 1 + k)
def all4 : List Quad := (List.range 7).flatMap two4
theorem mem_inner4 {u l a : Nat} {q : Quad} : q ∈ inner4 u l a ↔ q.1 = u ∧ q.2.1 = l ∧ q.2.2.1 = a ∧ a < q.2.2.2 ∧ q.2.2.2 ≤ 7 := by
  unfold inner4
  rw [List.mem_map]
  constructor
  · rintro ⟨k, hk, rfl⟩
    have := List.mem_range.mp hk
    exact ⟨rfl, rfl, rfl, by show a < a + 1 + k; omega, by show a + 1 + k ≤ 7; omega⟩
  · rintro ⟨h1, h2, h3, h4, h5⟩
    obtain ⟨q1, q2, q3, q4⟩ := q
    dsimp only at h1 h2 h3 h4 h5
    refine ⟨q4 - (a + 1), List.mem_range.mpr (by omega), ?_⟩
    simp only [Prod.mk.injEq]
    omega
theorem mem_mid4 {u l : Nat} {q : Quad} : q ∈ mid4 u l ↔ q.1 = u ∧ q.2.1 = l ∧ q.2.2.1 < q.2.2.2 ∧ q.2.2.2 ≤ 7 := by
  unfold mid4
  rw [List.mem_flatMap]
  constructor
  · rintro ⟨a, ha, h⟩
    obtain ⟨h1, h2, h3, h4, h5⟩ := mem_inner4.mp h
    exact ⟨h1, h2, by omega, h5⟩
  · rintro ⟨h1, h2, h3, h4⟩
    exact ⟨q.2.2.1, List.mem_range.mpr (by omega), mem_inner4.mpr ⟨h1, h2, rfl, h3, h4⟩⟩
theorem mem_two4 {u : Nat} {q : Quad} : q ∈ two4 u ↔ q.1 = u ∧ u < q.2.1 ∧ q.2.1 ≤ 7 ∧ q.2.2.1 < q.2.2.2 ∧ q.2.2.2 ≤ 7 := by
  unfold two4
  rw [List.mem_flatMap]
  constructor
  · rintro ⟨k, hk, h⟩
    have := List.mem_range.mp hk
    obtain ⟨h1, h2, h3, h4⟩ := mem_mid4.mp h
    exact ⟨h1, by omega, by omega, h3, h4⟩
  · rintro ⟨h1, h2, h3, h4, h5⟩
    exact ⟨q.2.1 - (u + 1), List.mem_range.mpr (by omega), mem_mid4.mpr ⟨h1, by omega, h4, h5⟩⟩
theorem mem_all4 {q : Quad} : q ∈ all4 ↔ okQ q := by
  unfold all4 okQ
  rw [List.mem_flatMap]
  constructor
  · rintro ⟨u, hu, h⟩
    obtain ⟨h1, h2, h3, h4, h5⟩ := mem_two4.mp h
    exact ⟨by omega, h3, h4, h5⟩
  · rintro ⟨h1, h2, h3, h4⟩
    exact ⟨q.1, List.mem_range.mpr (by omega), mem_two4.mpr ⟨rfl, h1, h2, h3, h4⟩⟩
theorem asc_all4 : all4.Pairwise qlt := by
  have i4 : ∀ u l a, (inner4 u l a).Pairwise qlt := fun u l a => by
    unfold inner4
    rw [List.pairwise_map]
    refine List.pairwise_lt_range.imp fun {x y} h => ?_
    exact .inr ⟨rfl, .inr ⟨rfl, .inr ⟨rfl, by show a + 1 + x < a + 1 + y; omega⟩⟩⟩
  have m4 : ∀ u l, (mid4 u l).Pairwise qlt := fun u l => by
    unfold mid4
    rw [List.pairwise_flatMap]
    refine ⟨fun a _ => i4 u l a, List.pairwise_lt_range.imp fun {x y} h p hp q hq => ?_⟩
    obtain ⟨a1, a2, a3, _⟩ := mem_inner4.mp hp
    obtain ⟨b1, b2, b3, _⟩ := mem_inner4.mp hq
    exact .inr ⟨by omega, .inr ⟨by omega, .inl (by omega)⟩⟩
  have t4 : ∀ u, (two4 u).Pairwise qlt := fun u => by
    unfold two4
    rw [List.pairwise_flatMap]
    refine ⟨fun k _ => m4 _ _, List.pairwise_lt_range.imp fun {x y} h p hp q hq => ?_⟩
    obtain ⟨a1, a2, _⟩ := mem_mid4.mp hp
    obtain ⟨b1, b2, _⟩ := mem_mid4.mp hq
    exact .inr ⟨by omega, .inl (by omega)⟩
  unfold all4
  rw [List.pairwise_flatMap]
  refine ⟨fun u _ => t4 u, List.pairwise_lt_range.imp fun {x y} h p hp q hq => ?_⟩
  obtain ⟨a1, _⟩ := mem_two4.mp hp
  obtain ⟨b1, _⟩ := mem_two4.mp hq
  exact .inl (by omega)
theorem len_all4 : all4.length = 784 := by decide +kernel
theorem qlt_irr (p : Quad) : ¬ qlt p p := by
  unfold qlt
  omega
theorem qlt_asym {p q : Quad} (h : qlt p q) : ¬ qlt q p := by
  unfold qlt at *
  omega
/-- the first of those that are left -/
theorem ans_of_filter (cs : List Cell) : Ans cs (all4.filter (obsQ cs)).head? := by
  have pw : (all4.filter (obsQ cs)).Pairwise qlt := asc_all4.sublist List.filter_sublist
  have mm : ∀ q, q ∈ all4.filter (obsQ cs) ↔ okQ q ∧ obsQ cs q = true := fun q => by rw [List.mem_filter, mem_all4]
  generalize all4.filter (obsQ cs) = L at pw mm
  cases L with
  | nil =>
    intro q hq
    cases e : obsQ cs q with
    | false => rfl
    | true => exact absurd ((mm q).mpr ⟨hq, e⟩) (by simp)
  | cons q L =>
    obtain ⟨h1, h2⟩ := (mm q).mp List.mem_cons_self
    refine ⟨h1, h2, fun p hp hlt => ?_⟩
    cases e : obsQ cs p with
    | false => rfl
    | true =>
      rcases List.mem_cons.mp ((mm p).mpr ⟨hp, e⟩) with z | z
      · rw [z] at hlt
        exact absurd hlt (qlt_irr q)
      · exact absurd hlt (qlt_asym ((List.pairwise_cons.mp pw).1 p z))
open PySem.W (AlikeAll dataLt dataLt_tuple dataLt_cons dataLt_int alike)
theorem lt_quad {p q : Quad} (h : qlt p q) : dataLt (quadD q) (quadD p) = false := by
  unfold quadD
  rw [dataLt_tuple, dataLt_cons (by simp [alike]), dataLt_cons (by simp [alike]), dataLt_cons (by simp [alike]), dataLt_cons (by simp [alike])]
  rw [dataLt_int, dataLt_int, dataLt_int, dataLt_int]
  simp only [PyData.eqv, beq_iff_eq]
  unfold qlt at h
  by_cases e1 : (q.1 : Int) = (p.1 : Int)
  · rw [if_pos e1]
    by_cases e2 : (q.2.1 : Int) = (p.2.1 : Int)
    · rw [if_pos e2]
      by_cases e3 : (q.2.2.1 : Int) = (p.2.2.1 : Int)
      · rw [if_pos e3, if_neg (by omega)]
        exact decide_eq_false (by omega)
      · rw [if_neg e3]
        exact decide_eq_false (by omega)
    · rw [if_neg e2]
      exact decide_eq_false (by omega)
  · rw [if_neg e1]
    exact decide_eq_false (by omega)
theorem quads_alike (L : List Quad) : AlikeAll (L.map quadD) := by
  refine ⟨fun x hx y hy => ?_, fun x hx => ?_⟩
  · obtain ⟨p, _, rfl⟩ := List.mem_map.mp hx
    obtain ⟨q, _, rfl⟩ := List.mem_map.mp hy
    simp [quadD, alike, PySem.W.alikeAll]
  · obtain ⟨p, _, rfl⟩ := List.mem_map.mp hx
    unfold quadD
    intro e
    cases e
theorem quads_depth : ∀ L : List Quad, PyData.depthAll (L.map quadD) ≤ 1
  | [] => by simp [PyData.depthAll]
  | q :: L => by
    have a := quads_depth L
    have b : (quadD q).depth = 1 := depth_line [(q.1 : Int), (q.2.1 : Int), (q.2.2.1 : Int), (q.2.2.2 : Int)]
    simp only [List.map_cons, PyData.depthAll]
    omega
theorem quad_inj {p q : Quad} (h : quadD p = quadD q) : p = q := by
  unfold quadD at h
  obtain ⟨p1, p2, p3, p4⟩ := p
  obtain ⟨q1, q2, q3, q4⟩ := q
  injection h with h
  simp only [List.cons.injEq, PyData.int.injEq, and_true] at h
  simp only [Prod.mk.injEq]
  omega
def shownO : Option Quad → Str
  | none => "None"
  | some q => (quadD q).shown
theorem if_reprN {K : PySem.W.Frag} {t : TS} {D : Ends} {σ : L2.St} {H : Hp} {i j : Nat} {x y : V} {o : Option Quad} {cs : List Cell} (h1 : σ[i]? = some (some x)) (h2 : σ[j]? = some (some y)) (an : Ans cs o) (hx : QuadAt K H x o) (hy : QuadAt K H y o) (k : D.nx σ H) :
    tIfS (tTest (tOp rNe (tCB (rReprN K) (tCons (tVar i) tNil)) (tCB (rReprN K) (tCons (tVar j) tNil)))) t tNext D σ H := by
  cases o with
  | none =>
    have hx : x = .non := hx
    have hy : y = .non := hy
    subst hx hy
    refine ⟨_, h1, .inl ⟨rfl, _, h2, .inl ⟨rfl, ?_⟩⟩⟩
    generalize Str.ofString "None" = z
    exact ⟨rfl, _, rfl, iteNS rfl k⟩
  | some q =>
    obtain ⟨u, rfl, hu⟩ := hx
    obtain ⟨v, rfl, hv⟩ := hy
    obtain ⟨sh, dp⟩ := quad_small an.ok
    have hd := dp_quad hu
    have he := dp_quad hv
    have hl : (quadD q).shown.length ≤ sizeLine := sh.len (by decide)
    have h3 := sh.show_
    have h4 := sh.nod
    clear sh
    generalize quadD q = d at hd he hl h3 h4 dp
    refine ⟨_, h1, .inr ⟨u, d, rfl, hd, h3, h4, hl, dp, ?_⟩⟩
    refine ⟨_, h2, .inr ⟨v, d, rfl, he, h3, h4, hl, dp, ?_⟩⟩
    generalize d.shown = z
    exact ⟨rfl, _, rfl, iteNS rfl k⟩
end KS
namespace KS
open PySem PySem.Spec PyProof.Rows L2
/-! ### counts -/
theorem countP_four {α : Type} {p q s t : α → Bool} : ∀ {l : List α}, (∀ x ∈ l, (p x).toNat + (q x).toNat ≤ (s x).toNat + (t x).toNat) → l.countP p + l.countP q ≤ l.countP s + l.countP t
  | [], _ => by simp
  | x :: l, h => by
    have ih := countP_four (l := l) fun y hy => h y (List.mem_cons_of_mem _ hy)
    have hx := h x List.mem_cons_self
    have c : ∀ f : α → Bool, (x :: l).countP f = l.countP f + (f x).toNat := fun f => by
      rw [List.countP_cons]
      cases f x <;> rfl
    rw [c, c, c, c]
    omega
theorem nodup_len_le : ∀ {l m : List Nat}, l.Nodup → (∀ x ∈ l, x ∈ m) → l.length ≤ m.length
  | [], _, _, _ => Nat.zero_le _
  | x :: l, m, nd, h => by
    rw [List.nodup_cons] at nd
    have hx := h x List.mem_cons_self
    have ih := nodup_len_le (l := l) (m := m.erase x) nd.2 fun y hy => by
      have : y ≠ x := fun e => nd.1 (e ▸ hy)
      exact (List.mem_erase_of_ne this).mpr (h y (List.mem_cons_of_mem _ hy))
    rw [List.length_erase_of_mem hx] at ih
    have : 0 < m.length := List.length_pos_of_mem hx
    rw [List.length_cons]
    omega
theorem count_by {g : Nat → Nat} {ks : List Nat} (nd : ks.Pairwise fun i j => g i ≠ g j) (lt : ∀ k ∈ ks, g k < 8) (p : Nat → Bool) : ks.countP p = (List.range 8).countP fun r => ks.any fun k => decide (g k = r) && p k := by
  rw [List.countP_eq_length_filter, List.countP_eq_length_filter]
  have e : (ks.filter p).length = ((ks.filter p).map g).length := by rw [List.length_map]
  rw [e]
  have n1 : ((ks.filter p).map g).Nodup := by
    rw [List.nodup_iff_pairwise_ne, List.pairwise_map]
    exact nd.sublist List.filter_sublist
  have n2 : ((List.range 8).filter fun r => ks.any fun k => decide (g k = r) && p k).Nodup := List.nodup_range.sublist List.filter_sublist
  have mm : ∀ r, r ∈ (ks.filter p).map g ↔ r ∈ (List.range 8).filter fun r => ks.any fun k => decide (g k = r) && p k := fun r => by
    rw [List.mem_map, List.mem_filter, List.mem_range]
    constructor
    · rintro ⟨k, hk, rfl⟩
      obtain ⟨h1, h2⟩ := List.mem_filter.mp hk
      refine ⟨lt k h1, List.any_eq_true.mpr ⟨k, h1, by rw [decide_eq_true rfl, h2]; rfl⟩⟩
    · rintro ⟨_, h⟩
      obtain ⟨k, h1, h2⟩ := List.any_eq_true.mp h
      rw [Bool.and_eq_true] at h2
      exact ⟨k, List.mem_filter.mpr ⟨h1, h2.2⟩, of_decide_eq_true h2.1⟩
  exact Nat.le_antisymm (nodup_len_le n1 fun x hx => (mm x).mp hx) (nodup_len_le n2 fun x hx => (mm x).mpr hx)
theorem sorted_ge {L : List Int} (h : L.Pairwise (· ≤ ·)) {p : Nat} {x : Int} (hp : L[p]? = some x) : L.length ≤ L.countP (fun v => decide (x ≤ v)) + p := by
  induction L generalizing p with
  | nil => simp at hp
  | cons a L ih =>
    rw [List.pairwise_cons] at h
    cases p with
    | zero =>
      simp at hp
      subst hp
      have : (a :: L).countP (fun v => decide (a ≤ v)) = (a :: L).length := List.countP_eq_length.mpr fun v hv => by
        rcases List.mem_cons.mp hv with e | e
        · exact decide_eq_true (by omega)
        · exact decide_eq_true (h.1 v e)
      omega
    | succ p =>
      have hp' : L[p]? = some x := by simpa using hp
      have := ih h.2 hp'
      rw [List.countP_cons, List.length_cons]
      omega
theorem sorted_lt {L : List Int} (h : L.Pairwise (· ≤ ·)) {p : Nat} {x y : Int} (hp : L[p]? = some y) (hy : y < x) : L.countP (fun v => decide (x ≤ v)) + (p + 1) ≤ L.length := by
  induction L generalizing p with
  | nil => simp at hp
  | cons a L ih =>
    rw [List.pairwise_cons] at h
    cases p with
    | zero =>
      simp at hp
      subst hp
      rw [List.countP_cons, if_neg (by simp; omega), List.length_cons]
      have := List.countP_le_length (p := fun v => decide (x ≤ v)) (l := L)
      omega
    | succ p =>
      have hp' : L[p]? = some y := by simpa using hp
      have i := ih h.2 hp'
      have ha := h.1 y (List.mem_of_getElem? hp')
      rw [List.countP_cons, if_neg (by simp; omega), List.length_cons]
      omega
/-- an ascending list: the place of an item counts those before -/
theorem asc_place : ∀ {ks : List Nat} {p i : Nat}, ks.Pairwise (· < ·) → ks[p]? = some i → ks.countP (fun m => decide (i ≤ m)) + p = ks.length
  | [], _, _, _, h => by simp at h
  | a :: ks, 0, i, pw, h => by
    simp at h
    subst h
    rw [List.pairwise_cons] at pw
    have : (a :: ks).countP (fun m => decide (a ≤ m)) = (a :: ks).length := List.countP_eq_length.mpr fun v hv => by
      rcases List.mem_cons.mp hv with e | e
      · exact decide_eq_true (by omega)
      · exact decide_eq_true (by have := pw.1 v e; omega)
    omega
  | a :: ks, p + 1, i, pw, h => by
    rw [List.pairwise_cons] at pw
    have h' : ks[p]? = some i := by simpa using h
    have := asc_place pw.2 h'
    have := pw.1 i (List.mem_of_getElem? h')
    rw [List.countP_cons, if_neg (by simp; omega), List.length_cons]
    omega
/-! ### the cells of a plan by their lines -/
def gB (b : Bool) (cs : List Cell) (i : Nat) : Int := ((cs[i]?).map (pick b)).getD 0
theorem gB_at {b : Bool} {cs : List Cell} {i : Nat} {c : Cell} (h : cs[i]? = some c) : gB b cs i = pick b c := by
  unfold gB
  rw [h]
  rfl
theorem gB_bd {b : Bool} {cs : List Cell} (g : Good cs) {i : Nat} (h : i < cs.length) : 0 ≤ gB b cs i ∧ gB b cs i ≤ 7 := by
  have e : cs[i]? = some cs[i] := List.getElem?_eq_getElem h
  rw [gB_at e]
  have := g.grid _ (List.mem_of_getElem? e)
  unfold InGrid at this
  unfold pick
  split <;> omega
theorem gB_lt {b : Bool} {cs : List Cell} (g : Good cs) {i j : Nat} (hij : i < j) (hj : j < cs.length) (e : gB b cs i = gB b cs j) : gB (!b) cs i < gB (!b) cs j := by
  have hi : i < cs.length := by omega
  have ei : cs[i]? = some cs[i] := List.getElem?_eq_getElem hi
  have ej : cs[j]? = some cs[j] := List.getElem?_eq_getElem hj
  have lt := (List.pairwise_iff_getElem.mp g.asc) i j hi hj hij
  rw [gB_at ei, gB_at ej] at e ⊢
  unfold lt2 at lt
  cases b
  · have e' : cs[i].1 = cs[j].1 := e
    show cs[i].2 < cs[j].2
    omega
  · have e' : cs[i].2 = cs[j].2 := e
    show cs[i].1 < cs[j].1
    omega
theorem gB_le {b : Bool} {cs : List Cell} (g : Good cs) {i m : Nat} (hi : i < cs.length) (hm : m < cs.length) (e : gB b cs i = gB b cs m) : i ≤ m ↔ gB (!b) cs i ≤ gB (!b) cs m := by
  constructor
  · intro h
    rcases Nat.lt_or_ge i m with c | c
    · have := gB_lt g c hm e
      omega
    · have : i = m := by omega
      rw [this]
      omega
  · intro h
    rcases Nat.lt_or_ge m i with c | c
    · have := gB_lt g c hi e.symm
      omega
    · exact c
def lineN (b : Bool) (cs : List Cell) (r : Int) : List Nat := idxsN b cs cs.length r
theorem mem_lineN {b : Bool} {cs : List Cell} {r : Int} {i : Nat} : i ∈ lineN b cs r ↔ i < cs.length ∧ gB b cs i = r := by
  unfold lineN idxsN
  rw [List.mem_filter, List.mem_range]
  constructor
  · rintro ⟨h1, h2⟩
    have e : cs[i]? = some cs[i] := List.getElem?_eq_getElem h1
    have h2 := of_decide_eq_true h2
    rw [e] at h2
    exact ⟨h1, by rw [gB_at e]; exact Option.some.inj h2⟩
  · rintro ⟨h1, h2⟩
    have e : cs[i]? = some cs[i] := List.getElem?_eq_getElem h1
    refine ⟨h1, decide_eq_true ?_⟩
    rw [e]
    rw [gB_at e] at h2
    exact congrArg some h2
theorem lineN_asc (b : Bool) (cs : List Cell) (r : Int) : (lineN b cs r).Pairwise (· < ·) := List.pairwise_lt_range.sublist List.filter_sublist
theorem lineN_mem {b : Bool} {cs : List Cell} (g : Good cs) {i : Nat} (hi : i < cs.length) : lineN b cs (gB b cs i) ∈ lnsN b cs := by
  have bd := gB_bd (b := b) g hi
  unfold lnsN
  rw [List.mem_filter, List.mem_map]
  refine ⟨⟨(gB b cs i).toNat, List.mem_range.mpr (by omega), ?_⟩, decide_eq_true fun e => ?_⟩
  · rw [Int.toNat_of_nonneg bd.1]
    rfl
  · have : i ∈ lineN b cs (gB b cs i) := mem_lineN.mpr ⟨hi, rfl⟩
    rw [e] at this
    cases this
def vI (vs : List Int) (i : Nat) : Int := vs.getD i 0
theorem getN_vI (vs : List Int) (ks : List Nat) : getN vs ks = ks.map (vI vs) := rfl
theorem asc_mem {ks : List Nat} {R : Nat → Nat → Prop} (h : ks.Pairwise R) (a : ks.Pairwise (· < ·)) {i j : Nat} (hi : i ∈ ks) (hj : j ∈ ks) (hij : i < j) : R i j := by
  obtain ⟨p, hp⟩ := List.mem_iff_getElem?.mp hi
  obtain ⟨q, hq⟩ := List.mem_iff_getElem?.mp hj
  obtain ⟨l1, e1⟩ := List.getElem?_eq_some_iff.mp hp
  obtain ⟨l2, e2⟩ := List.getElem?_eq_some_iff.mp hq
  rcases Nat.lt_trichotomy p q with c | c | c
  · have := (List.pairwise_iff_getElem.mp h) p q l1 l2 c
    rw [e1, e2] at this
    exact this
  · subst c
    omega
  · have := (List.pairwise_iff_getElem.mp a) q p l2 l1 c
    rw [e1, e2] at this
    omega
/-- rising lines, pair by pair -/
theorem rises_pairs {b : Bool} {cs : List Cell} {vs : List Int} (g : Good cs) : rises b cs vs = true ↔ ∀ i j, i < j → j < cs.length → gB b cs i = gB b cs j → vI vs i ≤ vI vs j := by
  rw [rises_iff]
  constructor
  · intro h i j hij hj e
    have hi : i < cs.length := by omega
    have hk := h _ (lineN_mem (b := b) g hi)
    have pw : (getN vs (lineN b cs (gB b cs i))).Pairwise (· ≤ ·) := by
      rw [hk]
      exact sortI_asc _
    rw [getN_vI, List.pairwise_map] at pw
    exact asc_mem pw (lineN_asc _ _ _) (mem_lineN.mpr ⟨hi, rfl⟩) (mem_lineN.mpr ⟨hj, e.symm⟩) hij
  · intro h ks hks
    unfold lnsN at hks
    obtain ⟨r, _, rfl⟩ := List.mem_map.mp (List.mem_filter.mp hks).1
    refine sortI_eq (List.Perm.refl _) ?_
    rw [getN_vI, List.pairwise_map]
    refine (lineN_asc b cs (r : Int)).imp_of_mem fun {i j} hi hj hij => ?_
    obtain ⟨i1, i2⟩ := mem_lineN.mp hi
    obtain ⟨j1, j2⟩ := mem_lineN.mp hj
    exact h i j hij j1 (by omega)
/-- what stands in a cell after a sort -/
theorem srt_at {b : Bool} {cs : List Cell} {vs : List Int} (g : Good cs) (hv : vs.length = cs.length) {i : Nat} (hi : i < cs.length) : ∃ p : Nat, (lineN b cs (gB b cs i))[p]? = some i ∧ (sortI ((lineN b cs (gB b cs i)).map (vI vs)))[p]? = some (vI (srt b cs vs) i) := by
  obtain ⟨p, hp⟩ := List.mem_iff_getElem?.mp (show i ∈ lineN b cs (gB b cs i) from mem_lineN.mpr ⟨hi, rfl⟩)
  refine ⟨p, hp, ?_⟩
  have e := fold_get (vs := vs) (acc := vs) (ls := lnsN b cs) (by rw [hv]; exact lns_parts b cs) _ (lineN_mem (b := b) g hi)
  rw [← srt_up, getN_vI, getN_vI] at e
  rw [← e, List.getElem?_map, hp]
  rfl
/-- those of a line that are as great as what stands in a cell after the sort are as many as the cells from it on, at least -/
theorem many_ge {b : Bool} {cs : List Cell} {vs : List Int} (g : Good cs) (hv : vs.length = cs.length) {i : Nat} (hi : i < cs.length) {x : Int} (hx : x ≤ vI (srt b cs vs) i) :
    (lineN b cs (gB b cs i)).countP (fun m => decide (i ≤ m)) ≤ (lineN b cs (gB b cs i)).countP (fun m => decide (x ≤ vI vs m)) := by
  obtain ⟨p, h1, h2⟩ := srt_at (b := b) g hv hi
  have a := sorted_ge (sortI_asc _) h2
  have c := asc_place (lineN_asc _ _ _) h1
  rw [sortI_len, List.length_map, (sortI_perm _).countP_eq, List.countP_map] at a
  have m : (lineN b cs (gB b cs i)).countP ((fun v => decide (vI (srt b cs vs) i ≤ v)) ∘ vI vs) ≤ (lineN b cs (gB b cs i)).countP (fun m => decide (x ≤ vI vs m)) :=
    List.countP_mono_left fun k _ hk => decide_eq_true (by
      have : vI (srt b cs vs) i ≤ vI vs k := of_decide_eq_true hk
      omega)
  omega
theorem many_lt {b : Bool} {cs : List Cell} {vs : List Int} (g : Good cs) (hv : vs.length = cs.length) {i : Nat} (hi : i < cs.length) {x : Int} (hx : vI (srt b cs vs) i < x) :
    (lineN b cs (gB b cs i)).countP (fun m => decide (x ≤ vI vs m)) + 1 ≤ (lineN b cs (gB b cs i)).countP (fun m => decide (i ≤ m)) := by
  obtain ⟨p, h1, h2⟩ := srt_at (b := b) g hv hi
  have a := sorted_lt (sortI_asc _) h2 hx
  have c := asc_place (lineN_asc _ _ _) h1
  rw [sortI_len, List.length_map, (sortI_perm _).countP_eq, List.countP_map] at a
  have m : (lineN b cs (gB b cs i)).countP ((fun v => decide (x ≤ v)) ∘ vI vs) = (lineN b cs (gB b cs i)).countP (fun m => decide (x ≤ vI vs m)) := rfl
  omega
/-- whether some cell of line k (of the other kind) in line r satisfies p -/
def hit (b : Bool) (cs : List Cell) (k : Int) (p : Nat → Bool) (r : Nat) : Bool := (lineN (!b) cs k).any fun m => decide ((gB b cs m).toNat = r) && p m
theorem count_hit {b : Bool} {cs : List Cell} (g : Good cs) (k : Int) (p : Nat → Bool) : (lineN (!b) cs k).countP p = (List.range 8).countP (hit b cs k p) := by
  refine count_by (g := fun m => (gB b cs m).toNat) ?_ (fun m hm => ?_) p
  · refine (lineN_asc (!b) cs k).imp_of_mem fun {i j} hi hj hij => ?_
    obtain ⟨i1, i2⟩ := mem_lineN.mp hi
    obtain ⟨j1, j2⟩ := mem_lineN.mp hj
    have lt := gB_lt (b := !b) g hij j1 (by omega)
    rw [Bool.not_not] at lt
    have b1 := gB_bd (b := b) g i1
    have b2 := gB_bd (b := b) g j1
    omega
  · have := gB_bd (b := b) g (mem_lineN.mp hm).1
    omega
theorem hit_true {b : Bool} {cs : List Cell} (g : Good cs) {k : Int} {p : Nat → Bool} {r : Nat} : hit b cs k p r = true ↔ ∃ m, m < cs.length ∧ gB (!b) cs m = k ∧ gB b cs m = (r : Int) ∧ p m = true := by
  unfold hit
  rw [List.any_eq_true]
  constructor
  · rintro ⟨m, hm, h⟩
    rw [Bool.and_eq_true] at h
    obtain ⟨m1, m2⟩ := mem_lineN.mp hm
    have bd := gB_bd (b := b) g m1
    have := of_decide_eq_true h.1
    exact ⟨m, m1, m2, by omega, h.2⟩
  · rintro ⟨m, m1, m2, m3, h⟩
    refine ⟨m, mem_lineN.mpr ⟨m1, m2⟩, ?_⟩
    rw [h, Bool.and_true]
    exact decide_eq_true (by omega)
/-- the plan has a cell in line r of this kind and line k of the other one -/
def cellB (b : Bool) (cs : List Cell) (r k : Int) : Prop := ∃ m, m < cs.length ∧ gB b cs m = r ∧ gB (!b) cs m = k
theorem cell_uniq {b : Bool} {cs : List Cell} (g : Good cs) {m m' : Nat} (h : m < cs.length) (h' : m' < cs.length) (e1 : gB b cs m = gB b cs m') (e2 : gB (!b) cs m = gB (!b) cs m') : m = m' := by
  rcases Nat.lt_trichotomy m m' with c | c | c
  · have := gB_lt (b := b) g c h' e1
    omega
  · exact c
  · have := gB_lt (b := b) g c h e1.symm
    omega
/-- no four of which just one of the two is missing -/
def NoX (b : Bool) (cs : List Cell) : Prop := ∀ r1 r2 k1 k2 : Int, r1 < r2 → k1 < k2 → cellB b cs r1 k1 → cellB b cs r2 k2 → (cellB b cs r1 k2 ↔ cellB b cs r2 k1)
theorem toNat_le {p q s t : Bool} (h1 : p = true → s = true ∨ t = true) (h2 : q = true → s = true ∨ t = true) (h3 : p = true → q = true → s = true ∧ t = true) : p.toNat + q.toNat ≤ s.toNat + t.toNat := by
  cases p <;> cases q <;> cases s <;> cases t <;> simp at *
/-- MAIN: on a plan without such four, a sort of the other kind leaves rising lines rising -/
theorem kept {b : Bool} {cs : List Cell} {vs : List Int} (g : Good cs) (hv : vs.length = cs.length) (nx : NoX b cs) (h : rises b cs vs = true) : rises b cs (srt (!b) cs vs) = true := by
  rw [rises_pairs g] at h ⊢
  intro i j hij hj e
  have hi : i < cs.length := by omega
  rcases Int.lt_or_le (vI (srt (!b) cs vs) j) (vI (srt (!b) cs vs) i) with c | c
  · exfalso
    have kk := gB_lt (b := b) g hij hj e
    have a1 := many_ge (b := !b) g hv hi (Int.le_refl _)
    have a2 := many_lt (b := !b) g hv hj c
    rw [count_hit g, count_hit g] at a1 a2
    have key := countP_four (l := List.range 8) (p := hit b cs (gB (!b) cs i) fun m => decide (vI (srt (!b) cs vs) i ≤ vI vs m)) (q := hit b cs (gB (!b) cs j) fun m => decide (j ≤ m))
      (s := hit b cs (gB (!b) cs j) fun m => decide (vI (srt (!b) cs vs) i ≤ vI vs m)) (t := hit b cs (gB (!b) cs i) fun m => decide (i ≤ m)) (fun r _ => by
        -- a cell of the line of j from j on has a neighbour in the line of i
        have below : ∀ m, m < cs.length → gB (!b) cs m = gB (!b) cs j → j ≤ m → ∃ m', m' < cs.length ∧ gB (!b) cs m' = gB (!b) cs i ∧ gB b cs m' = gB b cs m ∧ i ≤ m' := fun m h1 h2 h3 => by
          have le := (gB_le (b := !b) g hj h1 h2.symm).mp h3
          rw [Bool.not_not] at le
          rcases Int.lt_or_eq_of_le le with c1 | c1
          · have := (nx (gB b cs i) (gB b cs m) (gB (!b) cs i) (gB (!b) cs j) (by omega) kk ⟨i, hi, rfl, rfl⟩ ⟨m, h1, rfl, h2⟩).mp ⟨j, hj, e.symm, rfl⟩
            obtain ⟨m', q1, q2, q3⟩ := this
            refine ⟨m', q1, q3, q2, (gB_le (b := !b) g hi q1 q3.symm).mpr ?_⟩
            rw [Bool.not_not]
            omega
          · exact ⟨i, hi, rfl, by omega, Nat.le_refl _⟩
        refine toNat_le (fun hp => ?_) (fun hq => ?_) (fun hp hq => ?_)
        · obtain ⟨m, m1, m2, m3, m4⟩ := (hit_true g).mp hp
          have m4 := of_decide_eq_true m4
          by_cases c1 : i ≤ m
          · exact .inr ((hit_true g).mpr ⟨m, m1, m2, m3, decide_eq_true c1⟩)
          · left
            have le := (gB_le (b := !b) g m1 hi m2).mp (by omega)
            rw [Bool.not_not] at le
            have ne : gB b cs m ≠ gB b cs i := fun z => by
              have := cell_uniq (b := b) g m1 hi z m2
              omega
            obtain ⟨m', q1, q2, q3⟩ := (nx (gB b cs m) (gB b cs i) (gB (!b) cs i) (gB (!b) cs j) (by omega) kk ⟨m, m1, rfl, m2⟩ ⟨j, hj, e.symm, rfl⟩).mpr ⟨i, hi, rfl, rfl⟩
            have lt : m < m' := by
              rcases Nat.lt_trichotomy m m' with z | z | z
              · exact z
              · rw [z] at m2
                omega
              · have := gB_lt (b := b) g z m1 q2
                omega
            have := h m m' lt q1 q2.symm
            exact (hit_true g).mpr ⟨m', q1, q3, by omega, decide_eq_true (by omega)⟩
        · obtain ⟨m, m1, m2, m3, m4⟩ := (hit_true g).mp hq
          obtain ⟨m', q1, q2, q3, q4⟩ := below m m1 m2 (of_decide_eq_true m4)
          exact .inr ((hit_true g).mpr ⟨m', q1, q2, by omega, decide_eq_true q4⟩)
        · obtain ⟨m, m1, m2, m3, m4⟩ := (hit_true g).mp hp
          have m4 := of_decide_eq_true m4
          obtain ⟨n, n1, n2, n3, n4⟩ := (hit_true g).mp hq
          obtain ⟨m', q1, q2, q3, q4⟩ := below n n1 n2 (of_decide_eq_true n4)
          refine ⟨(hit_true g).mpr ⟨n, n1, n2, n3, decide_eq_true ?_⟩, (hit_true g).mpr ⟨m', q1, q2, by omega, decide_eq_true q4⟩⟩
          have lt : m < n := by
            rcases Nat.lt_trichotomy m n with z | z | z
            · exact z
            · rw [z] at m2
              omega
            · have := gB_lt (b := b) g z m1 (by omega)
              omega
          have := h m n lt n1 (by omega)
          omega)
    omega
  · exact c
end KS
namespace KS
open PySem PySem.Spec PyProof.Rows L2
abbrev sValues : Stmt := topS 48
abbrev nValues : List Str := ["_law_pool_here", "_law_size", "_law_mode", "_law_left", "_law_step", "_law_found", "_law_turn", "_law_one"]
theorem scValues : FnScope nValues ["_law_pool_here", "_law_size"] (defScope sValues) := ⟨rfl, rfl, rfl, by decide +kernel, rfl, by decide +kernel, by decide +kernel⟩
section
variable {P : Program} {w : World} {K : PySem.W.Frag} {mg : Str → Option Value} {base : Heap}
theorem ok_values {f fD : Addr} {fd fdD : FuncData} (F : Fun K "_law_values" "_law_values" sValues f fd) (GD : FnOk P w K mg base CX0 1 fD fdD ["_law_pool_here", "_law_most"] spDraw)
    (bD : Binds K fdD ["_law_pool_here", "_law_most"] []) (gD : mg "_law_draw" = some (.ref fD)) (kD : PySem.W.keepIn K (.ref fD) = true)
    (mL : mg "list" = none) (mr : mg "range" = none) (ml : mg "len" = none) (mt : mg "tuple" = none) :
    FnOk P w K mg base CX0 2 f fd ["_law_pool_here", "_law_size"] (spValues K) := by
  refine F.ok scValues (fun vs H Q E h => ?_) (fun cdv A outer s H vs Q E hr h => ?_)
  · obtain ⟨p, m, rfl, _⟩ := h
    rfl
  · obtain ⟨p, n, rfl, po, n0, n1, q⟩ := h
    have nd := scValues.nd
    refine ⟨_, pss_cons (ps_par (i := 2) (j := 3) (by rfl) nd rfl rfl (by decide) rfl rfl
        (pa_cons (pe_call GD hr (by rfl) gD kD bD .nil pass0 (pa_cons (pv 0) (pa_cons pe_int pa_nil)))
          (pa_cons (pe_listRg rfl (by rfl) mL (prg_2 (by rfl) mr pe_int (pe_op op_add (pv 1) pe_int))) pa_nil)) (by rfl))
      (pss_cons (ps_if (pt_cmpR op_eq (pv 2) pe_int (nomark _)) (pss_one (ps_set (i := 3) nd rfl (.inl rfl) (pe_listRg rfl (by rfl) mL (prg_2 (by rfl) mr (pe_op op_sub pe_int (pv 1)) pe_int)))) pss_nil)
      (pss_cons (ps_if (pt_cmpR op_gt (pv 2) pe_int (nomark _)) (pss_cons (ps_set (i := 4) nd rfl (.inr rfl) (pe_op op_add pe_int (pe_call GD hr (by rfl) gD kD bD .nil pass0 (pa_cons (pv 0) (pa_cons (pe_op op_fdiv pe_int (pv 1)) pa_nil)))))
          (pss_one (ps_setLc (i := 3) (own := [("_law_one", 7)]) (g := gName 7) rfl nd rfl rfl (sw_true rfl rfl rfl (by decide +kernel))
            (pi_list (pv 3)) (blkOk_by (N := nValues) (sc := defScope sValues) (by decide +kernel))
            (fun _ _ _ _ _ => pg_name (i := 7) nd rfl (Or.inl rfl)) (fun _ _ _ _ _ => pts_nil) (fun _ _ _ _ _ => pe_op op_mul (pv 4) (pv 7))))) pss_nil)
      (pss_cons (ps_set (i := 5) nd rfl (.inl rfl) (pe_lst pa_nil))
      (pss_cons (ps_for PassesOwn.never rfl (pi_range1 (by rfl) mr (pa_cons (pv 1) pa_nil)) (pg_name (i := 6) nd rfl (.inl rfl))
        (pss_one (ps_expr (pe_bm PySem.F.plainAttrs_list PySem.F.slot_list_append PySem.F.type_list_append mt_append (pv 5)
          (pa_cons (pe_bm PySem.F.plainAttrs_list PySem.F.slot_list_pop PySem.F.type_list_pop mt_popAt (pv 3)
            (pa_cons (pe_call GD hr (by rfl) gD kD bD .nil pass0 (pa_cons (pv 0) (pa_cons (pe_callB call_len_seq (by rfl) ml PySem.boot_len (pa_cons (pv 3) pa_nil)) pa_nil))) pa_nil)) pa_nil)))))
      (pss_one (ps_ret (pe_callTy call_tuple_of (by rfl) mt (by decide +kernel) (pa_cons (pv 5) pa_nil)))))))), ?_⟩
    refine ⟨_, rfl, p, 4, rfl, po, by decide, by decide, fun H1 mode k1 po1 _ _ => ?_⟩
    refine ⟨_, rfl, _, _, rfl, rfl, _, _, rfl, rfl, ⟨by omega, by omega, by omega, by omega, by omega⟩, fun e ne => ?_⟩
    have s2 := same_new (o := .lst (rgV 1 ((n : Int) + 1))) ne
    refine ⟨_, _, rfl, vals_ifs (K := K) (p := p) (e := e) n0 n1 (k1.free po1 ne) (Ne.symm (po1.ne ne)) upd_same (k1.trans (.of_same s2)) (po1.same s2) ?_⟩
    rintro σ G ⟨e, y4, ls, rfl, he0, hep, he, v9, kx, po'⟩
    refine ⟨Nat.zero_le _, fun o no => ?_⟩
    have so := same_new (o := .lst []) no
    have neo : e ≠ o := ne_of_none he no
    have npo : p ≠ o := po'.ne no
    have ho0 : H o = none := kx.free po' no
    refine ⟨_, rfl, (n : Int), rfl, by omega, by omega, for_range (lo := 0) (n := n) (fun i σ G' => ∃ (y6 : Option V) (ls fs : List Int),
      σ = [some (.ref p), some (.int n), some (.int mode), some (.ref e), y4, some (.ref o), y6, none] ∧ KeepX p H G' ∧ PoolO (G' p) ∧ G' e = some (.lst (ls.map V.int)) ∧ G' o = some (.lst (fs.map V.int)) ∧
      fs.length = i ∧ Vals9 n (fs ++ ls)) ?_ ?_ ?_⟩
    · exact ⟨none, ls, [], rfl, kx.trans (.of_same so), po'.same so, so _ _ he, upd_same, rfl, v9⟩
    · rintro i σ G' hi ⟨y6, ls, fs, rfl, kx', po2, he', ho', fl, v9'⟩
      have hlen := v9'.len
      rw [List.length_append] at hlen
      have hll : (ls.map V.int).length = ls.length := List.length_map ..
      refine ⟨_, rfl, .inl ⟨rfl, _, SqL.of ho'⟩, _, rfl, .inl ⟨rfl, _, SqL.of he'⟩, _, rfl, _, rfl, e, _, rfl, .inl (SqL.of he'), p, _, rfl, po2, by omega, by omega, fun G5 r k5 po5 r0 r1 => ?_⟩
      have hlt : r.toNat < ls.length := by omega
      have he5 := k5 _ _ hep he'
      have ho5 := k5 _ _ (Ne.symm npo) ho'
      refine ⟨e, ls.map V.int, r, r.toNat, .int ls[r.toNat], rfl, rfl, he5, by omega, by omega, ?_, ?_, ?_⟩
      · unfold seqIndex?
        have e1 : ¬ r < 0 := by omega
        simp only [if_neg e1]
        rw [if_pos]
        simp only [Bool.and_eq_true, decide_eq_true_eq]
        exact ⟨r0, r1⟩
      · rw [List.getElem?_map, List.getElem?_eq_getElem hlt]
        rfl
      · refine ⟨o, fs.map V.int, _, rfl, rfl, by rw [upd_ne (Ne.symm neo)]; exact ho5, ?_, ?_⟩
        · rw [List.length_map]
          exact small64 (by omega)
        · refine ⟨_, ls.eraseIdx r.toNat, fs ++ [ls[r.toNat]], rfl, ?_, ?_, ?_, ?_, ?_, ?_⟩
          · intro b u nb z
            rw [upd_ne (ne_of_none z ho0), upd_ne (ne_of_none z he0)]
            exact k5 _ _ nb (kx' _ _ nb z)
          · rw [upd_ne npo, upd_ne (Ne.symm hep)]
            exact po5
          · rw [upd_ne neo, upd_same, map_eraseIdx]
          · rw [upd_same, List.map_append]
            rfl
          · rw [List.length_append, fl]
            rfl
          · exact v9'.perm (pick_perm hlt)
    · rintro σ G' ⟨y6, ls, fs, rfl, kx', po2, he', ho', fl, v9'⟩
      have hlen := v9'.len
      rw [List.length_append] at hlen
      have e0 : ls = [] := List.eq_nil_of_length_eq_zero (by omega)
      subst e0
      rw [List.append_nil] at v9'
      refine ⟨_, rfl, o, _, rfl, .inl ⟨SqL.of ho', fun l nl => ?_⟩⟩
      have sl := same_new (o := .tup (fs.map V.int)) nl
      exact q _ l fs (kx'.trans (.of_same sl)) (po2.same sl) (SqT.of upd_same) v9' (kx'.free po2 nl)
end
end KS
namespace KS
open PySem PySem.Spec PyProof.Rows L2 RZ TL
def spNear (K : PySem.W.Frag) : Sp := fun xs H Q _ => ∃ (p a t : Addr) (cs : List Cell) (vs : List Int), xs = [.ref p, .ref a, .ref t] ∧ PoolO (H p) ∧ PlanT K H a cs ∧ Good cs ∧ cs.length ≤ 24 ∧ SqT K H t (vs.map V.int) ∧ Vals9 cs.length vs ∧
  ∀ H' T a' t' (cs' : List Cell) (vs' : List Int), KeepX p H H' → PoolO (H' p) → H' T = some (.tup [.ref a', .ref t']) → PlanT K H' a' cs' → Good cs' → cs'.length ≤ 24 → SqT K H' t' (vs'.map V.int) → vs'.length = cs'.length → (∀ v ∈ vs', 1 ≤ v ∧ v ≤ 9999) → Q (.ref T) H'
/-- the free cells of the rows before -/
def freeR (cs : List Cell) (h m : Nat) : List Cell := ((List.range m).map fun s => (((h : Nat) : Int), ((s : Nat) : Int))).filter fun c => decide (c ∉ cs)
def freeC (cs : List Cell) (n : Nat) : List Cell := (List.range n).flatMap fun h => freeR cs h 8
theorem freeC_mem {cs : List Cell} {c : Cell} (h : c ∈ freeC cs 8) : c ∉ cs ∧ InGrid c := by
  obtain ⟨r, hr, hc⟩ := List.mem_flatMap.mp h
  obtain ⟨hm, hn⟩ := List.mem_filter.mp hc
  obtain ⟨j, hj, rfl⟩ := List.mem_map.mp hm
  have h1 := List.mem_range.mp hr
  have h2 := List.mem_range.mp hj
  refine ⟨of_decide_eq_true hn, ?_⟩
  unfold InGrid
  dsimp only
  omega
theorem freeC_len (cs : List Cell) : ∀ n, (freeC cs n).length ≤ 8 * n
  | 0 => Nat.le_refl _
  | n + 1 => by
    unfold freeC
    rw [List.range_succ, List.flatMap_append, List.length_append]
    have h1 := freeC_len cs n
    unfold freeC at h1
    have h2 : (freeR cs n 8).length ≤ 8 := by
      unfold freeR
      refine Nat.le_trans (List.length_filter_le _ _) ?_
      rw [List.length_map, List.length_range]
      exact Nat.le_refl _
    show _ + (freeR cs n 8 ++ []).length ≤ _
    rw [List.append_nil]
    omega
theorem freeC_ne {cs : List Cell} (hl : cs.length ≤ 24) : freeC cs 8 ≠ [] := by
  intro e
  have all : ∀ k, k < 64 → (((k / 8 : Nat) : Int), ((k % 8 : Nat) : Int)) ∈ cs := by
    intro k hk
    by_cases c : (((k / 8 : Nat) : Int), ((k % 8 : Nat) : Int)) ∈ cs
    · exact c
    · exfalso
      have : (((k / 8 : Nat) : Int), ((k % 8 : Nat) : Int)) ∈ freeC cs 8 := List.mem_flatMap.mpr ⟨k / 8, List.mem_range.mpr (by omega), List.mem_filter.mpr ⟨List.mem_map.mpr ⟨k % 8, List.mem_range.mpr (by omega), rfl⟩, decide_eq_true c⟩⟩
      rw [e] at this
      cases this
  have h := nodup_len_le (l := List.range 64) (m := cs.map fun c => c.1.toNat * 8 + c.2.toNat) List.nodup_range fun k hk => by
    have hk' := List.mem_range.mp hk
    refine List.mem_map.mpr ⟨_, all k hk', ?_⟩
    dsimp only
    omega
  rw [List.length_range, List.length_map] at h
  omega
theorem rot_vals {n : Nat} {vs : List Int} (v9 : Vals9 n vs) (k : Nat) : (vs.drop k ++ vs.take k).length = n ∧ ∀ v ∈ vs.drop k ++ vs.take k, 1 ≤ v ∧ v ≤ 9999 := by
  refine ⟨by rw [List.length_append, List.length_drop, List.length_take]; have := v9.len; omega, fun v hv => ?_⟩
  rcases List.mem_append.mp hv with h | h
  · exact v9.bd v (List.mem_of_mem_drop h)
  · exact v9.bd v (List.mem_of_mem_take h)
theorem put_vals {n : Nat} {vs : List Int} (v9 : Vals9 n vs) {k : Nat} (hk : k < n) {x : Int} (hx : 1 ≤ x ∧ x ≤ 9999) : (vs.take k ++ [x] ++ vs.drop (k + 1)).length = n ∧ ∀ v ∈ vs.take k ++ [x] ++ vs.drop (k + 1), 1 ≤ v ∧ v ≤ 9999 := by
  have := v9.len
  refine ⟨by rw [List.length_append, List.length_append, List.length_drop, List.length_take]; show min k vs.length + 1 + (vs.length - (k + 1)) = n; omega, fun v hv => ?_⟩
  rcases List.mem_append.mp hv with h | h
  · rcases List.mem_append.mp h with h | h
    · exact v9.bd v (List.mem_of_mem_take h)
    · rw [List.mem_singleton.mp h]
      exact hx
  · exact v9.bd v (List.mem_of_mem_drop h)
/-- a moved cell -/
theorem moved_good {cs : List Cell} {vs : List Int} {zs' : List (Cell × Int)} {k : Nat} {fc : Cell} {x : Int} (gd : Good cs) (v9 : Vals9 cs.length vs) (hk : k < cs.length) (hf : fc ∉ cs ∧ InGrid fc) (hx : x ∈ vs)
    (p : zs'.Perm ((cs.zip vs).set k (fc, x))) (a : Asc zs') : Good (zs'.map (·.1)) ∧ (zs'.map (·.1)).length = cs.length ∧ (zs'.map (·.2)).length = (zs'.map (·.1)).length ∧ ∀ v ∈ zs'.map (·.2), 1 ≤ v ∧ v ≤ 9999 := by
  have zl : zs'.length = cs.length := by
    rw [p.length_eq, List.length_set, List.length_zip, v9.len]
    exact Nat.min_self _
  have mem : ∀ z ∈ zs', z = (fc, x) ∨ z ∈ cs.zip vs := fun z hz => by
    rcases List.mem_or_eq_of_mem_set (p.mem_iff.mp hz) with h | h
    · exact .inr h
    · exact .inl h
  refine ⟨⟨?_, fun c hc => ?_, fun e => ?_⟩, by rw [List.length_map, zl], by rw [List.length_map, List.length_map], fun v hv => ?_⟩
  · rw [List.pairwise_map]
    exact a
  · obtain ⟨z, hz, rfl⟩ := List.mem_map.mp hc
    rcases mem z hz with h | h
    · rw [h]
      exact hf.2
    · exact gd.grid _ (zip_cell h)
  · have : zs'.length = 0 := by
      have := congrArg List.length e
      rw [List.length_map] at this
      exact this
    omega
  · obtain ⟨z, hz, rfl⟩ := List.mem_map.mp hv
    rcases mem z hz with h | h
    · rw [h]
      exact v9.bd _ hx
    · exact v9.bd _ (List.of_mem_zip (show (z.1, z.2) ∈ _ from h)).2
theorem set_cells : ∀ {cs : List Cell} {vs : List Int} {k : Nat} {fc : Cell} {x : Int}, cs.length = vs.length → cs.Nodup → fc ∉ cs → (((cs.zip vs).set k (fc, x)).map (·.1)).Nodup
  | [], vs, k, fc, x, _, _, _ => by
    rw [List.zip_nil_left, List.set_nil]
    exact List.nodup_nil
  | c :: cs, [], k, fc, x, _, _, _ => by
    rw [List.zip_nil_right, List.set_nil]
    exact List.nodup_nil
  | c :: cs, v :: vs, 0, fc, x, hl, nd, nf => by
    show (fc :: (cs.zip vs).map (·.1)).Nodup
    obtain ⟨n1, n2⟩ := List.nodup_cons.mp nd
    refine List.nodup_cons.mpr ⟨fun h => ?_, ?_⟩
    · obtain ⟨z, hz, e⟩ := List.mem_map.mp h
      exact nf (List.mem_cons_of_mem _ (by rw [← e]; exact zip_cell hz))
    · have e : (cs.zip vs).map (·.1) = cs := by rw [← List.unzip_fst, List.unzip_zip (Nat.succ.inj hl)]
      rw [e]
      exact n2
  | c :: cs, v :: vs, k + 1, fc, x, hl, nd, nf => by
    obtain ⟨n1, n2⟩ := List.nodup_cons.mp nd
    have ih := set_cells (vs := vs) (k := k) (x := x) (Nat.succ.inj hl) n2 (fun h => nf (List.mem_cons_of_mem _ h))
    show (c :: ((cs.zip vs).set k (fc, x)).map (·.1)).Nodup
    refine List.nodup_cons.mpr ⟨fun h => ?_, ih⟩
    obtain ⟨z, hz, e⟩ := List.mem_map.mp h
    rcases List.mem_or_eq_of_mem_set hz with h | h
    · exact n1 (by rw [← e]; exact zip_cell h)
    · rw [h] at e
      have e : fc = c := e
      exact nf (by rw [e]; exact List.mem_cons_self ..)
theorem keepL_seqT {K : PySem.W.Frag} {H H' : Hp} {a L : Addr} {xs ys : List V} (hL : H L = some (.lst ys)) (e : KeepX L H H') (h : SqT K H a xs) : SqT K H' a xs := by
  rcases h with (h | ⟨o, h⟩) | h
  · exact .inl (.inl (e _ _ (fun q => by rw [q, hL] at h; cases h) h))
  · exact .inl (.inr ⟨o, e _ _ (fun q => by rw [q, hL] at h; cases h) h⟩)
  · exact .inr h
theorem KTt.of_keepL {H H' : Hp} {L : Addr} {ys : List V} (hL : H L = some (.lst ys)) (e : KeepX L H H') : KTt H H' := fun a xs h => e _ _ (fun q => by rw [q, hL] at h; cases h) h
theorem PlanT.keepL {K : PySem.W.Frag} {H H' : Hp} {a L : Addr} {cs : List Cell} {ys : List V} (hL : H L = some (.lst ys)) (e : KeepX L H H') (h : PlanT K H a cs) : PlanT K H' a cs := by
  obtain ⟨xs, h1, h2⟩ := h
  exact ⟨xs, keepL_seqT hL e h1, cellsT_kt (KTt.of_keepL hL e) h2⟩
theorem PoolO.keepL {H H' : Hp} {p L : Addr} (hp : PoolO (H p)) (n : L ≠ p) (e : KeepX L H H') : PoolO (H' p) := by
  obtain ⟨a, b, c, z, r⟩ := hp
  exact ⟨a, b, c, e _ _ (Ne.symm n) z, r⟩
theorem paired_of {α β : Type} {R : α → β → Prop} : ∀ {l : List α} {m : List β}, l.length = m.length → (∀ (j : Nat) (x : α) (y : β), l[j]? = some x → m[j]? = some y → R x y) → Paired R l m
  | [], [], _, _ => .nil
  | [], _ :: _, h, _ => by cases h
  | _ :: _, [], h, _ => by cases h
  | x :: l, y :: m, h, k => .cons (k 0 x y rfl rfl) (paired_of (Nat.succ.inj h) fun j a b h1 h2 => k (j + 1) a b h1 h2)
theorem freeR_more (cs : List Cell) (i j : Nat) : freeR cs i (j + 1) = freeR cs i j ++ (if (((i : Nat) : Int), ((j : Nat) : Int)) ∈ cs then [] else [(((i : Nat) : Int), ((j : Nat) : Int))]) := by
  unfold freeR
  rw [List.range_succ, List.map_append, List.filter_append]
  congr 1
  rw [List.map_cons, List.map_nil, List.filter_cons, List.filter_nil]
  by_cases c : (((i : Nat) : Int), ((j : Nat) : Int)) ∈ cs
  · rw [if_pos c, if_neg (by simpa using c)]
  · rw [if_neg c, if_pos (by simpa using c)]
abbrev sNear : Stmt := topS 55
abbrev nNear : List Str := ["_law_pool_here", "_law_spots", "_law_some", "_law_way", "_law_at", "_law_free", "_law_high", "_law_pairs", "_law_side"]
theorem scNear : FnScope nNear ["_law_pool_here", "_law_spots", "_law_some"] (defScope sNear) := ⟨rfl, rfl, rfl, by decide +kernel, rfl, by decide +kernel, by decide +kernel⟩
section
variable {P : Program} {w : World} {K : PySem.W.Frag} {mg : Str → Option Value} {base : Heap}
theorem ok_near {f fD fP : Addr} {fd fdD fdP : FuncData} (F : Fun K "_law_near" "_law_near" sNear f fd)
    (GD : FnOk P w K mg base CX0 1 fD fdD ["_law_pool_here", "_law_most"] spDraw) (bD : Binds K fdD ["_law_pool_here", "_law_most"] []) (gD : mg "_law_draw" = some (.ref fD)) (kD : PySem.W.keepIn K (.ref fD) = true)
    (GP : FnOk P w K mg base CX0 1 fP fdP ["_law_pairs"] (spPaired K)) (bP : Binds K fdP ["_law_pairs"] []) (gP : mg "_law_paired" = some (.ref fP)) (kP : PySem.W.keepIn K (.ref fP) = true)
    (ml : mg "len" = none) (mr : mg "range" = none) (mL : mg "list" = none) (mz : mg "zip" = none) : FnOk P w K mg base CX0 2 f fd ["_law_pool_here", "_law_spots", "_law_some"] (spNear K) := by
  refine F.ok scNear (fun vs H Q E h => ?_) (fun cdv A outer s H vs Q E hr h => ?_)
  · obtain ⟨p, a, t, cs, vs, rfl, _⟩ := h
    rfl
  · obtain ⟨p, a, t, cs, vs, rfl, po, hp, gd, hl, ht, v9, q⟩ := h
    have nd := scNear.nd
    have hu : (A.deeper (envOfC "_law_near" (defScope sNear) s.heap.objs.size f cdv)).units + 65 < cLine := by
      have := hr.un
      omega
    refine ⟨_, pss_cons (ps_par3 (i := 3) (j := 4) (l := 5) (by rfl) nd rfl rfl rfl (by decide) (by decide) (by decide) rfl rfl rfl
        (pa_cons (pe_call GD hr (by rfl) gD kD bD .nil pass0 (pa_cons (pv 0) (pa_cons pe_int pa_nil))) (pa_cons (pe_call GD hr (by rfl) gD kD bD .nil pass0 (pa_cons (pv 0) (pa_cons (pe_callB call_len_seq (by rfl) ml PySem.boot_len (pa_cons (pv 2) pa_nil)) pa_nil))) (pa_cons (pe_lst pa_nil) pa_nil))) (by rfl))
      (pss_cons (ps_if (pt_cmpR op_eq (pv 3) pe_int (nomark _)) (pss_one (ps_ret (pe_tup (pa_cons (pv 1) (pa_cons (pe_op (r := rCatA K) op_catA (pe_slice (r := rSlA K) sl_tupA (pv 2) (po_some (pv 4)) po_none) (pe_slice (r := rSlA K) sl_tupA (pv 2) po_none (po_some (pv 4)))) pa_nil))))) pss_nil)
      (pss_cons (ps_if (pt_cmpR op_eq (pv 3) pe_int (nomark _)) (pss_one (ps_ret (pe_tup (pa_cons (pv 1) (pa_cons (pe_op (r := rCatA K) op_catA (pe_op (r := rCatA K) op_catA (pe_slice (r := rSlA K) sl_tupA (pv 2) po_none (po_some (pv 4)))
          (pe_tup (pa_cons (pe_op op_add (pe_op op_mod (pe_ix (r := rIxT K) ix_tup (pv 2) (pv 4) (fun _ _ => rfl)) pe_int) pe_int) pa_nil))) (pe_slice (r := rSlA K) sl_tupA (pv 2) (po_some (pe_op op_add (pv 4) pe_int)) po_none)) pa_nil))))) pss_nil)
      (pss_cons (ps_for PassesOwn.never rfl (pi_range1 (by rfl) mr (pa_cons pe_int pa_nil)) (pg_name (i := 6) nd rfl (.inr rfl))
        (pss_one (ps_expr (pe_bm PySem.F.plainAttrs_list PySem.F.slot_list_extend PySem.F.type_list_extend mt_extend (pv 5) (pa_cons
          (pe_lc (own := [("_law_side", 8)]) (g := gName 8) rfl nd (pi_range1 (by rfl) mr (pa_cons pe_int pa_nil)) (blkOk_by (N := nNear) (sc := defScope sNear) (by decide +kernel)) (fun _ _ _ _ _ => pg_name (i := 8) nd rfl (Or.inl rfl))
            (fun _ _ _ _ _ => pts_one (pt_cmpR (r := rNotInT K) (op_notInT hu) (pe_tup (pa_cons (pv 6) (pa_cons (pv 8) pa_nil))) (pv 1) (by rfl)))
            (fun _ _ _ _ _ => pe_tup (pa_cons (pv 6) (pa_cons (pv 8) pa_nil)))) pa_nil)))))
      (pss_cons (ps_set (i := 7) nd rfl (.inl rfl) (pe_listZip rfl (by rfl) mL (by rfl) mz (pa_cons (pv 1) (pa_cons (pv 2) pa_nil))))
      (pss_cons (ps_asg (pe_tup (pa_cons (pe_ix ix_list (pv 5) (pe_call GD hr (by rfl) gD kD bD .nil pass0 (pa_cons (pv 0) (pa_cons (pe_callB call_len_seq (by rfl) ml PySem.boot_len (pa_cons (pv 5) pa_nil)) pa_nil))) (fun _ _ => rfl)) (pa_cons (pe_ix (r := rIxT K) ix_tup (pv 2) (pv 4) (fun _ _ => rfl)) pa_nil))) (pg_sub (pv 7) (pv 4) set_list))
      (pss_one (ps_ret (pe_call GP hr (by rfl) gP kP bP .nil pass0 (pa_cons (pv 7) pa_nil))))))))), ?_⟩
    have vl := v9.len
    obtain ⟨xs, hx, hc⟩ := id hp
    have n1 : 1 ≤ cs.length := by
      cases cs with
      | nil => exact absurd rfl gd.ne
      | cons c cs => exact Nat.succ_le_succ (Nat.zero_le _)
    refine ⟨_, rfl, p, 3, rfl, po, by decide, by decide, fun H1 way k1 po1 w0 w1 => ?_⟩
    have ht1 := keepX_seqT po k1 ht
    have hp1 := hp.keepX po k1
    refine ⟨_, rfl, _, rfl, t, _, rfl, .inr ht1, p, _, rfl, po1, by rw [List.length_map]; omega, by rw [List.length_map]; omega, fun H2 k k2 po2 k0 kl => ?_⟩
    rw [List.length_map] at kl
    obtain ⟨k, rfl⟩ := Int.eq_ofNat_of_zero_le k0
    have hk : k < vs.length := by omega
    have ht2 := keepX_seqT po1 k2 ht1
    have hp2 := hp1.keepX po1 k2
    have kx2 := k1.trans k2
    refine ⟨by show 0 ≤ sizeLine; decide, fun L nL => ?_⟩
    have sL := same_new (o := .lst []) nL
    have hL : upd H2 L (.lst []) L = some (.lst []) := upd_same
    have ht3 := same_seqT sL ht2
    have hp3 := hp2.same sL
    have po3 := po2.same sL
    have kx3 := kx2.trans (KeepX.of_same (p := p) sL)
    have sL3 := sL
    have nLp : L ≠ p := Ne.symm (po2.ne nL)
    generalize upd H2 L (.lst []) = H3 at hL ht3 hp3 po3 kx3 sL3
    clear sL hp2 ht2 po2 hp1 ht1 k1 k2 po1
    refine ⟨_, _, _, rfl, ?_⟩
    refine ⟨_, rfl, rfl, _, rfl, ite2 (fun e => ?_) (fun e => ?_)⟩
    · -- turned about
      refine ⟨_, rfl, _, rfl, _, rfl, _, rfl, ?_⟩
      dsimp only [tNoPart]
      refine slFrom_ok2 (n := k) ht3 (by rw [List.length_map]; omega) (fun G1 u s1 hu => ?_)
      refine ⟨_, rfl, _, rfl, _, rfl, ?_⟩
      refine slTo_ok2 (n := k) (same_seqT s1 ht3) (by rw [List.length_map]; omega) (fun G2 v s2 hv => ?_)
      refine catA_ok2 (same_seqT s2 hu) hv (by rw [List.length_drop, List.length_take, List.length_map]; omega) (fun G3 y s3 hy => ?_)
      refine ⟨by show 2 ≤ sizeLine; decide, fun T nT => ?_⟩
      have sT := same_new (o := .tup [.ref a, .ref y]) nT
      have s13 := ((s1.trans s2).trans s3).trans sT
      obtain ⟨l1, l2⟩ := rot_vals v9 k
      refine q _ T a y cs (vs.drop k ++ vs.take k) (kx3.trans (.of_same s13)) (po3.same s13) upd_same (hp3.same s13) gd hl ?_ l1 l2
      rw [List.map_append, List.map_drop, List.map_take]
      exact same_seqT sT hy
    · refine ⟨_, rfl, rfl, _, rfl, ite2 (fun e2 => ?_) (fun e2 => ?_)⟩
      · -- another value
        refine ⟨_, rfl, _, rfl, _, rfl, _, rfl, ?_⟩
        refine slTo_ok2 (n := k) ht3 (by rw [List.length_map]; omega) (fun G1 u s1 hu => ?_)
        refine ⟨_, rfl, _, rfl, t, _, _, .int (getI vs (k : Int)), rfl, rfl, same_seqT s1 ht3, atI_nat (getI_at hk), _, _, rfl, rfl, by show (0 : Int) < 9999; decide, _, _, rfl, rfl, by show 1 ≤ sizeLine; decide, fun Z nZ => ?_⟩
        have sZ := same_new (o := .tup [.int (getI vs (k : Int) % 9999 + 1)]) nZ
        refine catA_ok2 (same_seqT sZ hu) (SqT.of upd_same) (by rw [List.length_take, List.length_map]; show min k vs.length + 1 ≤ 64; omega) (fun G3 y s3 hy => ?_)
        refine ⟨_, rfl, _, rfl, _, _, rfl, rfl, _, rfl, ?_⟩
        dsimp only [tNoPart]
        have s13 := (s1.trans sZ).trans s3
        have ek : ((k : Int) + 1) = ((k + 1 : Nat) : Int) := by omega
        show rSlA K (.ref t) (some ((k : Int) + 1)) none G3 _
        rw [ek]
        refine slFrom_ok2 (n := k + 1) (same_seqT s13 ht3) (by rw [List.length_map]; omega) (fun G4 v s4 hv => ?_)
        refine catA_ok2 (same_seqT s4 hy) hv (by rw [List.length_append, List.length_drop, List.length_take, List.length_map]; show min k vs.length + 1 + (vs.length - (k + 1)) ≤ 64; omega) (fun G5 y5 s5 hy5 => ?_)
        refine ⟨by show 2 ≤ sizeLine; decide, fun T nT => ?_⟩
        have sT := same_new (o := .tup [.ref a, .ref y5]) nT
        have s15 := ((s13.trans s4).trans s5).trans sT
        obtain ⟨l1, l2⟩ := put_vals v9 (show k < cs.length by omega) (x := getI vs (k : Int) % 9999 + 1) (by omega)
        refine q _ T a y5 cs _ (kx3.trans (.of_same s15)) (po3.same s15) upd_same (hp3.same s15) gd hl ?_ l1 l2
        rw [List.map_append, List.map_append, List.map_drop, List.map_take]
        exact same_seqT sT hy5
      · -- a cell moved
        refine ⟨8, rfl, by decide, by decide, for_range (lo := 0) (n := 8) (fun i σ G => ∃ (y6 : Option V) (ls : List V), σ = [some (.ref p), some (.ref a), some (.ref t), some (.int way), some (.int (k : Nat)), some (.ref L), y6, none, none] ∧ KeepX L H3 G ∧ G L = some (.lst ls) ∧ CellsT G ls (freeC cs i)) ?_ ?_ ?_⟩
        · exact ⟨none, [], rfl, fun b o _ e => e, hL, .nil⟩
        · rintro i σ G hi ⟨y6, ls, rfl, kG, hLG, hls⟩
          have ei : (0 : Int) + (i : Int) = (i : Int) := Int.zero_add _
          have lsl : ls.length ≤ 64 := by
            rw [Paired.length hls]
            have := freeC_len cs i
            omega
          have plG := hp3.keepL hL kG
          rw [ei]
          refine ⟨_, rfl, .inl ⟨rfl, _, SqL.of hLG⟩, 8, rfl, by decide, by decide, fun D nD => ?_⟩
          have nLD : L ≠ D := ne_of_none hLG nD
          refine lc_range (lo := 0) (n := 8) (fun j G2 => ∃ acc, G2 D = some (.lst acc) ∧ CellsT G2 acc (freeR cs i j) ∧ (∀ b o, b ≠ D → G b = some o → G2 b = some o)) ?_ ?_ ?_
          · exact ⟨[], upd_same, .nil, fun b o n e => by rw [upd_ne n]; exact e⟩
          · rintro j G2 hj ⟨acc, a1, a2, a3⟩
            have s2 : Same G G2 := fun b o e => a3 b o (ne_of_none e nD) e
            have al : acc.length ≤ 8 := by
              rw [Paired.length a2]
              unfold freeR
              refine Nat.le_trans (List.length_filter_le _ _) ?_
              rw [List.length_map, List.length_range]
              omega
            have ej : (0 : Int) + (j : Int) = (j : Int) := Int.zero_add _
            rw [ej]
            refine ⟨rfl, _, rfl, _, rfl, by show 2 ≤ sizeLine; decide, fun Z nZ => ?_⟩
            have sZ := same_new (o := .tup [.int (i : Nat), .int (j : Nat)]) nZ
            have pl3 := plG.same (s2.trans sZ)
            have hD3 := sZ _ _ a1
            refine ⟨_, rfl, cellD (((i : Nat) : Int), ((j : Nat) : Int)), cs.map cellD, dp_cell (SqT.of upd_same), pl3.at.dp, cell_shaped _, plan_shaped cs, _, rfl, ?_⟩
            rw [in_plan, freeR_more]
            by_cases c : (((i : Nat) : Int), ((j : Nat) : Int)) ∈ cs
            · rw [decide_eq_true c, if_pos c, List.append_nil]
              refine iteF ⟨acc, hD3, cellsT_kt (KTt.of_same sZ) a2, fun b o n e => sZ _ _ (a3 b o n e)⟩
            · rw [decide_eq_false c, if_neg c]
              refine iteT ⟨_, rfl, _, rfl, by show 2 ≤ sizeLine; decide, fun Z2 nZ2 => ?_⟩
              have sZ2 := same_new (o := .tup [.int (i : Nat), .int (j : Nat)]) nZ2
              have hD4 := sZ2 _ _ hD3
              refine ⟨acc, hD4, small64 (by omega), acc ++ [.ref Z2], upd_same, ?_, fun b o n e => by rw [upd_ne n]; exact sZ2 _ _ (sZ _ _ (a3 b o n e))⟩
              exact cellsT_kt ((KTt.upd hD4)) (paired_append (cellsT_kt (KTt.of_same (sZ.trans sZ2)) a2) (.cons ⟨Z2, rfl, upd_same⟩ .nil))
          · rintro G2 ⟨acc, a1, a2, a3⟩
            have s2 : Same G G2 := fun b o e => a3 b o (ne_of_none e nD) e
            have al : acc.length ≤ 8 := by
              rw [Paired.length a2]
              unfold freeR
              refine Nat.le_trans (List.length_filter_le _ _) ?_
              rw [List.length_map, List.length_range]
              exact Nat.le_refl _
            have hL2 := s2 _ _ hLG
            refine ⟨L, D, ls, acc, rfl, rfl, hL2, a1, by rw [sizeLine_eq]; omega, ?_⟩
            refine ⟨_, ls ++ acc, rfl, fun b o n e => by rw [upd_ne n]; exact s2 _ _ (kG b o n e), upd_same, ?_⟩
            have ef : freeC cs (i + 1) = freeC cs i ++ freeR cs i 8 := by
              unfold freeC
              rw [List.range_succ, List.flatMap_append]
              show _ ++ (freeR cs i 8 ++ []) = _
              rw [List.append_nil]
            rw [ef]
            exact cellsT_kt (KTt.upd hL2) (paired_append (cellsT_kt (KTt.of_same s2) hls) a2)
        · rintro σ G ⟨y6, ls, rfl, kG, hLG, hls⟩
          have plG := hp3.keepL hL kG
          have htG := keepL_seqT hL kG ht3
          have poG := po3.keepL nLp kG
          have fne := freeC_ne (cs := cs) hl
          have fmem := fun c (h : c ∈ freeC cs 8) => freeC_mem h
          have flen := freeC_len cs 8
          generalize freeC cs 8 = fs at hls fne fmem flen
          have lsl := Paired.length hls
          have f1 : 1 ≤ fs.length := by
            cases fs with
            | nil => exact absurd rfl fne
            | cons _ _ => exact Nat.succ_le_succ (Nat.zero_le _)
          obtain ⟨xs', hx', hc'⟩ := id plG
          have xl := Paired.length hc'
          -- the pairs
          refine ⟨_, rfl, _, rfl, a, t, xs', vs.map V.int, rfl, hx', htG, by rw [List.length_map]; omega, fun H5 as D s5 al afr and' hpr hD nD => ?_⟩
          have hp5 : PrsT H5 (as.map V.ref) (cs.zip vs) := by
            refine paired_of (by rw [List.length_map, List.length_zip]; omega) fun j x z hj hz => ?_
            rw [List.getElem?_map] at hj
            cases ea : as[j]? with
            | none =>
              rw [ea] at hj
              cases hj
            | some r =>
              rw [ea] at hj
              cases hj
              obtain ⟨hz1, hz2⟩ := List.getElem?_zip_eq_some.mp hz
              have jl := (List.getElem?_eq_some_iff.mp hz1).1
              have exj := List.getElem?_eq_getElem (show j < xs'.length by omega)
              obtain ⟨c, hcj, tq, etq, hq⟩ := paired_get hc' exj
              rw [hz1] at hcj
              cases hcj
              have hv : (vs.map V.int)[j]? = some (V.int z.2) := by
                rw [List.getElem?_map, hz2]
                rfl
              have h5 := hpr j r _ _ ea exj hv
              rw [etq] at h5
              exact ⟨r, tq, rfl, h5, s5 _ _ hq⟩
          have hL5 := s5 _ _ hLG
          have po5 := poG.same s5
          have ht5 := same_seqT s5 htG
          have hls5 := cellsT_kt (KTt.of_same s5) hls
          have nDp : D ≠ p := Ne.symm (poG.ne nD)
          have psl : (as.map V.ref).length = cs.length := by
            rw [List.length_map]
            omega
          -- a free cell
          refine ⟨_, rfl, _, rfl, _, rfl, L, _, rfl, .inl (SqL.of hL5), p, _, rfl, po5, by omega, by omega, fun H6 m k6 po6 m0 m1 => ?_⟩
          obtain ⟨m, rfl⟩ := Int.eq_ofNat_of_zero_le m0
          have hL6 := k6 _ _ nLp hL5
          have kt6 : KTt H5 H6 := KTt.of_keepX po5 k6
          have exm := List.getElem?_eq_getElem (show m < ls.length by omega)
          obtain ⟨fc, hfc, tf, etf, hf⟩ := paired_get (cellsT_kt kt6 hls5) exm
          obtain ⟨fc1, fc2⟩ := fmem fc (List.mem_of_getElem? hfc)
          refine ⟨L, _, _, _, rfl, rfl, SqL.of hL6, atI_nat exm, ?_⟩
          rw [etf]
          refine ⟨_, rfl, _, rfl, t, _, _, .int (getI vs (k : Int)), rfl, rfl, keepX_seqT po5 k6 ht5, atI_nat (getI_at hk), by show 2 ≤ sizeLine; decide, fun Z nZ => ?_⟩
          have sZ := same_new (o := .tup [.ref tf, .int (getI vs (k : Int))]) nZ
          have hD6 := k6 _ _ nDp hD
          have hD7 := sZ _ _ hD6
          refine ⟨_, rfl, _, rfl, D, _, (k : Int), k, rfl, rfl, hD7, ixN_at (by omega), ?_⟩
          have hp7 := (hp5.ktt kt6).ktt (KTt.of_same sZ)
          have hxk : getI vs (k : Int) ∈ vs := by
            unfold getI
            rw [Int.toNat_natCast, List.getD_eq_getElem?_getD, List.getElem?_eq_getElem hk]
            exact List.getElem_mem hk
          have prs : PrsT (upd H6 Z (.tup [.ref tf, .int (getI vs (k : Int))])) ((as.map V.ref).set k (.ref Z)) ((cs.zip vs).set k (fc, getI vs (k : Int))) := by
            refine paired_of (by rw [List.length_set, List.length_set]; exact Paired.length hp7) fun j x z hj hz => ?_
            by_cases c : k = j
            · subst c
              rw [List.getElem?_set_self (by omega)] at hj
              rw [List.getElem?_set_self (by rw [List.length_zip]; omega)] at hz
              cases hj
              cases hz
              exact ⟨Z, tf, rfl, upd_same, sZ _ _ hf⟩
            · rw [List.getElem?_set_ne c] at hj hz
              obtain ⟨z', hz', r⟩ := paired_get hp7 hj
              rw [hz] at hz'
              cases hz'
              exact r
          refine ⟨_, rfl, D, _, (cs.zip vs).set k (fc, getI vs (k : Int)), rfl, upd_same, prs.ktt (KTt.upd hD7), set_cells (by omega) (nodup_of_asc gd.asc) fc1, by rw [List.length_set, List.length_zip]; omega, fun H8 T a' t' zs' s8 pm asc' hT hpl ht' => ?_⟩
          obtain ⟨g1, g2, g3, g4⟩ := moved_good gd v9 (show k < cs.length by omega) ⟨fc1, fc2⟩ hxk pm asc'
          have po7 : PoolO (upd (upd H6 Z (.tup [.ref tf, .int (getI vs (k : Int))])) D (.lst ((as.map V.ref).set k (.ref Z))) p) := by
            rw [upd_ne (Ne.symm nDp)]
            exact po6.same sZ
          refine q H8 T a' t' _ _ (fun b o nb e => ?_) (po7.same s8) hT hpl g1 (by omega) (SqT.of ht') g3 g4
          have e2 := kx2 b o nb e
          have e3 := kG b o (ne_of_none e2 nL) (sL3 _ _ e2)
          have e5 := s5 _ _ e3
          have nbD : b ≠ D := ne_of_none e3 nD
          refine s8 _ _ ?_
          rw [upd_ne nbD]
          exact sZ _ _ (k6 _ _ nb e5)
end
end KS
namespace KS
open PySem PySem.Spec PyProof.Rows L2 TL
/-! ### unlike tables have unlike texts -/
theorem atC_some : ∀ {zs : List (Cell × Int)} {c : Cell} {v : Int}, (zs.map (·.1)).Nodup → (c, v) ∈ zs → atC zs c = some v
  | z :: zs, c, v, nd, h => by
    rw [List.map_cons, List.nodup_cons] at nd
    rcases List.mem_cons.mp h with e | h
    · rw [← e]
      exact atC_eq rfl
    · have ne : z.1 ≠ c := fun e => nd.1 (by rw [e]; exact List.mem_map.mpr ⟨(c, v), h, rfl⟩)
      rw [atC_ne ne]
      exact atC_some nd.2 h
theorem atC_perm {zs zs' : List (Cell × Int)} (p : zs.Perm zs') (nd : (zs.map (·.1)).Nodup) (c : Cell) : atC zs c = atC zs' c := by
  have nd' := (p.map (·.1)).nodup_iff.mp nd
  cases e : atC zs c with
  | some v => exact (atC_some nd' (p.mem_iff.mp (atC_mem e))).symm
  | none =>
    cases e' : atC zs' c with
    | none => rfl
    | some v =>
      have := atC_some nd (p.mem_iff.mpr (atC_mem e'))
      rw [e] at this
      cases this
theorem asc_nd {zs : List (Cell × Int)} (h : Asc zs) : (zs.map (·.1)).Nodup := by
  rw [List.nodup_iff_pairwise_ne, List.pairwise_map]
  refine h.imp fun {a b} q e => ?_
  rw [e] at q
  exact lt2_irr q
theorem ascZ_ext : ∀ {zs zs' : List (Cell × Int)}, Asc zs → Asc zs' → (∀ c, atC zs c = atC zs' c) → zs = zs'
  | [], [], _, _, _ => rfl
  | [], z :: zs', _, _, h => by
    have := h z.1
    rw [atC_eq rfl] at this
    cases this
  | z :: zs, [], _, _, h => by
    have := h z.1
    rw [atC_eq rfl] at this
    cases this
  | z :: zs, y :: ys, h1, h2, h => by
    obtain ⟨a1, a2⟩ := List.pairwise_cons.mp h1
    obtain ⟨b1, b2⟩ := List.pairwise_cons.mp h2
    have none1 : ∀ c, (lt2 c z.1 ∨ c = z.1) → atC zs c = none := fun c hc => atC_none fun x hx e => by
      have := a1 x hx
      rw [e] at this
      rcases hc with q | q
      · exact lt2_asym this q
      · rw [q] at this
        exact lt2_irr this
    have none2 : ∀ c, (lt2 c y.1 ∨ c = y.1) → atC ys c = none := fun c hc => atC_none fun x hx e => by
      have := b1 x hx
      rw [e] at this
      rcases hc with q | q
      · exact lt2_asym this q
      · rw [q] at this
        exact lt2_irr this
    have ek : z.1 = y.1 := by
      rcases lt2_3 z.1 y.1 with q | q | q
      · have t := h z.1
        rw [atC_eq rfl, atC_ne (fun e => by rw [e] at q; exact lt2_irr q), none2 _ (.inl q)] at t
        cases t
      · exact q
      · have t := h y.1
        rw [atC_eq rfl, atC_ne (fun e => by rw [e] at q; exact lt2_irr q), none1 _ (.inl q)] at t
        cases t
    have ev : z.2 = y.2 := by
      have t := h z.1
      rw [atC_eq rfl, atC_eq ek.symm] at t
      exact Option.some.inj t
    have ez : z = y := Prod.ext ek ev
    subst ez
    congr 1
    refine ascZ_ext a2 b2 fun c => ?_
    by_cases e : z.1 = c
    · rw [← e, none1 _ (.inr rfl), none2 _ (.inr rfl)]
    · have t := h c
      rw [atC_ne e, atC_ne e] at t
      exact t
theorem nm_inj {a b : Int} (ha : 1 ≤ a) (hb : 1 ≤ b) (h : nmS a = nmS b) : a = b := by
  have e := congrArg tl h
  rw [nm_tl (by omega), nm_tl (by omega)] at e
  have := numL_inj e
  omega
theorem nm_dot {a : Int} (ha : 1 ≤ a) : nmS a ≠ dotS := fun h => by
  have e := congrArg tl h
  rw [nm_tl (by omega), dot_tl] at e
  have := numL_digits a.toNat 46 (by rw [e]; exact List.mem_singleton.mpr rfl)
  omega
theorem wd_atC {zs zs' : List (Cell × Int)} {c d : Cell} (hv : ∀ z ∈ zs, 1 ≤ z.2) (hv' : ∀ z ∈ zs', 1 ≤ z.2) (h : wdAt zs c = wdAt zs' d) : atC zs c = atC zs' d := by
  rcases wd_cases zs c with ⟨v, e, w⟩ | ⟨e, w⟩ <;> rcases wd_cases zs' d with ⟨v', e', w'⟩ | ⟨e', w'⟩
  · rw [w, w'] at h
    have ev : v = v' := nm_inj (hv _ (atC_mem e)) (hv' _ (atC_mem e')) h
    rw [e, e', ev]
  · rw [w, w'] at h
    exact absurd h (nm_dot (hv _ (atC_mem e)))
  · rw [w, w'] at h
    exact absurd h.symm (nm_dot (hv' _ (atC_mem e')))
  · rw [e, e']
/-- the pool stands still behind it -/
def spRightP : Sp := fun vs H Q _ => ∃ p : Addr, vs = [.ref p] ∧ PoolO (H p) ∧ ∀ H', KeepX p H H' → PoolO (H' p) → Q (.bl true) H'
def gridW (cs : List Cell) (vs : List Int) : List (List Str) := (List.range (hiN cs)).map (rowW cs vs)
theorem page_grid {cs : List Cell} {vs : List Int} (h : Vals9 cs.length vs) : (Txt.split (page cs vs) "\n").map (fun s => Txt.split s " ") = gridW cs vs := by
  rw [page_split h]
  unfold pgR gridW
  rw [List.map_map]
  exact List.map_congr_left fun r _ => row_split h r
theorem atC_out {cs : List Cell} {vs : List Int} (gd : Good cs) {c : Cell} (h : ¬ (0 ≤ c.1 ∧ c.1 < hiN cs ∧ 0 ≤ c.2 ∧ c.2 < wiN cs)) : atC (cs.zip vs) c = none := by
  refine atC_none fun z hz e => h ?_
  have hc := zip_cell hz
  have g := gd.grid _ hc
  have a := in_hi hc
  have b := in_wi hc
  rw [e] at g a b
  exact ⟨g.1, a, g.2.2.1, b⟩
theorem grid_inj {cs cs' : List Cell} {vs vs' : List Int} (gd : Good cs) (gd' : Good cs') (v9 : Vals9 cs.length vs) (v9' : Vals9 cs'.length vs') (h : gridW cs vs = gridW cs' vs') : cs = cs' ∧ vs = vs' := by
  have hv := fun z hz => (zip_vals v9 z hz).1
  have hv' := fun z hz => (zip_vals v9' z hz).1
  have eh : hiN cs = hiN cs' := by
    have := congrArg List.length h
    unfold gridW at this
    rw [List.length_map, List.length_map, List.length_range, List.length_range] at this
    exact this
  have er : ∀ r, r < hiN cs → rowW cs vs r = rowW cs' vs' r := fun r hr => by
    have := congrArg (fun l : List (List Str) => l[r]?) h
    unfold gridW at this
    rw [List.getElem?_map, List.getElem?_map, List.getElem?_range hr, List.getElem?_range (by omega)] at this
    exact Option.some.inj this
  have ew : wiN cs = wiN cs' := by
    have := congrArg List.length (er 0 (by unfold hiN; omega))
    unfold rowW at this
    rw [List.length_map, List.length_map, List.length_range, List.length_range] at this
    exact this
  have ec : ∀ c, atC (cs.zip vs) c = atC (cs'.zip vs') c := by
    rintro ⟨c1, c2⟩
    by_cases k : 0 ≤ c1 ∧ c1 < hiN cs ∧ 0 ≤ c2 ∧ c2 < wiN cs
    · obtain ⟨k1, k2, k3, k4⟩ := k
      obtain ⟨r, rfl⟩ := Int.eq_ofNat_of_zero_le k1
      obtain ⟨j, rfl⟩ := Int.eq_ofNat_of_zero_le k3
      have := congrArg (fun l : List Str => l[j]?) (er r (by omega))
      unfold rowW at this
      rw [List.getElem?_map, List.getElem?_map, List.getElem?_range (by omega), List.getElem?_range (by omega)] at this
      exact wd_atC hv hv' (Option.some.inj this)
    · rw [atC_out gd k, atC_out gd' (by rw [← eh, ← ew]; exact k)]
  have ez := ascZ_ext (asc_zip gd.asc) (asc_zip gd'.asc) ec
  have l1 : cs.length = vs.length := v9.len.symm
  have l2 : cs'.length = vs'.length := v9'.len.symm
  have u1 := congrArg List.unzip ez
  rw [List.unzip_zip l1, List.unzip_zip l2, Prod.mk.injEq] at u1
  exact u1
theorem page_inj {cs cs' : List Cell} {vs vs' : List Int} (gd : Good cs) (gd' : Good cs') (v9 : Vals9 cs.length vs) (v9' : Vals9 cs'.length vs') (h : page cs vs = page cs' vs') : cs = cs' ∧ vs = vs' := by
  refine grid_inj gd gd' v9 v9' ?_
  rw [← page_grid v9, ← page_grid v9', h]
/-! ### rows and columns exchanged -/
def swC (z : Cell × Int) : Cell × Int := ((z.1.2, z.1.1), z.2)
theorem atC_sw : ∀ (zs : List (Cell × Int)) (a b : Int), atC (zs.map swC) (a, b) = atC zs (b, a)
  | [], _, _ => rfl
  | z :: zs, a, b => by
    have ih := atC_sw zs a b
    obtain ⟨⟨x, y⟩, v⟩ := z
    rw [List.map_cons]
    by_cases e : (x, y) = (b, a)
    · rw [atC_eq (z := ((x, y), v)) e, atC_eq (z := swC ((x, y), v)) (by rw [Prod.mk.injEq] at e; obtain ⟨e1, e2⟩ := e; subst e1; subst e2; rfl)]
      rfl
    · rw [atC_ne (z := ((x, y), v)) e, atC_ne (z := swC ((x, y), v)) (fun q => e (by
        have q : (y, x) = (a, b) := q
        rw [Prod.mk.injEq] at q
        rw [q.1, q.2])), ih]
theorem topI_mem {l m : List Int} (h : ∀ x, x ∈ l ↔ x ∈ m) : topI l = topI m :=
  Int.le_antisymm (topI_le l _ (topI_0 m) fun x hx => topI_ge m x ((h x).mp hx)) (topI_le m _ (topI_0 l) fun x hx => topI_ge l x ((h x).mpr hx))
theorem zip_parts : ∀ zs : List (Cell × Int), (zs.map (·.1)).zip (zs.map (·.2)) = zs
  | [] => rfl
  | z :: zs => by
    show (z.1, z.2) :: (zs.map (·.1)).zip (zs.map (·.2)) = z :: zs
    rw [zip_parts zs]
theorem turn_sides {cs : List Cell} {vs : List Int} {zs' : List (Cell × Int)} (hl : cs.length = vs.length) (p : zs'.Perm ((cs.zip vs).map swC)) : hiN (zs'.map (·.1)) = wiN cs ∧ wiN (zs'.map (·.1)) = hiN cs := by
  have e1 : (cs.zip vs).map (·.1) = cs := by rw [← List.unzip_fst, List.unzip_zip hl]
  have m : ∀ c : Cell, c ∈ zs'.map (·.1) ↔ (c.2, c.1) ∈ cs := by
    intro c
    constructor
    · intro h
      obtain ⟨z, hz, rfl⟩ := List.mem_map.mp h
      obtain ⟨y, hy, rfl⟩ := List.mem_map.mp (p.mem_iff.mp hz)
      exact zip_cell hy
    · intro h
      rw [← e1] at h
      obtain ⟨y, hy, e⟩ := List.mem_map.mp h
      refine List.mem_map.mpr ⟨swC y, p.mem_iff.mpr (List.mem_map.mpr ⟨y, hy, rfl⟩), ?_⟩
      show (y.1.2, y.1.1) = c
      rw [e]
  constructor
  · unfold hiN wiN
    rw [topI_mem (l := (zs'.map (·.1)).map (·.1)) (m := cs.map (·.2)) fun x => ?_]
    constructor
    · intro h
      obtain ⟨c, hc, rfl⟩ := List.mem_map.mp h
      exact List.mem_map.mpr ⟨_, (m c).mp hc, rfl⟩
    · intro h
      obtain ⟨c, hc, rfl⟩ := List.mem_map.mp h
      exact List.mem_map.mpr ⟨(c.2, c.1), (m _).mpr hc, rfl⟩
  · unfold hiN wiN
    rw [topI_mem (l := (zs'.map (·.1)).map (·.2)) (m := cs.map (·.1)) fun x => ?_]
    constructor
    · intro h
      obtain ⟨c, hc, rfl⟩ := List.mem_map.mp h
      exact List.mem_map.mpr ⟨_, (m c).mp hc, rfl⟩
    · intro h
      obtain ⟨c, hc, rfl⟩ := List.mem_map.mp h
      exact List.mem_map.mpr ⟨(c.2, c.1), (m _).mpr hc, rfl⟩
theorem turn_good {cs : List Cell} {vs : List Int} {zs' : List (Cell × Int)} (gd : Good cs) (v9 : Vals9 cs.length vs) (p : zs'.Perm ((cs.zip vs).map swC)) (a : Asc zs') : Good (zs'.map (·.1)) ∧ (zs'.map (·.1)).length = cs.length ∧ Vals9 (zs'.map (·.1)).length (zs'.map (·.2)) := by
  have hl : cs.length = vs.length := v9.len.symm
  have zl : zs'.length = cs.length := by
    rw [p.length_eq, List.length_map, List.length_zip, ← hl]
    exact Nat.min_self _
  refine ⟨⟨by rw [List.pairwise_map]; exact a, fun c hc => ?_, fun e => ?_⟩, by rw [List.length_map, zl], ?_⟩
  · obtain ⟨z, hz, rfl⟩ := List.mem_map.mp hc
    obtain ⟨y, hy, rfl⟩ := List.mem_map.mp (p.mem_iff.mp hz)
    have g := gd.grid _ (zip_cell hy)
    exact ⟨g.2.2.1, g.2.2.2, g.1, g.2.1⟩
  · have : zs'.length = 0 := by
      have := congrArg List.length e
      rw [List.length_map] at this
      exact this
    have : cs.length ≠ 0 := fun z => gd.ne (List.eq_nil_of_length_eq_zero z)
    omega
  · have pv : (zs'.map (·.2)).Perm vs := by
      have := p.map (·.2)
      have e : (((cs.zip vs).map swC).map (·.2)) = vs := by
        rw [List.map_map]
        have : (cs.zip vs).map (·.2) = vs := by rw [← List.unzip_snd, List.unzip_zip hl]
        exact this
      rw [e] at this
      exact this
    rw [List.length_map, zl]
    exact v9.perm pv.symm
theorem turn_grid {cs : List Cell} {vs : List Int} {zs' : List (Cell × Int)} (gd : Good cs) (v9 : Vals9 cs.length vs) (p : zs'.Perm ((cs.zip vs).map swC)) (a : Asc zs') :
    gridW (zs'.map (·.1)) (zs'.map (·.2)) = (List.range (wiN cs)).map fun j => (List.range (hiN cs)).map fun r => wdAt (cs.zip vs) (((r : Nat) : Int), ((j : Nat) : Int)) := by
  obtain ⟨s1, s2⟩ := turn_sides v9.len.symm p
  unfold gridW
  rw [s1]
  refine List.map_congr_left fun j _ => ?_
  unfold rowW
  rw [s2, zip_parts]
  refine List.map_congr_left fun r _ => ?_
  unfold wdAt
  rw [atC_perm p (asc_nd a), atC_sw]
end KS
namespace KS
open PySem PySem.Spec PyProof.Rows L2
theorem pe_never {X : Cx} {e : Expr} : PE X e (fun _ _ _ => False) := ⟨fun _ _ _ _ _ _ h => h.elim⟩
/-! ### small programs, spelt out -/
mutual
def Stp.sm : Stp → Prop
  | .w l => l.length ≤ 6
  | .r n b => n ≤ 3 ∧ smL b
def smL : List Stp → Prop
  | [] => True
  | s :: b => s.sm ∧ smL b
end
theorem smL_app : ∀ {a b : List Stp}, smL (a ++ b) ↔ smL a ∧ smL b
  | [], b => by rw [List.nil_append]; simp only [smL]; exact ⟨fun h => ⟨trivial, h⟩, fun h => h.2⟩
  | s :: a, b => by
    rw [List.cons_append]
    simp only [smL]
    rw [smL_app (a := a)]
    exact ⟨fun ⟨x, y, z⟩ => ⟨⟨x, y⟩, z⟩, fun ⟨⟨x, y⟩, z⟩ => ⟨x, y, z⟩⟩
theorem sm_mem : ∀ {b : List Stp} {s : Stp}, smL b → s ∈ b → s.sm
  | [], _, _, h => by cases h
  | x :: b, s, o, h => by
    simp only [smL] at o
    rcases List.mem_cons.mp h with e | h
    · subst e
      exact o.1
    · exact sm_mem o.2 h
mutual
def Stp.spell : Stp → List Bool
  | .w l => l
  | .r n b => (List.replicate n.toNat (spellL b)).flatten
def spellL : List Stp → List Bool
  | [] => []
  | s :: b => s.spell ++ spellL b
end
theorem spellL_app : ∀ a b : List Stp, spellL (a ++ b) = spellL a ++ spellL b
  | [], b => rfl
  | s :: a, b => by
    rw [List.cons_append]
    simp only [spellL]
    rw [spellL_app a b, List.append_assoc]
theorem spellL_take {ss : List Stp} {i : Nat} {s : Stp} (h : ss[i]? = some s) : spellL (ss.take (i + 1)) = spellL (ss.take i) ++ s.spell := by
  rw [List.take_add_one, h, spellL_app]
  show _ ++ spellL [s] = _
  simp only [spellL, List.append_nil]
theorem countP_rep (k : Bool) (l : List Bool) : ∀ n : Nat, ((List.replicate n l).flatten).countP (fun b => b == k) = n * l.countP fun b => b == k
  | 0 => by rw [Nat.zero_mul]; rfl
  | n + 1 => by
    rw [List.replicate_succ, List.flatten_cons, List.countP_append, countP_rep k l n, Nat.succ_mul, Nat.add_comm]
mutual
theorem spell_cnt (k : Bool) : ∀ s : Stp, s.ok → ((s.spell.countP fun b => b == k : Nat) : Int) = s.cnt k
  | .w l, _ => by simp only [Stp.spell, Stp.cnt]
  | .r n b, h => by
    simp only [Stp.ok] at h
    simp only [Stp.spell, Stp.cnt]
    rw [countP_rep, Int.natCast_mul, spellL_cnt k b h.2.2, Int.toNat_of_nonneg (by omega)]
theorem spellL_cnt (k : Bool) : ∀ b : List Stp, okL b → (((spellL b).countP fun b => b == k : Nat) : Int) = cntL k b
  | [], _ => by simp only [spellL, cntL]; rfl
  | s :: b, h => by
    simp only [okL] at h
    simp only [spellL, cntL]
    rw [List.countP_append, Int.natCast_add, spell_cnt k s h.1, spellL_cnt k b h.2]
end
mutual
theorem spell_len : ∀ s : Stp, s.sm → s.ok → s.spell.length ≤ 6 * s.steps * 3 ^ s.nest
  | .w l, h, _ => by
    simp only [Stp.sm] at h
    simp only [Stp.spell, Stp.steps, Stp.nest]
    omega
  | .r n b, h, o => by
    simp only [Stp.sm] at h
    simp only [Stp.ok] at o
    have ih := spellL_len b h.2 o.2.2
    simp only [Stp.spell, Stp.steps, Stp.nest]
    rw [List.length_flatten, List.map_replicate, List.sum_replicate_nat]
    have e : 3 ^ (1 + nestL b) = 3 * 3 ^ nestL b := by rw [Nat.add_comm, Nat.pow_succ, Nat.mul_comm]
    rw [e]
    have m1 : n.toNat * (spellL b).length ≤ 3 * (6 * stepsL b * 3 ^ nestL b) := Nat.mul_le_mul (by omega) ih
    have e2 : 3 * (6 * stepsL b * 3 ^ nestL b) = 6 * stepsL b * (3 * 3 ^ nestL b) := Nat.mul_left_comm _ _ _
    have m2 : 6 * stepsL b * (3 * 3 ^ nestL b) ≤ 6 * (1 + stepsL b) * (3 * 3 ^ nestL b) := Nat.mul_le_mul_right _ (by omega)
    omega
theorem spellL_len : ∀ b : List Stp, smL b → okL b → (spellL b).length ≤ 6 * stepsL b * 3 ^ nestL b
  | [], _, _ => by simp only [spellL, stepsL, nestL]; decide
  | s :: b, h, o => by
    simp only [smL] at h
    simp only [okL] at o
    have i1 := spell_len s h.1 o.1
    have i2 := spellL_len b h.2 o.2
    simp only [spellL, stepsL, nestL]
    rw [List.length_append]
    have p1 : 3 ^ s.nest ≤ 3 ^ (max s.nest (nestL b)) := Nat.pow_le_pow_right (by decide) (by omega)
    have p2 : 3 ^ nestL b ≤ 3 ^ (max s.nest (nestL b)) := Nat.pow_le_pow_right (by decide) (by omega)
    have m1 : 6 * s.steps * 3 ^ s.nest ≤ 6 * s.steps * 3 ^ (max s.nest (nestL b)) := Nat.mul_le_mul_left _ p1
    have m2 : 6 * stepsL b * 3 ^ nestL b ≤ 6 * stepsL b * 3 ^ (max s.nest (nestL b)) := Nat.mul_le_mul_left _ p2
    have e : 6 * (s.steps + stepsL b) * 3 ^ (max s.nest (nestL b)) = 6 * s.steps * 3 ^ (max s.nest (nestL b)) + 6 * stepsL b * 3 ^ (max s.nest (nestL b)) := by rw [Nat.mul_add, Nat.add_mul]
    omega
end
theorem spellL_small {b : List Stp} (h : smL b) (o : okL b) (hs : stepsL b ≤ 12) (hn : nestL b ≤ 2) : (spellL b).length ≤ 648 := by
  have i := spellL_len b h o
  have p : 3 ^ nestL b ≤ 3 ^ 2 := Nat.pow_le_pow_right (by decide) hn
  have m : 6 * stepsL b * 3 ^ nestL b ≤ 72 * 3 ^ 2 := Nat.mul_le_mul (by omega) p
  omega
/-- a word, however often -/
def rRepG : R2 := fun x y H Q => ∃ (wd : List Bool) (n : Int), x = .str (wS wd) ∧ y = .int n ∧ 1 ≤ n ∧ n ≤ 400 ∧ wd.length ≤ 1000 ∧ Q (.str (wS (List.replicate n.toNat wd).flatten)) H
theorem op_repG {X : Cx} : OpR X (binaryOp .Mult) rRepG := by
  intro pins s σ H x y v u Q I rx ry h
  obtain ⟨wd, n, rfl, rfl, n0, n1, w1, q⟩ := h
  obtain ⟨t, rfl⟩ := rx
  obtain ⟨t', rfl⟩ := ry
  have e1 : ¬ (n < 1) := by omega
  have hl := wS_len wd
  have hm : wd.length * n.toNat ≤ 400000 := Nat.mul_le_mul w1 (show n.toNat ≤ 400 by omega)
  refine P.mul_str ?_ ?_ ?_ ?_
  · have h1 : ¬ n < -(2 ^ 63 : Int) := by omega
    have h2 : ¬ n ≥ 2 ^ 63 := by omega
    rw [decide_eq_false h1, decide_eq_false h2]
    rfl
  · intro _ _
    rw [hl]
    have : (wd.length : Int) ≤ (2 ^ 63 - 1) / n := (Int.le_ediv_iff_mul_le (by omega)).mpr (by
      have : ((wd.length * n.toNat : Nat) : Int) ≤ 400000 := by omega
      rw [Int.natCast_mul, Int.toNat_of_nonneg (by omega)] at this
      omega)
    omega
  · intro _ _
    refine decide_eq_false ?_
    rw [hl, sizeLine_eq]
    omega
  · rw [if_neg e1]
    by_cases z : ((n == 1) || ((wS wd).length == 0)) = true
    · rw [if_pos z]
      have ez : wS wd = wS (List.replicate n.toNat wd).flatten := by
        rw [Bool.or_eq_true] at z
        rcases z with z | z
        · have : n = 1 := by simpa using z
          subst this
          show wS wd = wS (wd ++ [])
          rw [List.append_nil]
        · rw [hl] at z
          have : wd = [] := List.length_eq_zero_iff.mp (by simpa using z)
          subst this
          congr 1
          have : ∀ k : Nat, (List.replicate k ([] : List Bool)).flatten = [] := fun k => by
            induction k with
            | zero => rfl
            | succ k ih => rw [List.replicate_succ, List.flatten_cons, ih]; rfl
          rw [this]
      rw [ez] at *
      first | exact ⟨.str (wS (List.replicate n.toNat wd).flatten), H, I, ⟨_, rfl⟩, q⟩ | exact ⟨.str (wS (List.replicate n.toNat wd).flatten), H, I.tok _, ⟨_, rfl⟩, q⟩
    · rw [if_neg z]
      have ez : (⟨(List.replicate n.toNat (wS wd).cps).foldl (· ++ ·) #[]⟩ : Str) = wS (List.replicate n.toNat wd).flatten := by
        show (⟨(List.replicate n.toNat (wd.map ltr).toArray).foldl (· ++ ·) #[]⟩ : Str) = _
        rw [rep_words]
        unfold wS
        simp
      rw [ez]
      refine ⟨?_, .str (wS (List.replicate n.toNat wd).flatten), H, I.tok _, ⟨_, rfl⟩, q⟩
      rw [wS_len, List.length_flatten, List.map_replicate, List.sum_replicate_nat, sizeLine_eq, Nat.mul_comm]
      omega
/-! ### large numbers can be shown -/
theorem shows_big {a b : Int} (a0 : 0 ≤ a) (a1 : a < 10 ^ 160) (b0 : 0 ≤ b) (b1 : b < 10 ^ 160) : PyData.showable (.list [.tuple [.int a, .int b], .tuple [.int a, .int b]]) = true ∧ PyData.hasDict (.list [.tuple [.int a, .int b], .tuple [.int a, .int b]]) = false ∧
    (PyData.list [.tuple [.int a, .int b], .tuple [.int a, .int b]]).shown.length ≤ sizeLine ∧ PyData.depth (.list [.tuple [.int a, .int b], .tuple [.int a, .int b]]) ≤ 64 := by
  have key : ∀ x : Int, 0 ≤ x → x < 10 ^ 160 → x.natAbs.log2 < 540 ∧ (toString x : Str).length ≤ 160 := by
    intro x x0 x1
    obtain ⟨n, rfl⟩ := Int.eq_ofNat_of_zero_le x0
    have hn : n < 10 ^ 160 := by exact_mod_cast x1
    constructor
    · rw [Int.natAbs_natCast]
      rcases Nat.eq_zero_or_pos n with z | z
      · subst z
        decide
      · refine (Nat.log2_lt (by omega)).mpr ?_
        have : (10 : Nat) ^ 160 < 2 ^ 540 := by decide +kernel
        omega
    · exact toString_length_le (k := 160) (by omega) (by decide) x1
  obtain ⟨k1, k2⟩ := key a a0 a1
  obtain ⟨k3, k4⟩ := key b b0 b1
  refine ⟨?_, ?_, ?_, ?_⟩
  · simp only [PyData.showable, PyData.showableAll, Bool.and_true, Bool.and_eq_true, decide_eq_true_iff]
    omega
  · simp only [PyData.hasDict, PyData.hasDictAll, Bool.or_false]
  · have wa : PyData.weight (.int a) ≤ 540 := by
      simp only [PyData.weight]
      split <;> omega
    have wb : PyData.weight (.int b) ≤ 540 := by
      simp only [PyData.weight]
      split <;> omega
    have ls : PyData.leavesShort 160 (.list [.tuple [.int a, .int b], .tuple [.int a, .int b]]) = true := by
      simp only [PyData.leavesShort, PyData.leavesShortAll, Bool.and_true, Bool.and_eq_true, decide_eq_true_iff, PyData.shown]
      exact ⟨⟨decide_eq_true k2, decide_eq_true k4⟩, ⟨decide_eq_true k2, decide_eq_true k4⟩⟩
    have h := PyData.shown_le 160 (by decide) _ ls
    have w4 : PyData.weight (.list [.tuple [.int a, .int b], .tuple [.int a, .int b]]) ≤ 2200 := by
      have ea : PyData.weight (.list [.tuple [.int a, .int b], .tuple [.int a, .int b]]) = (PyData.weight (.int a) + 1 + (PyData.weight (.int b) + 1 + 0)) + 1 + ((PyData.weight (.int a) + 1 + (PyData.weight (.int b) + 1 + 0)) + 1 + 0) := by
        simp only [PyData.weight, PyData.weightAll]
      omega
    have : (160 + 2) * PyData.weight (.list [.tuple [.int a, .int b], .tuple [.int a, .int b]]) ≤ 162 * 2200 := Nat.mul_le_mul_left _ w4
    rw [sizeLine_eq]
    omega
  · simp only [PyData.depth, PyData.depthAll]
    decide
/-! ### the promises -/
def spTimes : Sp := fun xs H Q _ => ∃ (p : Addr) (b : Bool), xs = [.ref p, .bl b] ∧ PoolO (H p) ∧ ∀ H' n, KeepX p H H' → PoolO (H' p) → 1 ≤ n → n ≤ 10 ^ 30 → (b = true → n ≤ 3) → Q (.int n) H'
def spLSt (K : PySem.W.Frag) (m : Nat) : Sp := fun xs H Q _ => ∃ (v : V) (s : Stp), xs = [v] ∧ StA K H v s ∧ s.nest ≤ m ∧ s.steps ≤ 60 ∧ ∀ H', Same H H' → Q (.int (s.steps : Nat)) H'
def spLPr (K : PySem.W.Frag) (m : Nat) : Sp := fun xs H Q _ => ∃ (p : Addr) (d : Nat) (most : Nat), xs = [.ref p, .int (d : Nat), .int (most : Nat), .bl true] ∧ PoolO (H p) ∧ 1 ≤ d ∧ d ≤ m + 1 ∧ d ≤ 4 ∧ most ≤ 12 ∧
  ∀ H' t ss, KeepX p H H' → PoolO (H' p) → PgA K H' t ss → okL ss → smL ss → nestL ss ≤ d - 1 → stepsL ss ≤ most → Q (.ref t) H'
def spSpl (K : PySem.W.Frag) (m : Nat) : Sp := fun xs H Q _ => ∃ (t : Addr) (ss : List Stp), xs = [.ref t] ∧ PgA K H t ss ∧ okL ss ∧ smL ss ∧ nestL ss ≤ m ∧ nestL ss ≤ 2 ∧ stepsL ss ≤ 12 ∧ ∀ H', Same H H' → Q (.str (wS (spellL ss))) H'
def spNums (K : PySem.W.Frag) : Sp := fun xs H Q _ => ∃ (t : Addr) (ss : List Stp), xs = [.ref t] ∧ PgA K H t ss ∧ okL ss ∧ smL ss ∧ nestL ss ≤ 2 ∧ stepsL ss ≤ 12 ∧ ∀ H' u, Same H H' → H' u = some (.tup [.int (cntL false ss), .int (cntL true ss)]) → Q (.ref u) H'
def spTold (K : PySem.W.Frag) : Sp := fun xs H Q _ => ∃ (t u : Addr) (ss : List Stp), xs = [.ref t, .ref u] ∧ PgA K H t ss ∧ okL ss ∧ nestL ss ≤ 4 ∧ stepsL ss ≤ 60 ∧ SqT K H u [.int (cntL false ss), .int (cntL true ss)] ∧ ∀ H', Same H H' → Q (.bl true) H'
end KS
namespace KS
open PySem PySem.Spec PyProof.Rows L2
/-! ### programs as data, shown -/
mutual
def Stp.dat : Stp → PyData
  | .w l => .str (wS l)
  | .r n b => .tuple [.str "repeat", .int n, .tuple (datL b)]
def datL : List Stp → List PyData
  | [] => []
  | s :: b => s.dat :: datL b
end
mutual
theorem StA.dp {K : PySem.W.Frag} {H : Hp} : ∀ {v : V} {s : Stp}, StA K H v s → Dp K H v s.dat
  | _, _, .w l => by
    simp only [Stp.dat]
    exact .str _
  | _, _, .r h1 h2 h3 => by
    simp only [Stp.dat]
    exact .tup h1 (.cons (.str _) (.cons (.int _) (.cons (.tup h2 (StsA.dp h3)) .nil)))
theorem StsA.dp {K : PySem.W.Frag} {H : Hp} : ∀ {vs : List V} {ss : List Stp}, StsA K H vs ss → DpAll K H vs (datL ss)
  | _, _, .nil => by
    simp only [datL]
    exact .nil
  | _, _, .cons h1 h2 => by
    simp only [datL]
    exact .cons (StA.dp h1) (StsA.dp h2)
end
structure ShD (d : PyData) (n m : Nat) : Prop where
  short : d.leavesShort 160 = true
  show_ : d.showable = true
  nod : d.hasDict = false
  wt : d.weight ≤ n
  dep : d.depth ≤ m
structure ShAll (ds : List PyData) (n m : Nat) : Prop where
  short : PyData.leavesShortAll 160 ds = true
  show_ : PyData.showableAll ds = true
  nod : PyData.hasDictAll ds = false
  wt : PyData.weightAll ds ≤ n
  dep : PyData.depthAll ds ≤ m
theorem wS_cps (l : List Bool) : ∀ c ∈ (wS l).cps.toList, c < 16 ^ 8 := by
  intro c hc
  have hc' : c ∈ (l.map ltr).toArray.toList := hc
  rw [List.toList_toArray] at hc'
  obtain ⟨b, _, rfl⟩ := List.mem_map.mp hc'
  cases b <;> decide
theorem int_shd {n : Int} (h1 : 1 ≤ n) (h2 : n ≤ 10 ^ 30) : PyData.leavesShort 160 (.int n) = true ∧ PyData.showable (.int n) = true ∧ PyData.weight (.int n) ≤ 101 := by
  obtain ⟨k, rfl⟩ := Int.eq_ofNat_of_zero_le (show 0 ≤ n by omega)
  have hk : k ≤ 10 ^ 30 := by exact_mod_cast h2
  have lg : k.log2 < 100 := by
    refine (Nat.log2_lt (by omega)).mpr ?_
    have : (10 : Nat) ^ 30 < 2 ^ 100 := by decide +kernel
    omega
  refine ⟨?_, ?_, ?_⟩
  · simp only [PyData.leavesShort, PyData.shown]
    refine decide_eq_true (toString_length_le (k := 160) (by omega) (by decide) ?_)
    have : (10 : Int) ^ 30 < 10 ^ 160 := by decide +kernel
    omega
  · simp only [PyData.showable]
    exact decide_eq_true (by show k.log2 < 1920; omega)
  · simp only [PyData.weight]
    split
    · omega
    · show k.log2 + 1 ≤ 101
      omega
theorem rep_shd : PyData.leavesShort 160 (.str "repeat") = true ∧ PyData.showable (.str "repeat") = true ∧ PyData.weight (.str "repeat") = 6 := by
  refine ⟨by simp only [PyData.leavesShort]; decide +kernel, by simp only [PyData.showable], by simp only [PyData.weight]; decide +kernel⟩
mutual
theorem dat_shd : ∀ s : Stp, s.ok → ShD s.dat (500 * s.steps - 1) (2 * s.nest)
  | .w l, h => by
    simp only [Stp.ok] at h
    simp only [Stp.dat, Stp.steps, Stp.nest]
    have wl := wS_len l
    refine ⟨?_, ?_, ?_, ?_, ?_⟩
    · simp only [PyData.leavesShort]
      rw [List.all_eq_true]
      exact fun c hc => decide_eq_true (wS_cps l c hc)
    · simp only [PyData.showable]
    · simp only [PyData.hasDict]
    · simp only [PyData.weight]
      show (wS l).length ≤ _
      omega
    · simp only [PyData.depth]
      omega
  | .r n b, h => by
    simp only [Stp.ok] at h
    obtain ⟨i1, i2, i3⟩ := int_shd h.1 h.2.1
    obtain ⟨r1, r2, r3⟩ := rep_shd
    have ih := datL_shd b h.2.2
    simp only [Stp.dat, Stp.steps, Stp.nest]
    refine ⟨?_, ?_, ?_, ?_, ?_⟩
    · have e : PyData.leavesShort 160 (.tuple (datL b)) = true := by
        simp only [PyData.leavesShort]
        exact ih.short
      have : PyData.leavesShortAll 160 [.str "repeat", .int n, .tuple (datL b)] = true := by
        show (PyData.leavesShort 160 (.str "repeat") && (PyData.leavesShort 160 (.int n) && (PyData.leavesShort 160 (.tuple (datL b)) && true))) = true
        rw [r1, i1, e]
        rfl
      simp only [PyData.leavesShort]
      exact this
    · have e : PyData.showable (.tuple (datL b)) = true := by
        simp only [PyData.showable]
        exact ih.show_
      have : PyData.showableAll [.str "repeat", .int n, .tuple (datL b)] = true := by
        show (PyData.showable (.str "repeat") && (PyData.showable (.int n) && (PyData.showable (.tuple (datL b)) && true))) = true
        rw [r2, i2, e]
        rfl
      simp only [PyData.showable]
      exact this
    · simp only [PyData.hasDict, PyData.hasDictAll, Bool.or_false, Bool.false_or]
      exact ih.nod
    · have e : PyData.weight (.tuple [.str "repeat", .int n, .tuple (datL b)]) = PyData.weight (.str "repeat") + 1 + (PyData.weight (.int n) + 1 + (PyData.weightAll (datL b) + 1 + 0)) := by
        simp only [PyData.weight, PyData.weightAll]
      rw [e, r3]
      have := ih.wt
      omega
    · have e : PyData.depth (.tuple [.str "repeat", .int n, .tuple (datL b)]) = 1 + max 0 (max 0 (max (1 + PyData.depthAll (datL b)) 0)) ∨ PyData.depth (.tuple [.str "repeat", .int n, .tuple (datL b)]) ≤ 2 + PyData.depthAll (datL b) := by
        right
        simp only [PyData.depth, PyData.depthAll]
        omega
      have := ih.dep
      rcases e with e | e <;> omega
theorem datL_shd : ∀ b : List Stp, okL b → ShAll (datL b) (500 * stepsL b) (2 * nestL b)
  | [], _ => by
    simp only [datL, stepsL, nestL]
    refine ⟨?_, ?_, ?_, ?_, ?_⟩
    · simp only [PyData.leavesShortAll]
    · simp only [PyData.showableAll]
    · simp only [PyData.hasDictAll]
    · simp only [PyData.weightAll]; omega
    · simp only [PyData.depthAll]; omega
  | s :: b, h => by
    simp only [okL] at h
    have i1 := dat_shd s h.1
    have i2 := datL_shd b h.2
    have sp := steps_pos s
    simp only [datL, stepsL, nestL]
    refine ⟨?_, ?_, ?_, ?_, ?_⟩
    · simp only [PyData.leavesShortAll, i1.short, i2.short, Bool.and_self]
    · simp only [PyData.showableAll, i1.show_, i2.show_, Bool.and_self]
    · simp only [PyData.hasDictAll, i1.nod, i2.nod, Bool.or_self]
    · simp only [PyData.weightAll]
      have := i1.wt
      have := i2.wt
      omega
    · simp only [PyData.depthAll]
      have := i1.dep
      have := i2.dep
      omega
end
mutual
theorem ls_mono : ∀ d : PyData, d.leavesShort 8 = true → d.leavesShort 160 = true
  | .none, _ => by simp only [PyData.leavesShort]
  | .bool _, _ => by simp only [PyData.leavesShort]
  | .int i, h => by
    simp only [PyData.leavesShort, decide_eq_true_eq] at h ⊢
    omega
  | .str x, h => by
    simp only [PyData.leavesShort] at h ⊢
    exact h
  | .list xs, h => by
    simp only [PyData.leavesShort] at h ⊢
    exact ls_monoA xs h
  | .tuple xs, h => by
    simp only [PyData.leavesShort] at h ⊢
    exact ls_monoA xs h
  | .dict kvs, h => by
    simp only [PyData.leavesShort] at h ⊢
    exact ls_monoK kvs h
theorem ls_monoA : ∀ ds : List PyData, PyData.leavesShortAll 8 ds = true → PyData.leavesShortAll 160 ds = true
  | [], _ => by simp only [PyData.leavesShortAll]
  | d :: ds, h => by
    simp only [PyData.leavesShortAll, Bool.and_eq_true] at h ⊢
    exact ⟨ls_mono d h.1, ls_monoA ds h.2⟩
theorem ls_monoK : ∀ ds : List (PyData × PyData), PyData.leavesShortKv 8 ds = true → PyData.leavesShortKv 160 ds = true
  | [], _ => by simp only [PyData.leavesShortKv]
  | (k, v) :: ds, h => by
    simp only [PyData.leavesShortKv, Bool.and_eq_true] at h ⊢
    exact ⟨⟨ls_mono k h.1.1, ls_mono v h.1.2⟩, ls_monoK ds h.2⟩
end
theorem depth_cells : ∀ cs : List Cell, PyData.depthAll (cs.map cellD) ≤ 1
  | [] => by simp only [List.map_nil, PyData.depthAll]; omega
  | c :: cs => by
    have := depth_cells cs
    simp only [List.map_cons, PyData.depthAll]
    have e : (cellD c).depth ≤ 1 := by
      simp only [cellD, PyData.depth, PyData.depthAll]
      omega
    omega
theorem depth_plan (cs : List Cell) : (planD cs).depth ≤ 2 := by
  have := depth_cells cs
  simp only [planD, PyData.depth]
  omega
/-- a plan, a filling, a program, shown together -/
theorem shown_three {a b : PyData} {ss : List Stp} {n1 n2 : Nat} (h1 : Shows a n1) (d1 : a.depth ≤ 9) (h2 : Shows b n2) (d2 : b.depth ≤ 9) (hn1 : n1 + n2 ≤ 50000) (ok : okL ss) (hst : stepsL ss ≤ 60) (hn : nestL ss ≤ 6) :
    PyData.showable (.list [a, b, .tuple (datL ss)]) = true ∧ PyData.hasDict (.list [a, b, .tuple (datL ss)]) = false ∧ (PyData.list [a, b, .tuple (datL ss)]).shown.length ≤ sizeLine ∧ PyData.depth (.list [a, b, .tuple (datL ss)]) ≤ 64 := by
  have h3 := datL_shd ss ok
  refine ⟨?_, ?_, ?_, ?_⟩
  · simp only [PyData.showable, PyData.showableAll, h1.show_, h2.show_, h3.show_, Bool.and_self]
  · simp only [PyData.hasDict, PyData.hasDictAll, h1.nod, h2.nod, h3.nod, Bool.or_self]
  · have hl : PyData.leavesShort 160 (.list [a, b, .tuple (datL ss)]) = true := by
      simp only [PyData.leavesShort, PyData.leavesShortAll, ls_mono _ h1.short, ls_mono _ h2.short, h3.short, Bool.and_self]
    have := PyData.shown_le 160 (by decide) _ hl
    have w : PyData.weight (.list [a, b, .tuple (datL ss)]) = a.weight + 1 + (b.weight + 1 + (PyData.weightAll (datL ss) + 1 + 0)) := by
      simp only [PyData.weight, PyData.weightAll]
    rw [w] at this
    have a1 := h1.wt
    have a2 := h2.wt
    have a3 := h3.wt
    have e : sizeLine = 16777216 := by decide
    rw [e]
    omega
  · have w : PyData.depth (.list [a, b, .tuple (datL ss)]) ≤ 1 + max a.depth (max b.depth (1 + PyData.depthAll (datL ss))) := by
      simp only [PyData.depth, PyData.depthAll]
      omega
    have a3 := h3.dep
    omega
end KS
namespace KS
open PySem PySem.Spec PyProof.Rows L2
theorem shown_two {a b : PyData} {n1 n2 : Nat} (h1 : Shows a n1) (d1 : a.depth ≤ 9) (h2 : Shows b n2) (d2 : b.depth ≤ 9) (hn1 : n1 + n2 ≤ 50000) :
    PyData.showable (.list [a, b]) = true ∧ PyData.hasDict (.list [a, b]) = false ∧ (PyData.list [a, b]).shown.length ≤ sizeLine ∧ PyData.depth (.list [a, b]) ≤ 64 := by
  refine ⟨?_, ?_, ?_, ?_⟩
  · simp only [PyData.showable, PyData.showableAll, h1.show_, h2.show_, Bool.and_self]
  · simp only [PyData.hasDict, PyData.hasDictAll, h1.nod, h2.nod, Bool.or_self]
  · have hl : PyData.leavesShort 160 (.list [a, b]) = true := by
      simp only [PyData.leavesShort, PyData.leavesShortAll, ls_mono _ h1.short, ls_mono _ h2.short, Bool.and_self]
    have := PyData.shown_le 160 (by decide) _ hl
    have w : PyData.weight (.list [a, b]) = a.weight + 1 + (b.weight + 1 + 0) := by
      simp only [PyData.weight, PyData.weightAll]
    rw [w] at this
    have a1 := h1.wt
    have a2 := h2.wt
    have e : sizeLine = 16777216 := by decide
    rw [e]
    omega
  · have w : PyData.depth (.list [a, b]) ≤ 1 + max a.depth b.depth := by
      simp only [PyData.depth, PyData.depthAll]
      omega
    omega
theorem line9 {vs : List Int} {n : Nat} (v9 : Vals9 n vs) (hn : n ≤ 24) : Shows (lineD vs) 960 ∧ (lineD vs).depth ≤ 9 := by
  refine ⟨shows_line (fun x hx => ?_) ?_, ?_⟩
  · have := v9.bd x hx
    omega
  · have := v9.len
    omega
  · rw [depth_line]
    decide
theorem eqvL (l : List Int) : PyData.eqv (lineD l) (lineD l) = true := by
  show PyData.eqv (.tuple (l.map PyData.int)) (.tuple (l.map PyData.int)) = true
  rw [ints_eqvT]
  exact decide_eq_true rfl
end KS
namespace KS
open PySem PySem.Spec PyProof.Rows L2 TL
/-! ### tables as pairs, data of them, grids of words as data -/
abbrev Tb := List Cell × List Int
def TbT (K : PySem.W.Frag) (G : Hp) (x : V) (u : Tb) : Prop := ∃ T a t, x = .ref T ∧ SqT K G T [.ref a, .ref t] ∧ PlanT K G a u.1 ∧ SqT K G t (u.2.map V.int)
theorem TbT.same {K : PySem.W.Frag} {G G' : Hp} (s : Same G G') {x : V} {u : Tb} (h : TbT K G x u) : TbT K G' x u := by
  obtain ⟨T, a, t, e, h1, h2, h3⟩ := h
  exact ⟨T, a, t, e, same_seqT s h1, h2.same s, same_seqT s h3⟩
theorem TbT.keepX {K : PySem.W.Frag} {G G' : Hp} {p : Addr} (po : PoolO (G p)) (s : KeepX p G G') {x : V} {u : Tb} (h : TbT K G x u) : TbT K G' x u := by
  obtain ⟨T, a, t, e, h1, h2, h3⟩ := h
  exact ⟨T, a, t, e, keepX_seqT po s h1, h2.keepX po s, keepX_seqT po s h3⟩
abbrev TbsT (K : PySem.W.Frag) (G : Hp) : List V → List Tb → Prop := Paired (TbT K G)
theorem TbsT.same {K : PySem.W.Frag} {G G' : Hp} (s : Same G G') {xs : List V} {us : List Tb} (h : TbsT K G xs us) : TbsT K G' xs us := Paired.mono (fun _ _ q => q.same s) h
def okU (u : Tb) : Prop := Good u.1 ∧ u.1.length ≤ 24 ∧ u.2.length = u.1.length ∧ ∀ v ∈ u.2, 1 ≤ v ∧ v ≤ 9999
def okV (u : Tb) : Prop := Good u.1 ∧ u.1.length ≤ 24 ∧ Vals9 u.1.length u.2
def ndU (u : Tb) : Bool := decide u.2.Nodup
theorem okU.v {u : Tb} (h : okU u) (n : ndU u = true) : okV u := ⟨h.1, h.2.1, h.2.2.1, of_decide_eq_true n, h.2.2.2⟩
def pgU (u : Tb) : Str := page u.1 u.2
theorem pl_dp {K : PySem.W.Frag} {H : Hp} {a : Addr} {cs : List Cell} (h : PlanT K H a cs) : Dp K H (.ref a) (planD cs) := PlanAt.dp h.at
theorem TbT.dp {K : PySem.W.Frag} {G : Hp} {x : V} {u : Tb} (h : TbT K G x u) : Dp K G x (tabD u.1 u.2) := by
  obtain ⟨T, a, t, rfl, h1, h2, h3⟩ := h
  exact .tup h1 (.cons (pl_dp h2) (.cons (.tup h3 (dp_ints _)) .nil))
theorem tab_shaped (u : Tb) : SeqAt.shaped (tabD u.1 u.2) = true := by
  obtain ⟨a, b⟩ := cells_lay u.1
  obtain ⟨c, d⟩ := ints_lay u.2
  unfold SeqAt.shaped tabD
  rw [Bool.and_eq_true]
  refine ⟨?_, decide_eq_true ?_⟩
  · simp only [PyData.canLay0, PyData.canLayAll0, a, c, Bool.and_self]
  · simp only [PyData.depth, PyData.depthAll]
    omega
theorem cells_eqv : ∀ l m : List Cell, PyData.eqvAll (l.map cellD) (m.map cellD) = decide (l = m)
  | [], [] => by simp [PyData.eqvAll]
  | [], _ :: _ => by simp [PyData.eqvAll]
  | _ :: _, [] => by simp [PyData.eqvAll]
  | x :: l, y :: m => by
    have h : PyData.eqvAll ((x :: l).map cellD) ((y :: m).map cellD) = (PyData.eqv (cellD x) (cellD y) && PyData.eqvAll (l.map cellD) (m.map cellD)) := by
      simp only [List.map_cons, PyData.eqvAll]
    rw [h, cells_eqv l m, cell_eqv]
    by_cases e : x = y <;> by_cases e2 : l = m <;> simp [e, e2]
theorem tab_eqv (u w : Tb) : PyData.eqv (tabD u.1 u.2) (tabD w.1 w.2) = decide (u = w) := by
  have h : PyData.eqv (tabD u.1 u.2) (tabD w.1 w.2) = (PyData.eqvAll (u.1.map cellD) (w.1.map cellD) && (PyData.eqvAll (u.2.map PyData.int) (w.2.map PyData.int) && true)) := by
    unfold tabD planD lineD
    simp only [PyData.eqv, PyData.eqvAll]
  rw [h, cells_eqv, ints_eqvAll, Bool.and_true]
  obtain ⟨a, b⟩ := u
  obtain ⟨c, d⟩ := w
  by_cases e : a = c <;> by_cases e2 : b = d <;> simp [e, e2]
theorem pg_eq {u w : Tb} (h : okV u) (k : okV w) : decide (V.str (pgU u) = V.str (pgU w)) = decide (u = w) := by
  by_cases e : u = w
  · rw [e, decide_eq_true rfl, decide_eq_true rfl]
  · rw [decide_eq_false e]
    refine decide_eq_false fun z => e ?_
    have z : pgU u = pgU w := V.str.inj z
    obtain ⟨a, b⟩ := page_inj h.1 k.1 h.2.2 k.2.2 z
    exact Prod.ext a b
theorem tabU9 {u : Tb} (h : okV u) : Shows (tabD u.1 u.2) 8000 ∧ (tabD u.1 u.2).depth ≤ 64 := by
  have vl := h.2.2.len
  exact tab_small (fun c hc => h.1.grid c hc) (by have := h.2.1; omega) h.2.2.small (by have := h.2.1; omega)
theorem TbT.upd {K : PySem.W.Frag} {G : Hp} {D : Addr} {ys : List V} {o : HO} (hD : G D = some (.lst ys)) {x : V} {u : Tb} (h : TbT K G x u) : TbT K (upd G D o) x u := by
  obtain ⟨T, a, t, e, h1, ⟨xs, h2, h3⟩, h4⟩ := h
  exact ⟨T, a, t, e, KT.upd hD _ _ h1, ⟨xs, KT.upd hD _ _ h2, cellsT_kt (KTt.upd hD) h3⟩, KT.upd hD _ _ h4⟩
theorem TbsT.upd {K : PySem.W.Frag} {G : Hp} {D : Addr} {ys : List V} {o : HO} (hD : G D = some (.lst ys)) {xs : List V} {us : List Tb} (h : TbsT K G xs us) : TbsT K (L2.upd G D o) xs us := Paired.mono (fun _ _ q => q.upd hD) h
theorem filt3 {x y z : Tb} (hx : ndU x = true) (hz : ndU z = true) : ([x, y, z].filter ndU)[0]? = some x ∧ ([x, y, z].filter ndU).getLast? = some z ∧ ([x, y, z].filter ndU).length ≤ 3 := by
  cases h : ndU y <;> simp [List.filter_cons, hx, hz, h]
/-! grids -/
abbrev strsD (l : List Str) : PyData := .list (l.map PyData.str)
abbrev gridD (g : List (List Str)) : PyData := .list (g.map strsD)
theorem dp_strs {K : PySem.W.Frag} {H : Hp} : ∀ l : List Str, DpAll K H (l.map V.str) (l.map PyData.str)
  | [] => .nil
  | x :: l => .cons (.str x) (dp_strs l)
def StrsL (G : Hp) (x : V) (l : List Str) : Prop := ∃ L, x = .ref L ∧ G L = some (.lst (l.map V.str))
theorem StrsL.same {G G' : Hp} (s : Same G G') {x : V} {l : List Str} (h : StrsL G x l) : StrsL G' x l := by
  obtain ⟨L, e, h⟩ := h
  exact ⟨L, e, s _ _ h⟩
theorem StrsL.upd {G : Hp} {D : Addr} {o : HO} {x : V} {l : List Str} (n : x ≠ .ref D) (h : StrsL G x l) : StrsL (L2.upd G D o) x l := by
  obtain ⟨L, e, h⟩ := h
  refine ⟨L, e, ?_⟩
  rw [upd_ne (fun z => n (by rw [e, z]))]
  exact h
def GridL (G : Hp) (x : V) (g : List (List Str)) : Prop := ∃ L xs, x = .ref L ∧ G L = some (.lst xs) ∧ Paired (StrsL G) xs g
theorem GridL.same {G G' : Hp} (s : Same G G') {x : V} {g : List (List Str)} (h : GridL G x g) : GridL G' x g := by
  obtain ⟨L, xs, e, h1, h2⟩ := h
  exact ⟨L, xs, e, s _ _ h1, Paired.mono (fun _ _ q => q.same s) h2⟩
def StrsN (G : Hp) (D E : Addr) (x : V) (l : List Str) : Prop := StrsL G x l ∧ x ≠ .ref D ∧ x ≠ .ref E
def GridN (G : Hp) (D : Addr) (x : V) (g : List (List Str)) : Prop := ∃ L xs, x = .ref L ∧ L ≠ D ∧ G L = some (.lst xs) ∧ Paired (StrsN G D D) xs g
theorem GridN.same {G G' : Hp} {D : Addr} (s : Same G G') {x : V} {g : List (List Str)} (h : GridN G D x g) : GridN G' D x g := by
  obtain ⟨L, xs, e, n, h1, h2⟩ := h
  exact ⟨L, xs, e, n, s _ _ h1, Paired.mono (fun _ _ q => ⟨q.1.same s, q.2⟩) h2⟩
theorem GridN.upd {G : Hp} {D : Addr} {o : HO} {x : V} {g : List (List Str)} (h : GridN G D x g) : GridN (L2.upd G D o) D x g := by
  obtain ⟨L, xs, e, n, h1, h2⟩ := h
  exact ⟨L, xs, e, n, by rw [upd_ne n]; exact h1, Paired.mono (fun _ _ q => ⟨q.1.upd q.2.1, q.2⟩) h2⟩
theorem dp_grid {K : PySem.W.Frag} {G : Hp} : ∀ {xs : List V} {g : List (List Str)}, Paired (StrsL G) xs g → DpAll K G xs (g.map strsD)
  | _, _, .nil => .nil
  | _, _, .cons ⟨L, e, h⟩ r => by
    subst e
    exact .cons (.lst (SqL.of h) (dp_strs _)) (dp_grid r)
def okS (l : List Str) : Prop := ∀ x ∈ l, PyData.strOk x = true
theorem strs_lay : ∀ {l : List Str}, okS l → PyData.canLayAll0 (l.map PyData.str) = true ∧ PyData.depthAll (l.map PyData.str) = 0
  | [], _ => ⟨by simp only [List.map_nil, PyData.canLayAll0], by simp [PyData.depthAll]⟩
  | x :: l, h => by
    obtain ⟨a, b⟩ := strs_lay (l := l) fun y hy => h y (List.mem_cons_of_mem _ hy)
    refine ⟨?_, ?_⟩
    · rw [List.map_cons, PyData.canLayAll0, a]
      simp [PyData.canLay0, h x (List.mem_cons_self ..)]
    · rw [List.map_cons, PyData.depthAll, b]
      simp [PyData.depth]
theorem rows_lay : ∀ {g : List (List Str)}, (∀ l ∈ g, okS l) → PyData.canLayAll0 (g.map strsD) = true ∧ PyData.depthAll (g.map strsD) ≤ 1
  | [], _ => ⟨by simp only [List.map_nil, PyData.canLayAll0], by simp [PyData.depthAll]⟩
  | x :: g, h => by
    obtain ⟨a, b⟩ := rows_lay (g := g) fun y hy => h y (List.mem_cons_of_mem _ hy)
    obtain ⟨c, d⟩ := strs_lay (h x (List.mem_cons_self ..))
    refine ⟨?_, ?_⟩
    · rw [List.map_cons, PyData.canLayAll0, a]
      simp only [PyData.canLay0, c, Bool.and_self]
    · rw [List.map_cons, PyData.depthAll]
      simp only [PyData.depth, d]
      omega
theorem grid_shaped {g : List (List Str)} (h : ∀ l ∈ g, okS l) : SeqAt.shaped (gridD g) = true := by
  obtain ⟨a, b⟩ := rows_lay h
  unfold SeqAt.shaped
  rw [Bool.and_eq_true]
  refine ⟨?_, decide_eq_true ?_⟩
  · simp only [PyData.canLay0, a]
  · simp only [PyData.depth]
    omega
theorem gridW_ok {cs : List Cell} {vs : List Int} (h : Vals9 cs.length vs) : ∀ l ∈ gridW cs vs, okS l := by
  intro l hl x hx
  obtain ⟨r, _, rfl⟩ := List.mem_map.mp hl
  obtain ⟨j, _, rfl⟩ := List.mem_map.mp hx
  have hs := wd_sm (fun z hz => (zip_vals h z hz).1) (((r : Nat) : Int), ((j : Nat) : Int))
  unfold PyData.strOk
  rw [Array.all_eq_true']
  intro c hc
  have := hs c (by
    show c ∈ (wdAt (cs.zip vs) (((r : Nat) : Int), ((j : Nat) : Int))).cps.toList
    exact Array.mem_toList_iff.mpr hc)
  exact decide_eq_true (by omega)
theorem strs_refl : ∀ l : List Str, PyData.eqvAll (l.map PyData.str) (l.map PyData.str) = true
  | [] => by simp [PyData.eqvAll]
  | x :: l => by
    rw [List.map_cons, PyData.eqvAll, strs_refl l]
    simp [PyData.eqv]
theorem grid_refl (g : List (List Str)) : PyData.eqv (gridD g) (gridD g) = true := by
  have h : PyData.eqv (gridD g) (gridD g) = PyData.eqvAll (g.map strsD) (g.map strsD) := by simp only [PyData.eqv]
  rw [h]
  induction g with
  | nil => simp [PyData.eqvAll]
  | cons l g ih =>
    have h2 : PyData.eqv (gridD g) (gridD g) = PyData.eqvAll (g.map strsD) (g.map strsD) := by simp only [PyData.eqv]
    rw [List.map_cons, PyData.eqvAll, ih h2]
    simp only [PyData.eqv, strs_refl, Bool.and_self]
theorem sw_nd {zs : List (Cell × Int)} (h : (zs.map (·.1)).Nodup) : ((zs.map swC).map (·.1)).Nodup := by
  rw [List.nodup_iff_pairwise_ne, List.pairwise_map] at h
  rw [List.nodup_iff_pairwise_ne, List.map_map, List.pairwise_map]
  refine h.imp fun {a b} q e => q ?_
  have e : (a.1.2, a.1.1) = (b.1.2, b.1.1) := e
  rw [Prod.mk.injEq] at e
  exact Prod.ext e.2 e.1
theorem atI_end {α : Type} {xs : List α} {v : α} (h : xs.getLast? = some v) : atI xs (-1) = some v := by
  obtain ⟨ys, rfl⟩ := List.getLast?_eq_some_iff.mp h
  unfold atI ixN
  rw [if_neg (by decide), if_pos (by rw [List.length_append]; show -(((ys.length + 1 : Nat)) : Int) ≤ -1; omega)]
  show (ys ++ [v])[(-1 + ((ys ++ [v]).length : Int)).toNat]? = some v
  have e : (-1 + ((ys ++ [v]).length : Int)).toNat = ys.length := by
    rw [List.length_append]
    show (-1 + ((ys.length + 1 : Nat) : Int)).toNat = ys.length
    omega
  rw [e, List.getElem?_append_right (Nat.le_refl _), Nat.sub_self]
  rfl
end KS
namespace KS
open PySem PySem.Spec PyProof.Rows L2 RZ
/-! ### len(set(t)), t a tuple of whole numbers -/
theorem nodup_le {α : Type} [DecidableEq α] : ∀ {l m : List α}, l.Nodup → (∀ x ∈ l, x ∈ m) → l.length ≤ m.length
  | [], _, _, _ => Nat.zero_le _
  | x :: l, m, nd, h => by
    rw [List.nodup_cons] at nd
    have hx := h x (List.mem_cons_self ..)
    have ih := nodup_le (l := l) (m := m.erase x) nd.2 fun y hy => by
      have ne : y ≠ x := fun e => nd.1 (e ▸ hy)
      exact (List.mem_erase_of_ne ne).mpr (h y (List.mem_cons_of_mem _ hy))
    rw [List.length_erase_of_mem hx] at ih
    have : 1 ≤ m.length := List.length_pos_of_mem hx
    rw [List.length_cons]
    omega
theorem fewer {α : Type} [DecidableEq α] : ∀ {l : List α}, ¬ l.Nodup → ∃ m : List α, (∀ x, x ∈ l → x ∈ m) ∧ m.length + 1 = l.length
  | [], h => absurd List.nodup_nil h
  | x :: l, h => by
    by_cases c : x ∈ l
    · refine ⟨l, fun y hy => ?_, rfl⟩
      rcases List.mem_cons.mp hy with e | hy
      · rw [e]
        exact c
      · exact hy
    · obtain ⟨m, h1, h2⟩ := fewer (l := l) fun nd => h (List.nodup_cons.mpr ⟨c, nd⟩)
      refine ⟨x :: m, fun y hy => ?_, by rw [List.length_cons, List.length_cons, h2]⟩
      rcases List.mem_cons.mp hy with e | hy
      · rw [e]
        exact List.mem_cons_self ..
      · exact List.mem_cons_of_mem _ (h1 y hy)
theorem count_setI {ks ns : List Int} (nd : ks.Nodup) (h : ∀ k, k ∈ ns ↔ k ∈ ks) : ks.length = ns.length ↔ ns.Nodup := by
  constructor
  · intro e
    by_cases c : ns.Nodup
    · exact c
    · exfalso
      obtain ⟨m, h1, h2⟩ := fewer c
      have := nodup_le nd fun x hx => h1 x ((h x).mpr hx)
      omega
  · intro c
    have a := nodup_le nd fun x hx => (h x).mpr hx
    have b := nodup_le c fun x hx => (h x).mp hx
    omega
def tLenSetT (K : PySem.W.Frag) (ta : TE) : TE := fun σ H Q => ta σ H fun x H1 => ∃ (l : Addr) (ns : List Int), x = .ref l ∧ SqT K H1 l (ns.map V.int) ∧ ns.length ≤ 4000 ∧ ∀ c : Nat, (c = ns.length ↔ ns.Nodup) → c ≤ ns.length → Q (.int (c : Nat)) H1
theorem pe_lenSetT {X : Cx} {a : Expr} {ta : TE} {p p2 q pos : Pos} (hg : Gl X "len") (hm : X.mg "len" = none) (hg2 : Gl X "set") (hm2 : X.mg "set" = none) (ha : PE X a ta) (hc : X.calm = true := by rfl)
    (na : starEach [a] X.env = (false, eval a X.env) :: starEach [] X.env := by rfl) : PE X (.Call (.Name "len" p) [.Call (.Name "set" p2) [a] [] q] [] pos) (tLenSetT X.K ta) := by
  refine ⟨fun pins s σ H Q I h => ?_⟩
  refine Call_ (ld_blt I hg hm boot_len ?_)
  refine PyProof.Rows.callWith_builtin1 (PyProof.Rows.args_cons ?_ rfl) rfl rfl
  refine Call_ (ld_blt I hg2 hm2 boot_set ?_)
  refine PyProof.Rows.callWith_type1 (PyProof.Rows.args_cons (thn (ha.run pins s σ H _ I h) fun v s1 ⟨x, H1, I1, r1, q1⟩ => PyProof.Rows.args_nil ?_) na) na rfl
  obtain ⟨l, ns, rfl, hq, hl, q1⟩ := q1
  cases r1
  obtain ⟨its, r, pl, hz⟩ := I1.tuple hq
  refine call_set_tupI ns (I1.ok.hd hc) pl (by simpa using intsAre_vals r) (by unfold scanBound; omega) fun h' tk c hS hcn hk => ?_
  refine PyProof.Rows.args_nil ?_
  obtain ⟨o, es, ep, t, ho, hex, hd, _, ndk, mem, _, hf, hn, _⟩ := hS
  have I2 : Inv X pins σ H1 { s1 with heap := h', toks := tk } := I1.kept fun b o e => hk b o e
  have ck : c = ns.length ↔ ns.Nodup := by
    have z := count_setI (ks := es.toList.map L2.keyOf) (ns := ns) ndk fun k => by
      have := mem k
      rw [decide_eq_true_eq] at this
      exact this
    rw [List.length_map, Array.length_toList, hn] at z
    exact z
  exact call_len_set ho hex hd hf (by rw [hn]; omega) ⟨.int c, H1, I2.tok _, ⟨_, by rw [hn]⟩, q1 c ck hcn⟩
theorem pe_lenSetTK {X : Cx} {K : PySem.W.Frag} {a : Expr} {ta : TE} {p p2 q pos : Pos} (hK : X.K = K) (hg : Gl X "len") (hm : X.mg "len" = none) (hg2 : Gl X "set") (hm2 : X.mg "set" = none) (ha : PE X a ta) (hc : X.calm = true := by rfl)
    (na : starEach [a] X.env = (false, eval a X.env) :: starEach [] X.env := by rfl) : PE X (.Call (.Name "len" p) [.Call (.Name "set" p2) [a] [] q] [] pos) (tLenSetT K ta) := by
  subst hK
  exact pe_lenSetT hg hm hg2 hm2 ha hc na
end KS
namespace KS
open PySem PySem.Spec PyProof.Rows L2
/-! ### what the program's own helpers keep, for good values -/
def spFF (K : PySem.W.Frag) : Sp := fun xs H Q _ => ∃ (t : Addr) (m : Int) (vs : List Int), xs = [.ref t, .int m] ∧ SqT K H t (vs.map V.int) ∧ vs.Nodup ∧ (∀ v ∈ vs, 1 ≤ v ∧ v ≤ m) ∧ ∀ H', Same H H' → Q .non H'
def spCheckF (K : PySem.W.Frag) : Sp := fun xs H Q _ => ∃ (n : Nat) (t : Addr) (vs : List Int), xs = [.int n, .ref t] ∧ SqT K H t (vs.map V.int) ∧ Vals9 n vs ∧ n ≤ 24 ∧ ∀ H', Same H H' → Q .non H'
def spAlong (K : PySem.W.Frag) : Sp := fun xs H Q _ => ∃ (g t : Addr) (gs : List V) (ls : List (List Int)) (vs : List Int), xs = [.ref g, .ref t] ∧ SqT K H g gs ∧ Paired (TupI K H) gs ls ∧
  (∀ l ∈ ls, (∀ k ∈ l, ∃ j : Nat, k = (j : Int) ∧ j < vs.length) ∧ l.length ≤ 24) ∧ SqT K H t (vs.map V.int) ∧ ∀ H' u, Same H H' → SqT K H' u ((srtTo vs ls).map V.int) → H u = none → Q (.ref u) H'
theorem inV_take {vs : List Int} (nd : vs.Nodup) {i : Nat} {v : Int} (h : vs[i]? = some v) : inV (.int v) ((vs.take i).map V.int) = false := by
  unfold inV
  rw [List.any_eq_false]
  intro x hx
  obtain ⟨y, hy, rfl⟩ := List.mem_map.mp hx
  obtain ⟨j, hj⟩ := List.mem_iff_getElem?.mp hy
  rw [List.getElem?_take] at hj
  split at hj
  · rename_i hlt
    show ¬ ((y == v) = true)
    intro e
    have e' : y = v := by simpa using e
    subst e'
    obtain ⟨l1, e1⟩ := List.getElem?_eq_some_iff.mp h
    obtain ⟨l2, e2⟩ := List.getElem?_eq_some_iff.mp hj
    have := (List.pairwise_iff_getElem.mp nd) j i l2 l1 hlt
    rw [e1, e2] at this
    exact this rfl
  · cases hj
theorem flat_ints (l : List Int) : (l.map V.int).all flatV = true := by
  rw [List.all_eq_true]
  intro x hx
  obtain ⟨y, _, rfl⟩ := List.mem_map.mp hx
  rfl
theorem cut_take {l : List V} {i : Nat} (h : i ≤ l.length) : cutV l none (some (i : Int)) = l.take i := by
  unfold cutV
  have e0 : HT.sIx l.length 0 none = 0 := rfl
  have e1 : HT.sIx l.length l.length (some (i : Int)) = i := by
    rw [HT.sIx_nat]
    omega
  rw [e0, e1]
  simp
theorem cut_not {l : List V} {i : Nat} (h : i < l.length) : ¬ (HT.sIx l.length 0 none = 0 ∧ HT.sIx l.length l.length (some (i : Int)) = l.length) := by
  intro z
  have e1 : HT.sIx l.length l.length (some (i : Int)) = i := by
    rw [HT.sIx_nat]
    omega
  omega
theorem lns_ok {b : Bool} {cs : List Cell} {vs : List Int} (hl : cs.length ≤ 24) (hv : vs.length = cs.length) : ∀ l ∈ lnsOf b cs, (∀ k ∈ l, ∃ j : Nat, k = (j : Int) ∧ j < vs.length) ∧ l.length ≤ 24 := fun l h => by
  have := lns_mem h
  rw [hv]
  exact ⟨this.1, by omega⟩
end KS
namespace KS
open PySem PySem.Spec PyProof.Rows L2
abbrev sWhole : Stmt := topS 13
abbrev sBetween : Stmt := topS 14
abbrev sPlace : Stmt := topS 15
abbrev sIsCell : Stmt := topS 16
abbrev sCheck : Stmt := topS 17
theorem scWhole : FnScope ["value"] ["value"] (defScope sWhole) := ⟨rfl, rfl, rfl, by decide +kernel, rfl, by decide +kernel, by decide +kernel⟩
theorem scBetween : FnScope ["value", "least", "most"] ["value", "least", "most"] (defScope sBetween) := ⟨rfl, rfl, rfl, by decide +kernel, rfl, by decide +kernel, by decide +kernel⟩
theorem scPlace : FnScope ["value"] ["value"] (defScope sPlace) := ⟨rfl, rfl, rfl, by decide +kernel, rfl, by decide +kernel, by decide +kernel⟩
theorem scIsCell : FnScope ["value"] ["value"] (defScope sIsCell) := ⟨rfl, rfl, rfl, by decide +kernel, rfl, by decide +kernel, by decide +kernel⟩
theorem scCheck : FnScope ["plan", "index", "cell"] ["plan"] (defScope sCheck) := ⟨rfl, rfl, rfl, by decide +kernel, rfl, by decide +kernel, by decide +kernel⟩
section
variable {P : Program} {w : World} {K : PySem.W.Frag} {mg : Str → Option Value} {base : Heap}
theorem ok_whole {f : Addr} {fd : FuncData} (F : Fun K "is_whole" "is_whole" sWhole f fd) (mi : mg "isinstance" = none) (mI : mg "int" = none) (mB : mg "bool" = none) : FnOk P w K mg base CX0 1 f fd ["value"] spWhole := by
  refine F.ok scWhole (fun vs H Q E h => ?_) (fun cdv A outer s H vs Q E hr h => ?_)
  · obtain ⟨i, rfl, _⟩ := h
    rfl
  · obtain ⟨i, rfl, q⟩ := h
    refine ⟨_, pss_one (ps_ret (pe_and (pe_callB call_isi (by rfl) mi (by decide +kernel) (pa_cons (pv 0) (pa_cons (pe_bltn (v := .ty "int") (by rfl) mI (by decide +kernel) rfl) pa_nil)))
      (pe_one (pe_not (pe_callB call_isi (by rfl) mi (by decide +kernel) (pa_cons (pv 0) (pa_cons (pe_bltn (v := .ty "bool") (by rfl) mB (by decide +kernel) rfl) pa_nil))))))), ?_⟩
    refine ⟨_, rfl, _, _, _, _, true, rfl, .ty "int", .base (.int i), kit_ty (by decide +kernel), true, rfl, ?_⟩
    refine ⟨_, rfl, _, _, _, _, false, rfl, .ty "bool", .base (.int i), kit_ty (by decide +kernel), false, rfl, ?_⟩
    exact q
theorem ok_between {f fW : Addr} {fd fdW : FuncData} (F : Fun K "is_between" "is_between" sBetween f fd) (GW : FnOk P w K mg base CX0 1 fW fdW ["value"] spWhole) (bW : Binds K fdW ["value"] []) (gW : mg "is_whole" = some (.ref fW)) (kW : PySem.W.keepIn K (.ref fW) = true) :
    FnOk P w K mg base CX0 2 f fd ["value", "least", "most"] spBetween := by
  refine F.ok scBetween (fun vs H Q E h => ?_) (fun cdv A outer s H vs Q E hr h => ?_)
  · obtain ⟨i, lo, hi, rfl, _⟩ := h
    rfl
  · obtain ⟨i, lo, hi, rfl, h1, h2, q⟩ := h
    refine ⟨_, pss_one (ps_ret (pe_and (pe_call GW hr (by rfl) gW kW bW .nil pass0 (pa_cons (pv 0) pa_nil)) (pe_one (pe_chain op_le op_le (pv 1) (pv 0) (pv 2))))), ?_⟩
    refine ⟨_, rfl, i, rfl, true, rfl, ?_⟩
    refine ⟨_, rfl, _, rfl, _, _, rfl, rfl, true, bl_true h1, ?_⟩
    refine ⟨_, rfl, _, _, rfl, rfl, ?_⟩
    show Q (V.bl (decide (i ≤ hi))) H
    rw [bl_true h2]
    exact q
theorem ok_place {f fB : Addr} {fd fdB : FuncData} {t : Tok} (F : Fun K "is_place" "is_place" sPlace f fd) (GB : FnOk P w K mg base CX0 2 fB fdB ["value", "least", "most"] spBetween) (bB : Binds K fdB ["value", "least", "most"] []) (gB : mg "is_between" = some (.ref fB)) (kB : PySem.W.keepIn K (.ref fB) = true)
    (mM : mg "MOST_INDEX" = some (.int 7 t)) : FnOk P w K mg base CX0 3 f fd ["value"] spPlace := by
  refine F.ok scPlace (fun vs H Q E h => ?_) (fun cdv A outer s H vs Q E hr h => ?_)
  · obtain ⟨i, rfl, _⟩ := h
    rfl
  · obtain ⟨i, rfl, hp, q⟩ := h
    refine ⟨_, pss_one (ps_ret (pe_call GB hr (by rfl) gB kB bB .nil pass0 (pa_cons (pv 0) (pa_cons pe_int (pa_cons (pe_glob (v := .int 7) (by rfl) mM ⟨_, rfl⟩) pa_nil))))), ?_⟩
    exact ⟨_, rfl, i, 0, 7, rfl, hp.1, hp.2, q⟩
theorem ok_isCell {f fP : Addr} {fd fdP : FuncData} (F : Fun K "is_cell" "is_cell" sIsCell f fd) (GP : FnOk P w K mg base CX0 3 fP fdP ["value"] spPlace) (bP : Binds K fdP ["value"] []) (gP : mg "is_place" = some (.ref fP)) (kP : PySem.W.keepIn K (.ref fP) = true)
    (mi : mg "isinstance" = none) (mT : mg "tuple" = none) (ml : mg "len" = none) : FnOk P w K mg base CX0 4 f fd ["value"] (spIsCell K) := by
  refine F.ok scIsCell (fun vs H Q E h => ?_) (fun cdv A outer s H vs Q E hr h => ?_)
  · obtain ⟨a, c, rfl, _⟩ := h
    rfl
  · obtain ⟨a, c, rfl, ht, hg, q⟩ := h
    refine ⟨_, pss_one (ps_ret (pe_and (pe_callB call_isi (by rfl) mi (by decide +kernel) (pa_cons (pv 0) (pa_cons (pe_bltn (v := .ty "tuple") (by rfl) mT (by decide +kernel) rfl) pa_nil)))
      (pe_and (pe_cmpR op_eq (pe_callB call_len_seq (by rfl) ml PySem.boot_len (pa_cons (pv 0) pa_nil)) pe_int (nomark _))
      (pe_and (pe_call GP hr (by rfl) gP kP bP .nil pass0 (pa_cons (pe_ix ix_tup (pv 0) pe_int (fun _ _ => rfl)) pa_nil))
      (pe_one (pe_call GP hr (by rfl) gP kP bP .nil pass0 (pa_cons (pe_ix ix_tup (pv 0) pe_int (fun _ _ => rfl)) pa_nil))))))), ?_⟩
    refine ⟨_, rfl, _, _, _, _, true, rfl, .ty "tuple", tyx_tup ht, kit_ty (by decide +kernel), true, rfl, ?_⟩
    refine ⟨_, rfl, a, _, rfl, .inr ht, rfl, true, rfl, ?_⟩
    refine ⟨_, rfl, a, _, 0, .int c.1, rfl, rfl, ht, rfl, c.1, rfl, ⟨hg.1, hg.2.1⟩, true, rfl, ?_⟩
    exact ⟨_, rfl, a, _, 1, .int c.2, rfl, rfl, ht, rfl, c.2, rfl, ⟨hg.2.2.1, hg.2.2.2⟩, q⟩
theorem ok_check {f fI : Addr} {fd fdI : FuncData} {t : Tok} (F : Fun K "check_plan" "check_plan" sCheck f fd) (GI : FnOk P w K mg base CX0 4 fI fdI ["value"] (spIsCell K)) (bI : Binds K fdI ["value"] []) (gI : mg "is_cell" = some (.ref fI)) (kI : PySem.W.keepIn K (.ref fI) = true)
    (mi : mg "isinstance" = none) (mT : mg "tuple" = none) (ml : mg "len" = none) (me : mg "enumerate" = none) (mM : mg "MOST_CELLS" = some (.int 24 t)) : FnOk P w K mg base CX0 5 f fd ["plan"] (spCheck K) := by
  refine F.ok scCheck (fun vs H Q E h => ?_) (fun cdv A outer s H vs Q E hr h => ?_)
  · obtain ⟨a, c, rfl, _⟩ := h
    rfl
  · obtain ⟨a, cs, rfl, ⟨xs, hx, hc⟩, gd, hl, q⟩ := h
    have nd := scCheck.nd
    refine ⟨_, pss_cons (ps_if (PW.pt (pw_or (pt_not (pt_val (pe_callB call_isi (by rfl) mi (by decide +kernel) (pa_cons (pv 0) (pa_cons (pe_bltn (v := .ty "tuple") (by rfl) mT (by decide +kernel) rfl) pa_nil)))))
          (pw_or1 (pt_not (pt_chain op_le op_le pe_int (pe_callB call_len_seq (by rfl) ml PySem.boot_len (pa_cons (pv 0) pa_nil)) (pe_glob (v := .int 24) (by rfl) mM ⟨_, rfl⟩))))))
        (pss_one ps_never) pss_nil)
      (pss_one (ps_for PassesOwn.never rfl (pi_enumT (by rfl) me (pa_cons (pv 0) pa_nil)) (pg_tup (by rfl) (pgs_cons (pg_name (i := 1) nd rfl (.inl rfl)) (pgs_cons (pg_name (i := 2) nd rfl (.inl rfl)) pgs_nil)))
        (pss_cons (ps_if (pt_not (pt_val (pe_call GI hr (by rfl) gI kI bI .nil pass0 (pa_cons (pv 2) pa_nil)))) (pss_one ps_never) pss_nil)
        (pss_one (ps_if (PW.pt (pw_and (pt_cmpR op_gt (pv 1) pe_int (nomark _)) (pw_and1 (pt_cmpR (op_leT hr.units0) (pv 2) (pe_ix ix_tup (pv 0) (pe_op op_sub (pv 1) pe_int) (fun _ _ => rfl)) (nomark _))))) (pss_one ps_never) pss_nil))))), ?_⟩
    have hlen := Paired.length hc
    have h1 : 1 ≤ xs.length := by
      rcases Nat.eq_zero_or_pos cs.length with z | z
      · exact absurd (List.eq_nil_of_length_eq_zero z) gd.ne
      · omega
    refine ⟨_, rfl, _, _, _, _, true, rfl, .ty "tuple", tyx_tup hx, kit_ty (by decide +kernel), true, rfl, ?_⟩
    refine ⟨_, rfl, a, _, rfl, .inr hx, _, _, rfl, rfl, true, bl_true (show (1 : Int) ≤ (xs.length : Int) by omega), ?_⟩
    refine ⟨_, _, rfl, rfl, true, bl_true (show (xs.length : Int) ≤ 24 by omega), ?_⟩
    refine ⟨_, rfl, a, xs, rfl, hx, for_enumT (K := K) (a := a) (xs := xs) (fun i σ H' => Same H H' ∧ ∃ y1 y2, σ = [some (.ref a), y1, y2]) ?_ ?_ ?_ ?_⟩
    · exact ⟨Same.refl _, none, none, rfl⟩
    · rintro i σ H' _ ⟨sm, _⟩
      exact same_seqT sm hx
    · rintro i x σ H' T hi ⟨sm, y1, y2, rfl⟩ nT
      obtain ⟨c, hci, tt, rfl, ht⟩ := paired_get hc hi
      have sT := same_new (o := .tup [.int (i : Nat), .ref tt]) nT
      have s2 := sm.trans sT
      refine ⟨T, _, rfl, SqT.of upd_same, rfl, _, _, rfl, _, _, rfl, rfl, ?_⟩
      refine ⟨_, rfl, tt, c, rfl, same_seqT s2 ht, gd.grid c (List.mem_of_getElem? hci), true, rfl, ?_⟩
      refine ⟨_, rfl, _, _, rfl, rfl, _, rfl, ite2 (fun e => ?_) (fun e => ?_)⟩
      · have e' : (0 : Int) < (i : Int) := of_decide_eq_true e
        obtain ⟨j, rfl⟩ : ∃ j, i = j + 1 := ⟨i - 1, by omega⟩
        have hj : j < xs.length := by
          have := (List.getElem?_eq_some_iff.mp hi).1
          omega
        obtain ⟨c0, hc0, t0, e0, ht0⟩ := paired_get hc (List.getElem?_eq_getElem hj)
        have gx : xs[j]? = some (.ref t0) := by rw [List.getElem?_eq_getElem hj, e0]
        have ej : ((j + 1 : Nat) : Int) - 1 = ((j : Nat) : Int) := by omega
        refine ⟨_, rfl, _, rfl, _, rfl, _, _, rfl, rfl, a, xs, _, .ref t0, rfl, rfl, same_seqT s2 hx, ?_, tt, t0, [c.1, c.2], [c0.1, c0.2], rfl, rfl, same_seqT s2 ht, same_seqT s2 ht0, false, ?_, ?_⟩
        · show atI xs (((j + 1 : Nat) : Int) - 1) = _
          rw [ej]
          exact atI_nat gx
        · rw [not_le2 (good_step gd.asc hc0 hci)]
        · exact ⟨s2, _, _, rfl⟩
      · exact ⟨s2, _, _, rfl⟩
    · rintro σ H' ⟨sm, _⟩
      exact q H' sm
end
end KS
namespace KS
open PySem PySem.Spec PyProof.Rows L2
section
variable {P : Program} {w : World} {K : PySem.W.Frag} {mg : Str → Option Value} {base : Heap}
end
end KS
namespace KS
open PySem PySem.Spec PyProof.Rows L2
abbrev nLines : List Str := ["plan", "kind", "side", "found", "index", "cell", "place"]
section
variable {P : Program} {w : World} {K : PySem.W.Frag} {mg : Str → Option Value} {base : Heap}
end
end KS
namespace KS
open PySem PySem.Spec PyProof.Rows L2 RZ
abbrev sFF : Stmt := topS 20
abbrev sCheckF : Stmt := topS 21
theorem scFF : FnScope ["values", "most", "index", "value"] ["values", "most"] (defScope sFF) := ⟨rfl, rfl, rfl, by decide +kernel, rfl, by decide +kernel, by decide +kernel⟩
theorem scCheckF : FnScope ["size", "filling", "index"] ["size", "filling"] (defScope sCheckF) := ⟨rfl, rfl, rfl, by decide +kernel, rfl, by decide +kernel, by decide +kernel⟩
abbrev nAlong : List Str := ["groups", "filling", "result", "line", "index", "values", "value"]
section
variable {P : Program} {w : World} {K : PySem.W.Frag} {mg : Str → Option Value} {base : Heap}
theorem ok_ff {f fI : Addr} {fd fdI : FuncData} (F : Fun K "first_fault" "first_fault" sFF f fd) (GI : FnOk P w K mg base CX0 2 fI fdI ["value", "least", "most"] spBetween) (bI : Binds K fdI ["value", "least", "most"] []) (gI : mg "is_between" = some (.ref fI)) (kI : PySem.W.keepIn K (.ref fI) = true)
    (me : mg "enumerate" = none) : FnOk P w K mg base CX0 3 f fd ["values", "most"] (spFF K) := by
  refine F.ok scFF (fun vs H Q E h => ?_) (fun cdv A outer s H vs Q E hr h => ?_)
  · obtain ⟨a, t, vs, rfl, _⟩ := h
    rfl
  · obtain ⟨a, m, vs, rfl, hx, vn, vb, q⟩ := h
    have nd := scFF.nd
    refine ⟨_, pss_cons (ps_for PassesOwn.never rfl (pi_enumT (by rfl) me (pa_cons (pv 0) pa_nil)) (pg_tup (by rfl) (pgs_cons (pg_name (i := 2) nd rfl (.inl rfl)) (pgs_cons (pg_name (i := 3) nd rfl (.inl rfl)) pgs_nil)))
        (pss_one (ps_if (PW.pt (pw_or (pt_not (pt_val (pe_call GI hr (by rfl) gI kI bI .nil pass0 (pa_cons (pv 3) (pa_cons pe_int (pa_cons (pv 1) pa_nil))))))
          (pw_or1 (pt_cmpR op_in_seq (pv 3) (pe_slice sl_tup (pv 0) po_none (po_some (pv 2))) (by rfl))))) (pss_one (ps_ret (pv 2))) pss_nil)))
      (pss_one (ps_ret pe_non)), ?_⟩
    refine ⟨_, rfl, a, _, rfl, hx, for_enumT (K := K) (a := a) (xs := vs.map V.int) (fun i σ H' => Same H H' ∧ ∃ y1 y2, σ = [some (.ref a), some (.int m), y1, y2]) ?_ ?_ ?_ ?_⟩
    · exact ⟨Same.refl _, none, none, rfl⟩
    · rintro i σ H' _ ⟨sm, _⟩
      exact same_seqT sm hx
    · rintro i x σ H' T hi ⟨sm, y1, y2, rfl⟩ nT
      have hil : i < (vs.map V.int).length := (List.getElem?_eq_some_iff.mp hi).1
      rw [List.getElem?_map] at hi
      cases ev : vs[i]? with
      | none =>
        rw [ev] at hi
        cases hi
      | some v =>
        rw [ev] at hi
        cases hi
        have sT := same_new (o := .tup [.int (i : Nat), .int v]) nT
        have s2 := sm.trans sT
        have bd := vb v (List.mem_of_getElem? ev)
        refine ⟨T, _, rfl, SqT.of upd_same, rfl, _, _, rfl, _, _, rfl, rfl, ?_⟩
        refine ⟨_, rfl, _, rfl, v, 1, m, rfl, bd.1, bd.2, true, rfl, ?_⟩
        refine ⟨_, rfl, _, rfl, _, rfl, _, rfl, a, _, rfl, same_seqT s2 hx, cut_not hil, fun S nS => ?_⟩
        have sS := same_new (o := .tup (cutV (vs.map V.int) none (some (i : Int)))) nS
        refine ⟨S, _, rfl, .inr (SqT.of upd_same), rfl, ?_, false, ?_, ?_⟩
        · rw [cut_take (by omega), ← List.map_take]
          exact flat_ints _
        · show V.bl (inV (.int v) (cutV (vs.map V.int) none (some (i : Int)))) = V.bl false
          rw [cut_take (by omega), ← List.map_take, inV_take vn ev]
        · exact ⟨s2.trans sS, _, _, rfl⟩
    · rintro σ H' ⟨sm, _⟩
      exact q H' sm
theorem ok_checkF {f fI : Addr} {fd fdI : FuncData} {tk : Tok} (F : Fun K "check_filling" "check_filling" sCheckF f fd) (GI : FnOk P w K mg base CX0 3 fI fdI ["values", "most"] (spFF K)) (bI : Binds K fdI ["values", "most"] []) (gI : mg "first_fault" = some (.ref fI)) (kI : PySem.W.keepIn K (.ref fI) = true)
    (mi : mg "isinstance" = none) (mT : mg "tuple" = none) (ml : mg "len" = none) (mM : mg "MOST_VALUE" = some (.int 9999 tk)) : FnOk P w K mg base CX0 4 f fd ["size", "filling"] (spCheckF K) := by
  refine F.ok scCheckF (fun vs H Q E h => ?_) (fun cdv A outer s H vs Q E hr h => ?_)
  · obtain ⟨a, t, vs, rfl, _⟩ := h
    rfl
  · obtain ⟨n, a, vs, rfl, hx, v9, hn, q⟩ := h
    have nd := scCheckF.nd
    refine ⟨_, pss_cons (ps_if (PW.pt (pw_or (pt_not (pt_val (pe_callB call_isi (by rfl) mi (by decide +kernel) (pa_cons (pv 1) (pa_cons (pe_bltn (v := .ty "tuple") (by rfl) mT (by decide +kernel) rfl) pa_nil)))))
          (pw_or1 (pt_cmpR op_ne (pe_callB call_len_seq (by rfl) ml PySem.boot_len (pa_cons (pv 1) pa_nil)) (pv 0) (nomark _)))))
        (pss_one ps_never) pss_nil)
      (pss_cons (ps_set (i := 2) nd rfl (.inl rfl) (pe_call GI hr (by rfl) gI kI bI .nil pass0 (pa_cons (pv 1) (pa_cons (pe_glob (v := .int 9999) (by rfl) mM ⟨_, rfl⟩) pa_nil))))
      (pss_one (ps_if (pt_cmpR op_notN (pv 2) pe_non (nomark _)) (pss_one ps_never) pss_nil))), ?_⟩
    have hlen : (vs.map V.int).length = n := by rw [List.length_map, v9.len]
    refine ⟨_, rfl, _, _, _, _, true, rfl, .ty "tuple", tyx_tup hx, kit_ty (by decide +kernel), true, rfl, ?_⟩
    refine ⟨_, rfl, a, _, rfl, .inr hx, _, rfl, rfl, false, ?_, ?_⟩
    · rw [hlen]
      simp
    refine ⟨_, rfl, a, 9999, vs, rfl, hx, v9.nd, v9.bd, fun H1 s1 => ?_⟩
    exact ⟨_, rfl, rfl, false, rfl, q H1 s1⟩
end
end KS
namespace KS
open PySem PySem.Spec PyProof.Rows L2
/-! ### enumerate(z), z a text -/
def IteS (z : Str) : It where
  go := fun i _ => i < z.cps.size
  yld := fun i H v H' => ∃ (T : Addr) (c : Nat), v = .ref T ∧ H T = none ∧ z.cps[i]? = some c ∧ H' = upd H T (.tup [.int (i : Nat), .str ⟨#[c]⟩])
  stop := fun i _ => i = z.cps.size
def EnS (z : Str) (t : Tok) (e it : Addr) (i : Nat) (h : Heap) : Prop := (∃ old, IsEnum h e it ((i : Nat) : Int) old) ∧ h.IsStrIter it (strIterType z) z t i ∧ e ≠ it
theorem mem2 {b e it : Addr} (h : b ∈ [e, it]) : b = e ∨ b = it := by simpa using h
theorem strIter_at {h h' : Heap} {a : Addr} {ty : String} {x : Str} {t : Tok} {i : Nat} (y : h.IsStrIter a ty x t i) (k : ∀ o, h.get? a = some o → h'.get? a = some o) : h'.IsStrIter a ty x t i := by
  obtain ⟨o, ho, r⟩ := y
  exact ⟨o, k o ho, r⟩
theorem ens_obj {z : Str} {t : Tok} {e it b : Addr} {i : Nat} {h : Heap} (st : EnS z t e it i h) (hb : b ∈ [e, it]) : ∃ o, h.get? b = some o ∧ ∀ v, o.data ≠ .cell v := by
  obtain ⟨⟨old, q1⟩, ⟨o, q2, _, d⟩, _⟩ := st
  rcases mem2 hb with r | r <;> subst r
  · exact ⟨_, q1, fun v w => nomatch w⟩
  · exact ⟨o, q2, fun v w => by rw [d] at w; cases w⟩
theorem turn_enumS {P : Program} {w : World} {K : PySem.W.Frag} {elts : List Expr} {kk : Nat} {tpos : Pos} (z : Str) (t : Tok) (e it : Addr) : Turn P w K (.Tuple elts kk tpos) (IteS z) [e, it] e (EnS z t e it) where
  mem := List.mem_cons_self
  obj := fun i h st b hb => ens_obj st hb
  keep := fun i h h' st k => ⟨st.1.elim fun old q => ⟨old, k e (by simp) _ q⟩, strIter_at st.2.1 fun o q => k it (by simp) o q, st.2.2⟩
  self := fun A i s Q E st h => st.1.elim fun old q => wpAny_pyIter_enum q h
  item := by
    intro X hP hw hK hc i pins s σ H E I hf st hg
    subst hP hw hK
    have st0 := st
    obtain ⟨⟨old, q1⟩, q2, ne⟩ := st
    have hh : X.A.in1.handled = none := I.ok.hd hc
    have el : e < s.heap.objs.size := Heap.lt_size q1
    refine wpAny_pyNext_enum_itemD (Draws.text hh it z t) q1 q2 hg ne (by simp [ne]) fun u h1 tk hu ho hst hT sz kp => ?_
    obtain ⟨c, tu, hcx, rfl⟩ := hu
    refine ⟨_, rfl, wpAny_letOwnedTupleGo_enum (s := { s with heap := h1, toks := tk + 1 }) ho fun h2 e2 sb => ?_⟩
    have hT2 : h2.get? s.heap.objs.size = some { cls := .type "tuple", data := .seq #[.int i tk, .str ⟨#[c]⟩ tu] } := (sb.2 _ (Nat.ne_of_gt el)).trans hT
    have nw : ObjOk X.prog X.w (upd H s.heap.objs.size (.tup [.int (i : Nat), .str ⟨#[c]⟩])) h2 s.heap.objs.size (.tup [.int (i : Nat), .str ⟨#[c]⟩]) :=
      ⟨by show 2 ≤ sizeLine; decide, [.int i tk, .str ⟨#[c]⟩ tu], .cons ⟨_, rfl⟩ (.cons ⟨_, rfl⟩ .nil), ⟨_, hT2, rfl, _, rfl⟩⟩
    have I1 : Inv X pins σ (upd H s.heap.objs.size (.tup [.int (i : Nat), .str ⟨#[c]⟩])) { s with heap := h2, toks := tk + 1 } := by
      refine I.turnedNew (ch := [e, it]) (fun b o n q => ?_) hf (Nat.le_refl _) nw
      have n1 : b ≠ e := fun r => n (by simp [r])
      have n2 : b ≠ it := fun r => n (by simp [r])
      exact (sb.2 b n1).trans (kp b o n1 n2 q)
    refine ⟨.ref s.heap.objs.size, _, I1, rfl, ⟨_, c, rfl, I.hok.fresh (Nat.le_refl _), hcx, rfl⟩, ⟨⟨.str ⟨#[c]⟩ tu, ?_⟩, strIter_at hst fun o q => (sb.2 it (Ne.symm ne)).trans q, ne⟩, fun b hb => ?_⟩
    · have r : ((i + 1 : Nat) : Int) = (i : Int) + 1 := by omega
      rw [r]
      exact e2
    · obtain ⟨o, ho, _⟩ := ens_obj st0 hb
      rw [upd_ne (Nat.ne_of_lt (Heap.lt_size ho))]
      exact (hf b hb).1
  done := by
    intro X hP hw hK hc i pins s σ H E I hf st hg
    subst hP hw hK
    obtain ⟨⟨old, q1⟩, q2, ne⟩ := st
    have hh : X.A.in1.handled = none := I.ok.hd hc
    have hg' : i = z.cps.size := hg
    subst hg'
    obtain ⟨f0, f1, f2, f3, f4, f5⟩ := hf it (by simp)
    exact wpAny_pyNext_enum_endD (Draws.text hh it z t) q1 q2 fun h1 eb => ⟨rfl, I.turned (t' := s.toks) (fun b o hb q => eb b o hb q) f0 f1 f3 f4 f5⟩
def iEnumS (ta : TA) : TI := fun σ H R => ta σ H fun vs H1 => ∃ z, vs = [.str z] ∧ R (IteS z) H1
theorem pi_enumS {X : Cx} {e : Expr} {ta : TA} {p pos tpos : Pos} {elts : List Expr} {kk : Nat} (hg : Gl X "enumerate") (hm : X.mg "enumerate" = none) (ha : PA X [e] ta)
    (hs : starEach [e] X.env = [(false, eval e X.env)] := by rfl) : PI X (.Tuple elts kk tpos) (.Call (.Name "enumerate" p) [e] [] pos) (iEnumS ta) := by
  refine ⟨fun pins s σ H R I h => Call_ (ld_blt I hg hm boot_enumerate (PyProof.Rows.callWith_type1 (thn (ha.run pos pins s σ H _ I h) fun us s1 hh => ?_) hs rfl))⟩
  obtain ⟨vs, H1, I1, r1, z, ex, q⟩ := hh
  subst ex
  cases r1 with
  | cons r rr =>
    cases rr
    obtain ⟨t, rfl⟩ := r
    refine call_enumerate_str fun h1 he hit sz kp => wpAny_pyIter_enum he ?_
    have I2 : Inv X pins σ H1 { s1 with heap := h1 } := I1.kept (t' := s1.toks) kp
    refine ⟨s1.heap.objs.size + 1, [s1.heap.objs.size + 1, s1.heap.objs.size], _, _, H1, rfl, I2, turn_enumS z t (s1.heap.objs.size + 1) s1.heap.objs.size, ⟨⟨.none, he⟩, hit, Nat.succ_ne_self _⟩, fun b hb => ?_, q⟩
    have le : s1.heap.objs.size ≤ b := by
      rcases mem2 hb with r | r <;> rw [r]
      · exact Nat.le_succ _
      · exact Nat.le_refl _
    exact I1.fpOk le (I1.hok.fresh le)
theorem for_enumS {z : Str} {g : TG} {tb : TS} {D : Ends} {σ : L2.St} {H : Hp} (Pv : Nat → L2.St → Hp → Prop) (h0 : Pv 0 σ H)
    (hs : ∀ i c σ G T, z.cps[i]? = some c → Pv i σ G → G T = none → g (.ref T) σ (upd G T (.tup [.int (i : Nat), .str ⟨#[c]⟩])) fun σ2 G2 => tb { D with nx := Pv (i + 1), ct := Pv (i + 1), bk := D.nx } σ2 G2)
    (hd : ∀ σ G, Pv z.cps.size σ G → D.nx σ G) :
    ∃ W : Nat → Nat → L2.St → Hp → Prop, (∃ m, W 0 m σ H) ∧ ∀ i m σ H, W i m σ H → ((IteS z).stop i H ∧ D.nx σ H) ∨ ((IteS z).go i H ∧ ∃ N : L2.St → Hp → Prop, (∀ σ' H', N σ' H' → ∃ m', m' < m ∧ W (i + 1) m' σ' H') ∧
      ∀ v H', (IteS z).yld i H v H' → g v σ H' fun σ2 H2 => tb { D with nx := N, ct := N, bk := D.nx } σ2 H2) := by
  refine ⟨fun i m σ G => m + i = z.cps.size ∧ Pv i σ G, ⟨_, rfl, h0⟩, fun i m σ G hw => ?_⟩
  obtain ⟨hm, p⟩ := hw
  cases m with
  | zero =>
    have e : i = z.cps.size := by omega
    subst e
    exact .inl ⟨rfl, hd σ G p⟩
  | succ m =>
    refine .inr ⟨by show i < z.cps.size; omega, Pv (i + 1), fun σ' G' p' => ⟨m, Nat.lt_succ_self _, by omega, p'⟩, fun v G' y => ?_⟩
    obtain ⟨T, c, rfl, nT, hc, rfl⟩ := y
    exact hs i c σ G T hc p nT
end KS
namespace KS
open PySem PySem.Spec PyProof.Rows L2 RZ
abbrev sCheckL : Stmt := topS 24
abbrev sCheckW : Stmt := topS 25
theorem scCheckL : FnScope ["word", "letters", "index", "letter"] ["word", "letters"] (defScope sCheckL) := ⟨rfl, rfl, rfl, by decide +kernel, rfl, by decide +kernel, by decide +kernel⟩
theorem scCheckW : FnScope ["word"] ["word"] (defScope sCheckW) := ⟨rfl, rfl, rfl, by decide +kernel, rfl, by decide +kernel, by decide +kernel⟩
def spCheckL : Sp := fun vs H Q _ => ∃ wd : List Bool, vs = [.str (wS wd), .str "RC"] ∧ wd.length ≤ 400 ∧ ∀ H', Same H H' → Q .non H'
def spCheckW : Sp := fun vs H Q _ => ∃ wd : List Bool, vs = [.str (wS wd)] ∧ wd.length ≤ 400 ∧ ∀ H', Same H H' → Q .non H'
section
variable {P : Program} {w : World} {K : PySem.W.Frag} {mg : Str → Option Value} {base : Heap}
theorem ok_checkL {f : Addr} {fd : FuncData} {tk : Tok} (F : Fun K "check_letters" "check_letters" sCheckL f fd) (mi : mg "isinstance" = none) (mS : mg "str" = none) (ml : mg "len" = none) (me : mg "enumerate" = none) (mM : mg "MOST_LETTERS" = some (.int 400 tk)) :
    FnOk P w K mg base CX0 1 f fd ["word", "letters"] spCheckL := by
  refine F.ok scCheckL (fun vs H Q E h => ?_) (fun cdv A outer s H vs Q E hr h => ?_)
  · obtain ⟨wd, rfl, _⟩ := h
    rfl
  · obtain ⟨wd, rfl, hl, q⟩ := h
    have nd := scCheckL.nd
    refine ⟨_, pss_cons (ps_if (PW.pt (pw_or (pt_not (pt_val (pe_callB call_isi (by rfl) mi (by decide +kernel) (pa_cons (pv 0) (pa_cons (pe_bltn (v := .ty "str") (by rfl) mS (by decide +kernel) rfl) pa_nil)))))
          (pw_or1 (pt_cmpR op_gt (pe_callB call_len_str (by rfl) ml PySem.boot_len (pa_cons (pv 0) pa_nil)) (pe_glob (v := .int 400) (by rfl) mM ⟨_, rfl⟩) (nomark _)))))
        (pss_one ps_never) pss_nil)
      (pss_one (ps_for PassesOwn.never rfl (pi_enumS (by rfl) me (pa_cons (pv 0) pa_nil)) (pg_tup (by rfl) (pgs_cons (pg_name (i := 2) nd rfl (.inl rfl)) (pgs_cons (pg_name (i := 3) nd rfl (.inl rfl)) pgs_nil)))
        (pss_one (ps_if (pt_cmpR op_notIn_sign (pv 3) (pv 1) (by rfl)) (pss_one ps_never) pss_nil)))), ?_⟩
    have hw := wS_len wd
    refine ⟨_, rfl, _, _, _, _, true, rfl, .ty "str", .base (.str _), kit_ty (by decide +kernel), true, rfl, ?_⟩
    refine ⟨_, rfl, _, rfl, by rw [hw, sizeLine_eq]; omega, _, _, rfl, rfl, false, bl_false (by rw [hw]; omega), ?_⟩
    refine ⟨_, rfl, _, rfl, for_enumS (fun i σ H' => Same H H' ∧ ∃ y1 y2, σ = [some (.str (wS wd)), some (.str "RC"), y1, y2]) ?_ ?_ ?_⟩
    · exact ⟨Same.refl _, none, none, rfl⟩
    · rintro i c σ H' T hi ⟨sm, y1, y2, rfl⟩ nT
      obtain ⟨b, hb, rfl⟩ := wS_at hi
      have sT := same_new (o := .tup [.int (i : Nat), .str ⟨#[ltr b]⟩]) nT
      refine ⟨T, _, rfl, SqT.of upd_same, rfl, _, _, rfl, _, _, rfl, rfl, ?_⟩
      refine ⟨_, rfl, _, rfl, _, _, rfl, rfl, false, ?_, ?_⟩
      · cases b <;> decide +kernel
      · exact ⟨sm.trans sT, _, _, rfl⟩
    · rintro σ H' ⟨sm, _⟩
      exact q H' sm
theorem ok_checkW {f fL : Addr} {fd fdL : FuncData} (F : Fun K "check_word" "check_word" sCheckW f fd) (GL : FnOk P w K mg base CX0 1 fL fdL ["word", "letters"] spCheckL) (bL : Binds K fdL ["word", "letters"] []) (gL : mg "check_letters" = some (.ref fL)) (kL : PySem.W.keepIn K (.ref fL) = true) :
    FnOk P w K mg base CX0 2 f fd ["word"] spCheckW := by
  refine F.ok scCheckW (fun vs H Q E h => ?_) (fun cdv A outer s H vs Q E hr h => ?_)
  · obtain ⟨wd, rfl, _⟩ := h
    rfl
  · obtain ⟨wd, rfl, hl, q⟩ := h
    refine ⟨_, pss_one (ps_expr (pe_call GL hr (by rfl) gL kL bL .nil pass0 (pa_cons (pv 0) (pa_cons pe_str pa_nil)))), ?_⟩
    exact ⟨_, rfl, wd, rfl, hl, q⟩
end
end KS
namespace KS
open PySem PySem.Spec PyProof.Rows L2 RZ
theorem ten30 : (10 : Int) ^ 30 = 1000000000000000000000000000000 := by decide +kernel
abbrev sIsWord : Stmt := topS 26
theorem scIsWord : FnScope ["value"] ["value"] (defScope sIsWord) := ⟨rfl, rfl, rfl, by decide +kernel, rfl, by decide +kernel, by decide +kernel⟩
abbrev sIsRep : Stmt := topS 30
theorem scIsRep : FnScope ["value"] ["value"] (defScope sIsRep) := ⟨rfl, rfl, rfl, by decide +kernel, rfl, by decide +kernel, by decide +kernel⟩
abbrev sCS : Stmt := topS 31
abbrev nCS : List Str := ["step", "depth", "room", "count", "inner", "more"]
theorem scCS : FnScope nCS ["step", "depth", "room"] (defScope sCS) := ⟨rfl, rfl, rfl, by decide +kernel, rfl, by decide +kernel, by decide +kernel⟩
abbrev sCP : Stmt := topS 32
abbrev nCP : List Str := ["program", "room", "index", "step", "count"]
theorem scCP : FnScope nCP ["program"] (defScope sCP) := ⟨rfl, rfl, rfl, by decide +kernel, rfl, by decide +kernel, by decide +kernel⟩
section
variable {P : Program} {w : World} {K : PySem.W.Frag} {mg : Str → Option Value} {base : Heap}
theorem ok_isWordG {f fC C : Addr} {fd fdC : FuncData} (F : Fun K "is_word" "is_word" sIsWord f fd) (GC : FnOk P w K mg base CX0 2 fC fdC ["word"] spCheckW) (bC : Binds K fdC ["word"] []) (gC : mg "check_word" = some (.ref fC)) (kC : PySem.W.keepIn K (.ref fC) = true)
    (gX : mg "InvalidWord" = some (.ref C)) : FnOk P w K mg base CX0 3 f fd ["value"] spIsWordG := by
  refine F.ok scIsWord (fun vs H Q E h => ?_) (fun cdv A outer s H vs Q E hr h => ?_)
  · obtain ⟨l, rfl, _⟩ := h
    rfl
  · obtain ⟨l, rfl, hl, q⟩ := h
    refine ⟨_, pss_cons (ps_try_only (tb := fun W => tDrop (tCall spCheckW [] E0 (tCons (tVar 0) tNil))) (ts := fun _ _ _ => tRet (tC (.bl false))) (Wout := fun _ _ _ _ => False) rfl rfl ⟨rfl, by decide, Or.inl gX⟩ takes0
        (fun W pn xe tk _ => pss_one (ps_expr (by exact (pe_call GC hr (by rfl) gC kC bC .nil pass0 (by exact (pa_cons (pv 0) pa_nil))))))
        (fun a oe cls d pn _ _ => pss_one (ps_ret pe_bl)))
      (pss_one (ps_ret pe_bl)), ?_⟩
    exact ⟨_, rfl, l, rfl, hl, fun H' s' => q H' s'⟩
theorem ok_isRep {f fB : Addr} {fd fdB : FuncData} {tk : Tok} (F : Fun K "is_repeat" "is_repeat" sIsRep f fd) (GB : FnOk P w K mg base CX0 2 fB fdB ["value", "least", "most"] spBetween) (bB : Binds K fdB ["value", "least", "most"] []) (gB : mg "is_between" = some (.ref fB)) (kB : PySem.W.keepIn K (.ref fB) = true)
    (mi : mg "isinstance" = none) (mT : mg "tuple" = none) (ml : mg "len" = none) (mM : mg "MOST_TIMES" = some (.int 1000000000000000000000000000000 tk)) : FnOk P w K mg base CX0 3 f fd ["value"] (spIsRep K) := by
  refine F.ok scIsRep (fun vs H Q E h => ?_) (fun cdv A outer s H vs Q E hr h => ?_)
  · obtain ⟨t, b, n, ys, rfl, _⟩ := h
    rfl
  · obtain ⟨t, b, n, ys, rfl, ht, hb, n1, n2, q⟩ := h
    refine ⟨_, pss_cons (ps_if (PW.pt (pw_or (pt_not (pt_val (pe_callB call_isi (by rfl) mi (by decide +kernel) (pa_cons (pv 0) (pa_cons (pe_bltn (v := .ty "tuple") (by rfl) mT (by decide +kernel) rfl) pa_nil)))))
          (pw_or (pt_cmpR op_ne (pe_callB call_len_seq (by rfl) ml PySem.boot_len (pa_cons (pv 0) pa_nil)) pe_int (nomark _))
          (pw_or1 (pt_cmpR op_ne (pe_ix ix_tup (pv 0) pe_int (fun _ _ => rfl)) pe_str (nomark _)))))) (pss_one ps_never) pss_nil)
      (pss_one (ps_ret (pe_and (pe_call GB hr (by rfl) gB kB bB .nil pass0 (pa_cons (pe_ix ix_tup (pv 0) pe_int (fun _ _ => rfl)) (pa_cons pe_int (pa_cons (pe_glob (v := .int 1000000000000000000000000000000) (by rfl) mM ⟨_, rfl⟩) pa_nil))))
        (pe_one (pe_callB call_isi (by rfl) mi (by decide +kernel) (pa_cons (pe_ix ix_tup (pv 0) pe_int (fun _ _ => rfl)) (pa_cons (pe_bltn (v := .ty "tuple") (by rfl) mT (by decide +kernel) rfl) pa_nil))))))), ?_⟩
    refine ⟨_, rfl, _, _, _, _, true, rfl, .ty "tuple", tyx_tup ht, kit_ty (by decide +kernel), true, rfl, ?_⟩
    refine ⟨_, rfl, t, _, rfl, .inr ht, rfl, false, rfl, ?_⟩
    refine ⟨_, rfl, t, _, 0, .str "repeat", rfl, rfl, ht, rfl, rfl, false, by simp, ?_⟩
    refine ⟨_, rfl, t, _, 1, .int n, rfl, rfl, ht, rfl, n, 1, _, rfl, n1, (by have := ten30; omega), true, rfl, ?_⟩
    refine ⟨_, rfl, t, _, 2, .ref b, rfl, rfl, ht, rfl, _, _, _, _, true, rfl, .ty "tuple", tyx_tup hb, kit_ty (by decide +kernel), q⟩
theorem ok_countS {f fW fR : Addr} {fd fdW fdR : FuncData} {tk : Tok} (F : Fun K "count_steps" "count_steps" sCS f fd) (bS : Binds K fd ["step", "depth", "room"] []) (gS : mg "count_steps" = some (.ref f)) (kS : PySem.W.keepIn K (.ref f) = true)
    (GW : FnOk P w K mg base CX0 3 fW fdW ["value"] spIsWordG) (bW : Binds K fdW ["value"] []) (gW : mg "is_word" = some (.ref fW)) (kW : PySem.W.keepIn K (.ref fW) = true)
    (GR : FnOk P w K mg base CX0 3 fR fdR ["value"] (spIsRep K)) (bR : Binds K fdR ["value"] []) (gR : mg "is_repeat" = some (.ref fR)) (kR : PySem.W.keepIn K (.ref fR) = true)
    (mi : mg "isinstance" = none) (mS : mg "str" = none) (mM : mg "MOST_NESTED" = some (.int 5 tk)) : ∀ m, FnOk P w K mg base CX0 (m + 5) f fd ["step", "depth", "room"] (spCS K m)
  | 0 => by
    refine F.ok scCS (fun vs H Q E h => ?_) (fun cdv A outer s H vs Q E hr h => ?_)
    · obtain ⟨v, s, d, room, rfl, _⟩ := h
      rfl
    · obtain ⟨v, st, d, room, rfl, hs, ok, hn, d1, d5, hr', q⟩ := h
      have hr3 : Room 3 _ := hr.mono (by omega)
      refine ⟨_, pss_cons (ps_if (pt_cmpR op_lt (pv 2) pe_int (nomark _)) (pss_one ps_never) pss_nil)
        (pss_cons (ps_if (pt_val (pe_callB call_isi (by rfl) mi (by decide +kernel) (pa_cons (pv 0) (pa_cons (pe_bltn (v := .ty "str") (by rfl) mS (by decide +kernel) rfl) pa_nil))))
          (pss_one (ps_ret (pe_ifExp (PW.pt (pw_and (pt_cmpR op_ne (pv 0) pe_str (nomark _)) (pw_and1 (pt_val (pe_call GW hr3 (by rfl) gW kW bW .nil pass0 (pa_cons (pv 0) pa_nil)))))) pe_int pe_non))) pss_nil)
        (pss_cons ps_never (pss_cons ps_never (pss_cons ps_never (pss_one ps_never))))), ?_⟩
      have sp := steps_pos st
      refine ⟨_, rfl, _, _, rfl, rfl, false, bl_false (show ¬ room < 1 by omega), ?_⟩
      cases hs with
      | w l =>
        simp only [Stp.ok] at ok
        refine ⟨_, rfl, _, _, _, _, true, rfl, .ty "str", .base (.str _), kit_ty (by decide +kernel), true, rfl, ?_⟩
        refine ⟨_, rfl, rfl, true, ?_, ?_⟩
        · exact wS_ne ok.1
        refine ⟨_, rfl, l, rfl, ok.2, fun H' s' => ⟨true, rfl, ?_⟩⟩
        exact q H' s'
      | r h1 h2 h3 =>
        simp only [Stp.nest] at hn
        omega
  | m + 1 => by
    have GS := ok_countS F bS gS kS GW bW gW kW GR bR gR kR mi mS mM m
    refine F.ok scCS (fun vs H Q E h => ?_) (fun cdv A outer s H vs Q E hr h => ?_)
    · obtain ⟨v, s, d, room, rfl, _⟩ := h
      rfl
    · obtain ⟨v, st, d, room, rfl, hs, ok, hn, d1, d5, hr', q⟩ := h
      have nd := scCS.nd
      have hr3 : Room 3 _ := hr.mono (by omega)
      refine ⟨_, pss_cons (ps_if (pt_cmpR op_lt (pv 2) pe_int (nomark _)) (pss_one ps_never) pss_nil)
        (pss_cons (ps_if (pt_val (pe_callB call_isi (by rfl) mi (by decide +kernel) (pa_cons (pv 0) (pa_cons (pe_bltn (v := .ty "str") (by rfl) mS (by decide +kernel) rfl) pa_nil))))
          (pss_one (ps_ret (pe_ifExp (PW.pt (pw_and (pt_cmpR op_ne (pv 0) pe_str (nomark _)) (pw_and1 (pt_val (pe_call GW hr3 (by rfl) gW kW bW .nil pass0 (pa_cons (pv 0) pa_nil)))))) pe_int pe_non))) pss_nil)
        (pss_cons (ps_if (PW.pt (pw_or (pt_cmpR op_eq (pv 1) (pe_glob (v := .int 5) (by rfl) mM ⟨_, rfl⟩) (nomark _)) (pw_or1 (pt_not (pt_val (pe_call GR hr3 (by rfl) gR kR bR .nil pass0 (pa_cons (pv 0) pa_nil))))))) (pss_one ps_never) pss_nil)
        (pss_cons (ps_set (i := 3) nd rfl (.inl rfl) pe_int)
        (pss_cons (ps_for PassesOwn.never rfl (pi_tup (pe_ix ix_tup (pv 0) pe_int (fun _ _ => rfl))) (pg_name (i := 4) nd rfl (.inl rfl))
          (pss_cons (ps_set (i := 5) nd rfl (.inl rfl) (pe_call GS hr (by rfl) gS kS bS .nil pass0 (pa_cons (pv 4) (pa_cons (pe_op op_add (pv 1) pe_int) (pa_cons (pe_op op_sub (pv 2) (pv 3)) pa_nil)))))
          (pss_cons (ps_if (pt_cmpR op_isN (pv 5) pe_non (nomark _)) (pss_one ps_never) pss_nil)
          (pss_one (ps_aug (i := 3) nd rfl (.inl rfl) (pv 5) iop_add)))))
        (pss_one (ps_ret (pv 3))))))), ?_⟩
      have sp := steps_pos st
      refine ⟨_, rfl, _, _, rfl, rfl, false, bl_false (show ¬ room < 1 by omega), ?_⟩
      cases hs with
      | w l =>
        simp only [Stp.ok] at ok
        refine ⟨_, rfl, _, _, _, _, true, rfl, .ty "str", .base (.str _), kit_ty (by decide +kernel), true, rfl, ?_⟩
        refine ⟨_, rfl, rfl, true, ?_, ?_⟩
        · exact wS_ne ok.1
        refine ⟨_, rfl, l, rfl, ok.2, fun H' s' => ⟨true, rfl, ?_⟩⟩
        exact q H' s'
      | @r t b n xs ss h1 h2 h3 =>
        simp only [Stp.ok] at ok
        simp only [Stp.nest] at hn d5
        simp only [Stp.steps] at hr' q
        refine ⟨_, rfl, _, _, _, _, false, rfl, .ty "str", tyx_tup h1, kit_ty (by decide +kernel), false, rfl, ?_⟩
        refine ⟨_, rfl, rfl, false, ?_, ?_⟩
        · exact congrArg V.bl (decide_eq_false (fun e => by have := V.int.inj e; omega))
        refine ⟨_, rfl, t, b, n, xs, rfl, h1, h2, ok.1, ok.2.1, true, rfl, ?_⟩
        refine ⟨_, rfl, t, _, 2, .ref b, rfl, rfl, h1, rfl, b, rfl, ⟨_, h2⟩, ?_⟩
        refine for_it (walk_tup (K := K) (a := b) (xs := xs)) (fun i σ G => ∃ y4 y5 : Option V, σ = [some (.ref t), some (.int d), some (.int room), some (.int ((1 + stepsL (ss.take i) : Nat) : Int)), y4, y5] ∧ Same H G) ?_ ?_ ?_ ?_
        · exact ⟨none, none, rfl, Same.refl _⟩
        · rintro i σ G _ ⟨_, _, _, sm⟩
          exact same_seqT sm h2
        · rintro i x σ G G' hi ⟨y4, y5, rfl, sm⟩ ⟨rfl, hx⟩
          have hx : xs[i]? = some x := hx
          obtain ⟨s1, e1, a1⟩ := h3.get hx
          have m1 := List.mem_of_getElem? e1
          obtain ⟨t1, t2⟩ := stepsL_take e1
          have n1 := nest_mem m1
          refine ⟨_, rfl, _, rfl, _, _, rfl, rfl, _, rfl, _, rfl, _, _, rfl, rfl, x, s1, d + 1, _, rfl, a1.kt (.of_same sm), ok_mem ok.2.2 m1, by omega, by omega, by omega, by omega, fun G1 s2 => ?_⟩
          refine ⟨_, rfl, rfl, false, rfl, ?_⟩
          refine ⟨_, rfl, _, rfl, _, _, rfl, rfl, ?_⟩
          refine ⟨some x, some (.int (s1.steps : Nat)), ?_, sm.trans s2⟩
          rw [t1]
          have e : ((1 + stepsL (ss.take i) : Nat) : Int) + ((s1.steps : Nat) : Int) = ((1 + (stepsL (ss.take i) + s1.steps) : Nat) : Int) := by omega
          exact congrArg (fun z => [some (V.ref t), some (V.int d), some (V.int room), some (V.int z), some x, some (V.int (s1.steps : Nat))]) e
        · rintro σ G ⟨y4, y5, rfl, sm⟩
          rw [h3.len, List.take_length]
          exact ⟨_, rfl, q G sm⟩
theorem ok_checkP {f fS : Addr} {fd fdS : FuncData} {tk : Tok} (F : Fun K "check_program" "check_program" sCP f fd)
    (GS : FnOk P w K mg base CX0 9 fS fdS ["step", "depth", "room"] (spCS K 4)) (bS : Binds K fdS ["step", "depth", "room"] []) (gS : mg "count_steps" = some (.ref fS)) (kS : PySem.W.keepIn K (.ref fS) = true)
    (mi : mg "isinstance" = none) (mT : mg "tuple" = none) (me : mg "enumerate" = none) (mM : mg "MOST_STEPS" = some (.int 60 tk)) : FnOk P w K mg base CX0 10 f fd ["program"] (spCP K) := by
  refine F.ok scCP (fun vs H Q E h => ?_) (fun cdv A outer s H vs Q E hr h => ?_)
  · obtain ⟨t, ss, rfl, _⟩ := h
    rfl
  · obtain ⟨t, ss, rfl, ⟨xs, hx, hs⟩, ok, hn, hst, q⟩ := h
    have nd := scCP.nd
    refine ⟨_, pss_cons (ps_if (pt_not (pt_val (pe_callB call_isi (by rfl) mi (by decide +kernel) (pa_cons (pv 0) (pa_cons (pe_bltn (v := .ty "tuple") (by rfl) mT (by decide +kernel) rfl) pa_nil))))) (pss_one ps_never) pss_nil)
      (pss_cons (ps_set (i := 1) nd rfl (.inl rfl) (pe_glob (v := .int 60) (by rfl) mM ⟨_, rfl⟩))
      (pss_one (ps_for PassesOwn.never rfl (pi_enumT (by rfl) me (pa_cons (pv 0) pa_nil)) (pg_tup (by rfl) (pgs_cons (pg_name (i := 2) nd rfl (.inl rfl)) (pgs_cons (pg_name (i := 3) nd rfl (.inl rfl)) pgs_nil)))
        (pss_cons (ps_set (i := 4) nd rfl (.inl rfl) (pe_call GS hr (by rfl) gS kS bS .nil pass0 (pa_cons (pv 3) (pa_cons pe_int (pa_cons (pv 1) pa_nil)))))
        (pss_cons (ps_if (pt_cmpR op_isN (pv 4) pe_non (nomark _)) (pss_one ps_never) pss_nil)
        (pss_one (ps_aug (i := 1) nd rfl (.inl rfl) (pv 4) iop_sub))))))), ?_⟩
    refine ⟨_, rfl, _, _, _, _, true, rfl, .ty "tuple", tyx_tup hx, kit_ty (by decide +kernel), true, rfl, ?_⟩
    refine ⟨_, rfl, t, xs, rfl, hx, for_enumT (K := K) (a := t) (xs := xs) (fun i σ G => Same H G ∧ ∃ y2 y3 y4, σ = [some (.ref t), some (.int (60 - (stepsL (ss.take i) : Nat))), y2, y3, y4]) ?_ ?_ ?_ ?_⟩
    · exact ⟨Same.refl _, none, none, none, rfl⟩
    · rintro i σ G _ ⟨sm, _⟩
      exact same_seqT sm hx
    · rintro i x σ G T hi ⟨sm, y2, y3, y4, rfl⟩ nT
      obtain ⟨s1, e1, a1⟩ := hs.get hi
      have m1 := List.mem_of_getElem? e1
      obtain ⟨t1, t2⟩ := stepsL_take e1
      have n1 := nest_mem m1
      have sT := same_new (o := .tup [.int (i : Nat), x]) nT
      have s2 := sm.trans sT
      refine ⟨T, _, rfl, SqT.of upd_same, rfl, _, _, rfl, _, _, rfl, rfl, ?_⟩
      refine ⟨_, rfl, _, rfl, x, s1, 1, _, rfl, a1.kt (.of_same s2), ok_mem ok m1, by omega, by omega, by omega, by omega, fun G1 s3 => ?_⟩
      refine ⟨_, rfl, rfl, false, rfl, ?_⟩
      refine ⟨_, rfl, _, rfl, _, _, rfl, rfl, ?_⟩
      refine ⟨s2.trans s3, some (.int (i : Nat)), some x, some (.int (s1.steps : Nat)), ?_⟩
      rw [t1]
      have e : (60 - ((stepsL (ss.take i) : Nat) : Int)) - ((s1.steps : Nat) : Int) = 60 - ((stepsL (ss.take i) + s1.steps : Nat) : Int) := by omega
      exact congrArg (fun z => [some (V.ref t), some (V.int z), some (V.int (i : Nat)), some x, some (V.int (s1.steps : Nat))]) e
    · rintro σ G ⟨sm, _⟩
      exact q G sm
end
end KS
namespace KS
open PySem PySem.Spec PyProof.Rows L2 RZ TL
theorem log30 {n : Int} (h1 : 0 ≤ n) (h2 : n ≤ 10 ^ 30) : n.natAbs.log2 < 1920 := by
  obtain ⟨k, rfl⟩ := Int.eq_ofNat_of_zero_le h1
  have hk : k ≤ 10 ^ 30 := by exact_mod_cast h2
  rw [Int.natAbs_natCast]
  by_cases h0 : k = 0
  · subst h0
    decide
  · refine Nat.lt_of_lt_of_le ((Nat.log2_lt h0).mpr (?_ : k < 2 ^ 100)) (by decide)
    have : (10 : Nat) ^ 30 < 2 ^ 100 := by decide +kernel
    omega
/-! ### the promises -/
def spRdN : Sp := fun xs H Q _ => ∃ (t : Str) (d : Int), xs = [.str t, .int d] ∧ ((∃ n : Int, 0 ≤ n ∧ t = nmS n ∧ n.natAbs.log2 < 1920 ∧ (t.length : Int) ≤ d ∧ t.length ≤ 640 ∧ Q (.int n) H) ∨ (t = "." ∧ 1 ≤ d ∧ Q .non H))
def spWrS (K : PySem.W.Frag) (m : Nat) : Sp := fun xs H Q _ => ∃ (v : V) (s : Stp), xs = [v] ∧ StA K H v s ∧ s.ok ∧ s.nest ≤ m ∧ s.steps ≤ 60 ∧ ∀ H', Same H H' → Q (.str (jn (tkS s.tks))) H'
def spRdP (K : PySem.W.Frag) : Sp := fun xs H Q _ => ∃ (a : Addr) (ss : List Stp), xs = [.ref a] ∧ SqL K H a ((tkS (tksL ss)).map V.str) ∧ okL ss ∧ stepsL ss ≤ 60 ∧ ∀ H' t, Same H H' → PgA K H' t ss → Q (.ref t) H'
def spIsProgG (K : PySem.W.Frag) : Sp := fun xs H Q _ => ∃ (t : Addr) (ss : List Stp), xs = [.ref t] ∧ PgA K H t ss ∧ okL ss ∧ nestL ss ≤ 4 ∧ stepsL ss ≤ 60 ∧ ∀ H', Same H H' → Q (.bl true) H'
def spFmtP (K : PySem.W.Frag) : Sp := fun xs H Q _ => ∃ (t : Addr) (ss : List Stp), xs = [.ref t] ∧ PgA K H t ss ∧ okL ss ∧ nestL ss ≤ 4 ∧ stepsL ss ≤ 60 ∧ ∀ H', Same H H' → Q (.str (jn (tkS (tksL ss)))) H'
def spParP (K : PySem.W.Frag) : Sp := fun xs H Q _ => ∃ (ss : List Stp), xs = [.str (jn (tkS (tksL ss)))] ∧ okL ss ∧ nestL ss ≤ 4 ∧ stepsL ss ≤ 60 ∧ ∀ H' t, Same H H' → PgA K H' t ss → Q (.ref t) H'
/-! ### the open levels -/
inductive Lvs (K : PySem.W.Frag) (G : Hp) : List Addr → List (List Stp) → Prop
  | nil : Lvs K G [] []
  | cons {r : Addr} {rs : List Addr} {s : List Stp} {stk : List (List Stp)} {vs : List V} : G r = some (.lst vs) → StsA K G vs s → Lvs K G rs stk → Lvs K G (r :: rs) (s :: stk)
theorem Lvs.keep {K : PySem.W.Frag} {G G' : Hp} (kt : KT K G G') : ∀ {rs : List Addr} {stk : List (List Stp)}, Lvs K G rs stk → (∀ r ∈ rs, ∀ o, G r = some o → G' r = some o) → Lvs K G' rs stk
  | _, _, .nil, _ => .nil
  | _, _, .cons h1 h2 h3, k => .cons (k _ (List.mem_cons_self ..) _ h1) (h2.kt kt) (Lvs.keep kt h3 fun r hr => k r (List.mem_cons_of_mem _ hr))
theorem Lvs.len {K : PySem.W.Frag} {G : Hp} : ∀ {rs : List Addr} {stk : List (List Stp)}, Lvs K G rs stk → rs.length = stk.length
  | _, _, .nil => rfl
  | _, _, .cons _ _ h => congrArg (· + 1) (Lvs.len h)
structure Lev (K : PySem.W.Frag) (H G : Hp) (L : Addr) (rs : List Addr) (stk : List (List Stp)) (n : Nat) : Prop where
  top : G L = some (.lst (rs.reverse.map V.ref))
  nd : (L :: rs).Nodup
  newL : H L = none
  new : ∀ r ∈ rs, H r = none
  lvs : Lvs K G rs stk
  sm : Same H G
  lenS : stk.length ≤ n + 1
  lenE : ∀ s ∈ stk, s.length ≤ n
theorem rev_last {r : Addr} {rs : List Addr} : atI ((r :: rs).reverse.map V.ref) (-1) = some (V.ref r) := by
  have e : (r :: rs).reverse.map V.ref = rs.reverse.map V.ref ++ [V.ref r] := by
    rw [List.reverse_cons, List.map_append]
    rfl
  rw [e]
  have hl : (rs.reverse.map V.ref ++ [V.ref r]).length = (rs.reverse.map V.ref).length + 1 := by rw [List.length_append]; rfl
  unfold atI
  have e : ixN (rs.reverse.map V.ref ++ [V.ref r]).length (-1) = some (rs.reverse.map V.ref).length := by
    unfold ixN
    rw [if_neg (by decide), hl]
    rw [if_pos (by omega)]
    congr 1
    omega
  rw [e]
  show (rs.reverse.map V.ref ++ [V.ref r])[(rs.reverse.map V.ref).length]? = some (V.ref r)
  rw [List.getElem?_append_right (Nat.le_refl _), Nat.sub_self]
  rfl
/-- a value laid on the top level -/
theorem Lev.put {K : PySem.W.Frag} {H G : Hp} {L r : Addr} {rs : List Addr} {s : List Stp} {stk : List (List Stp)} {n : Nat} (h : Lev K H G L (r :: rs) (s :: stk) n) {vs : List V} (hr : G r = some (.lst vs)) (hv : StsA K G vs s) {v : V} {x : Stp} (hx : StA K G v x) :
    Lev K H (upd G r (.lst (vs ++ [v]))) L (r :: rs) ((s ++ [x]) :: stk) (n + 1) := by
  have nd := List.nodup_cons.mp h.nd
  have nd2 := List.nodup_cons.mp nd.2
  have Lr : L ≠ r := fun e => nd.1 (by rw [e]; exact List.mem_cons_self ..)
  have kt : KT K G (upd G r (.lst (vs ++ [v]))) := KT.upd hr
  cases h.lvs with
  | cons q1 q2 q3 =>
    refine ⟨by rw [upd_ne Lr]; exact h.top, h.nd, h.newL, h.new, ?_, ?_, ?_, ?_⟩
    · refine .cons upd_same ((hv.app (.cons hx .nil)).kt kt) (Lvs.keep kt q3 fun b hb o e => ?_)
      rw [upd_ne (fun z => nd2.1 (by rw [← z]; exact hb))]
      exact e
    · intro b o e
      rw [upd_ne (ne_of_none e (h.new r (List.mem_cons_self ..)))]
      exact h.sm b o e
    · have := h.lenS
      rw [List.length_cons] at this ⊢
      omega
    · intro z hz
      rcases List.mem_cons.mp hz with rfl | hz
      · have := h.lenE s (List.mem_cons_self ..)
        rw [List.length_append]
        show s.length + 1 ≤ n + 1
        omega
      · have := h.lenE z (List.mem_cons_of_mem _ hz)
        omega
theorem Lev.same {K : PySem.W.Frag} {H G G' : Hp} {L : Addr} {rs : List Addr} {stk : List (List Stp)} {n : Nat} (h : Lev K H G L rs stk n) (s : Same G G') : Lev K H G' L rs stk n :=
  ⟨s _ _ h.top, h.nd, h.newL, h.new, Lvs.keep (.of_same s) h.lvs fun _ _ _ e => s _ _ e, h.sm.trans s, h.lenS, h.lenE⟩
abbrev sRdN : Stmt := topS 35
abbrev nRdN : List Str := ["text", "digits", "number"]
theorem scRdN : FnScope nRdN ["text", "digits"] (defScope sRdN) := ⟨rfl, rfl, rfl, by decide +kernel, rfl, by decide +kernel, by decide +kernel⟩
abbrev sWrS : Stmt := topS 36
abbrev nWrS : List Str := ["step", "inner"]
theorem scWrS : FnScope nWrS ["step"] (defScope sWrS) := ⟨rfl, rfl, rfl, by decide +kernel, rfl, by decide +kernel, by decide +kernel⟩
abbrev sRdP : Stmt := topS 37
abbrev nRdP : List Str := ["words", "levels", "word", "inner"]
theorem scRdP : FnScope nRdP ["words"] (defScope sRdP) := ⟨rfl, rfl, rfl, by decide +kernel, rfl, by decide +kernel, by decide +kernel⟩
abbrev sFmtP : Stmt := topS 38
abbrev nFmtP : List Str := ["program", "step"]
theorem scFmtP : FnScope nFmtP ["program"] (defScope sFmtP) := ⟨rfl, rfl, rfl, by decide +kernel, rfl, by decide +kernel, by decide +kernel⟩
abbrev sParP : Stmt := topS 39
abbrev nParP : List Str := ["text", "program"]
theorem scParP : FnScope nParP ["text"] (defScope sParP) := ⟨rfl, rfl, rfl, by decide +kernel, rfl, by decide +kernel, by decide +kernel⟩
abbrev sIsProg : Stmt := topS 33
theorem scIsProg : FnScope ["value"] ["value"] (defScope sIsProg) := ⟨rfl, rfl, rfl, by decide +kernel, rfl, by decide +kernel, by decide +kernel⟩
section
variable {P : Program} {w : World} {K : PySem.W.Frag} {mg : Str → Option Value} {base : Heap}
theorem ok_readN {f : Addr} {fd : FuncData} (F : Fun K "read_number" "read_number" sRdN f fd) (ml : mg "len" = none) (mi : mg "int" = none) (mS : mg "str" = none) : FnOk P w K mg base CX0 1 f fd ["text", "digits"] spRdN := by
  refine F.ok scRdN (fun vs H Q E h => ?_) (fun cdv A outer s H vs Q E hr h => ?_)
  · obtain ⟨t, d, rfl, _⟩ := h
    rfl
  · obtain ⟨t, d, rfl, h⟩ := h
    have nd := scRdN.nd
    refine ⟨_, pss_cons (ps_if (PW.pt (pw_or (pt_cmpR op_gt (pe_callB call_len_str (by rfl) ml PySem.boot_len (pa_cons (pv 0) pa_nil)) (pv 1) (nomark _)) (pw_or1 (pt_not (pt_val (pe_m0 PySem.F.slot_str_isdecimal PySem.F.type_str_isdecimal mt_isdecimal (pv 0))))))) (pss_one (ps_ret pe_non)) pss_nil)
      (pss_cons (ps_set (i := 2) nd rfl (.inl rfl) (pe_callTy call_int_str (by rfl) mi (by decide +kernel) (pa_cons (pv 0) pa_nil)))
      (pss_one (ps_ret (pe_ifExp (pt_cmpR op_eq (pe_callTy call_str_int (by rfl) mS (by decide +kernel) (pa_cons (pv 2) pa_nil)) (pv 0) (nomark _)) (pv 2) pe_non)))), ?_⟩
    rcases h with ⟨n, n0, rfl, lg, hl, h6, q⟩ | ⟨rfl, hd, q⟩
    · refine ⟨_, rfl, _, rfl, by rw [sizeLine_eq]; omega, _, rfl, _, _, rfl, rfl, false, bl_false (show ¬ ((nmS n).length : Int) > d by omega), ?_⟩
      refine ⟨_, rfl, ⟨_, rfl⟩, _, rfl, rfl, trivial, true, congrArg V.bl (nm_dec n0), ?_⟩
      refine ⟨_, rfl, _, n, rfl, nm_int n0 h6, h6, ?_⟩
      refine ⟨_, rfl, n, rfl, lg, _, rfl, rfl, true, congrArg V.bl (decide_eq_true rfl), _, rfl, q⟩
    · have e1 : ("." : Str).length = 1 := by decide +kernel
      refine ⟨_, rfl, _, rfl, by rw [e1]; decide, _, rfl, _, _, rfl, rfl, false, bl_false (show ¬ ((("." : Str).length : Nat) : Int) > d by rw [e1]; omega), ?_⟩
      refine ⟨_, rfl, ⟨_, rfl⟩, _, rfl, rfl, trivial, false, congrArg V.bl dot_dec, ?_⟩
      exact q
theorem ok_wrS {f : Addr} {fd : FuncData} (F : Fun K "written_step" "written_step" sWrS f fd) (bS : Binds K fd ["step"] []) (gS : mg "written_step" = some (.ref f)) (kS : PySem.W.keepIn K (.ref f) = true)
    (mi : mg "isinstance" = none) (mS : mg "str" = none) : ∀ m, FnOk P w K mg base CX0 (m + 1) f fd ["step"] (spWrS K m)
  | 0 => by
    refine F.ok scWrS (fun vs H Q E h => ?_) (fun cdv A outer s H vs Q E hr h => ?_)
    · obtain ⟨v, st, rfl, _⟩ := h
      rfl
    · obtain ⟨v, st, rfl, hs, ok, hn, h60, q⟩ := h
      refine ⟨_, pss_cons (ps_if (pt_val (pe_callB call_isi (by rfl) mi (by decide +kernel) (pa_cons (pv 0) (pa_cons (pe_bltn (v := .ty "str") (by rfl) mS (by decide +kernel) rfl) pa_nil)))) (pss_one (ps_ret (pv 0))) pss_nil) (pss_one ps_never), ?_⟩
      cases hs with
      | w l =>
        refine ⟨_, rfl, _, _, _, _, true, rfl, .ty "str", .base (.str _), kit_ty (by decide +kernel), true, rfl, ?_⟩
        have z := q H (Same.refl _)
        simp only [Stp.tks] at z
        have e : jn (tkS [Tk.wd l]) = wS l := jn_one _
        rw [e] at z
        exact ⟨_, rfl, z⟩
      | r h1 h2 h3 =>
        simp only [Stp.nest] at hn
        omega
  | m + 1 => by
    have GS := ok_wrS F bS gS kS mi mS m
    refine F.ok scWrS (fun vs H Q E h => ?_) (fun cdv A outer s H vs Q E hr h => ?_)
    · obtain ⟨v, st, rfl, _⟩ := h
      rfl
    · obtain ⟨v, st, rfl, hs, ok, hn, h60, q⟩ := h
      have nd := scWrS.nd
      refine ⟨_, pss_cons (ps_if (pt_val (pe_callB call_isi (by rfl) mi (by decide +kernel) (pa_cons (pv 0) (pa_cons (pe_bltn (v := .ty "str") (by rfl) mS (by decide +kernel) rfl) pa_nil)))) (pss_one (ps_ret (pv 0))) pss_nil)
        (pss_one (ps_ret (pe_m1 PySem.F.slot_str_join PySem.F.type_str_join mt_join pe_str
          (pe_op op_cat (pe_op op_cat (pe_lst (pa_cons pe_str pa_nil))
            (pe_lc (own := [("inner", 1)]) (g := gName 1) (tt := tYes) rfl nd (pi_tup (pe_ix ix_tup (pv 0) pe_int (fun _ _ => rfl))) (blkOk_by (N := nWrS) (sc := defScope sWrS) (by decide +kernel))
              (fun _ _ _ _ _ => pg_name (i := 1) nd rfl (Or.inl rfl)) (fun _ _ _ _ _ => pts_nil) (fun _ _ _ _ _ => pe_call GS hr (by rfl) gS kS bS .nil pass0 (pa_cons (pv 1) pa_nil))))
            (pe_lst (pa_cons (pe_joined (.cons pe_str (.cons (pe_fmt (pe_ix ix_tup (pv 0) pe_int (fun _ _ => rfl))) .nil))) pa_nil)))))), ?_⟩
      cases hs with
      | w l =>
        refine ⟨_, rfl, _, _, _, _, true, rfl, .ty "str", .base (.str _), kit_ty (by decide +kernel), true, rfl, ?_⟩
        have z := q H (Same.refl _)
        simp only [Stp.tks] at z
        have e : jn (tkS [Tk.wd l]) = wS l := jn_one _
        rw [e] at z
        exact ⟨_, rfl, z⟩
      | @r t b n xs ss h1 h2 h3 =>
        simp only [Stp.nest] at hn
        simp only [Stp.steps] at h60
        simp only [Stp.ok] at ok
        refine ⟨_, rfl, _, _, _, _, false, rfl, .ty "str", tyx_tup h1, kit_ty (by decide +kernel), false, rfl, ?_⟩
        refine ⟨⟨_, rfl⟩, by show 1 ≤ sizeLine; decide, fun M nM => ?_⟩
        have sM := same_new (o := .lst [.str "("]) nM
        have hM : upd H M (.lst [.str "("]) M = some (.lst [.str "("]) := upd_same
        generalize upd H M (.lst [.str "("]) = H1 at sM hM ⊢
        have h1' := same_seqT sM h1
        have h2' := same_seqT sM h2
        refine ⟨_, rfl, t, _, 2, .ref b, rfl, rfl, h1', rfl, b, rfl, ⟨_, h2'⟩, fun D nD => ?_⟩
        have sl := h3.len
        have lb : ss.length ≤ stepsL ss := by
          clear h3 h60 q hn sl ok
          induction ss with
          | nil => exact Nat.le_refl _
          | cons s ss ih =>
            simp only [stepsL, List.length_cons]
            have := steps_pos s
            omega
        refine lc_tup (K := K) (a := b) (xs := xs) (fun j G => G D = some (.lst (((ss.take j).map fun s => jn (tkS s.tks)).map V.str)) ∧ (∀ b o, b ≠ D → H1 b = some o → G b = some o)) ?_ ?_ ?_ ?_
        · exact ⟨upd_same, fun b o n e => by rw [upd_ne n]; exact e⟩
        · rintro j G _ ⟨a1, a2⟩
          exact same_seqT (fun b o e => a2 b o (ne_of_none e nD) e) h2'
        · rintro j x G hj ⟨a1, a2⟩
          have sG : Same H1 G := fun b o e => a2 b o (ne_of_none e nD) e
          obtain ⟨s1, e1, a3⟩ := h3.get hj
          have m1 := List.mem_of_getElem? e1
          have n1 := nest_mem m1
          obtain ⟨_, t2⟩ := stepsL_take e1
          have jl := (List.getElem?_eq_some_iff.mp e1).1
          refine ⟨rfl, _, rfl, x, s1, rfl, a3.kt (.of_same (sM.trans sG)), ok_mem ok.2.2 m1, by omega, by omega, fun G1 s2 => ?_⟩
          refine ⟨_, s2 _ _ a1, ?_, ?_, fun b o n e => ?_⟩
          · rw [List.length_map, List.length_map, List.length_take]
            exact small64 (by omega)
          · rw [upd_same, List.take_add_one, e1, List.map_append, List.map_append]
            rfl
          · rw [upd_ne n]
            exact s2 _ _ (a2 b o n e)
        · rintro G ⟨a1, a2⟩
          have sG : Same H1 G := fun b o e => a2 b o (ne_of_none e nD) e
          rw [sl, List.take_length] at a1
          refine ⟨M, D, _, _, rfl, rfl, sG _ _ hM, a1, ?_, fun p1 np1 => ?_⟩
          · rw [List.length_map, List.length_map]
            show 1 + ss.length ≤ sizeLine
            rw [sizeLine_eq]
            omega
          have s1 := same_new (o := .lst ([V.str "("] ++ (ss.map fun s => jn (tkS s.tks)).map V.str)) np1
          have hp1 : upd G p1 (.lst ([V.str "("] ++ (ss.map fun s => jn (tkS s.tks)).map V.str)) p1 = some (.lst ([V.str "("] ++ (ss.map fun s => jn (tkS s.tks)).map V.str)) := upd_same
          generalize upd G p1 (.lst ([V.str "("] ++ (ss.map fun s => jn (tkS s.tks)).map V.str)) = G1 at s1 hp1 ⊢
          have sA := (sM.trans sG).trans s1
          have nl := nm_len (show 0 ≤ n by omega) ok.2.1
          have e0 : (Str.empty ++ (")x" : Str)) = ")x" := by decide +kernel
          refine ⟨_, rfl, by rw [e0]; decide +kernel, _, rfl, t, _, 1, .int n, rfl, rfl, same_seqT sA h1, rfl, .inr ⟨n, rfl, log30 (by omega) ok.2.1, _, rfl, ?_, ?_⟩⟩
          · rw [e0]
            have := cl_len (show 0 ≤ n by omega) ok.2.1
            rw [sizeLine_eq]
            have e9 : ((")x" : Str) ++ nmS n).length ≤ 33 := this
            exact Nat.le_trans e9 (by decide)
          · rw [e0]
            have ec : (")x" : Str) ++ Str.ofString (toString n) = (Tk.cl n).str := rfl
            refine ⟨by show 1 ≤ sizeLine; decide, fun M2 nM2 => ?_⟩
            rw [ec]
            have s2 := same_new (o := .lst [.str (Tk.cl n).str]) nM2
            have hM2 : upd G1 M2 (.lst [.str (Tk.cl n).str]) M2 = some (.lst [.str (Tk.cl n).str]) := upd_same
            generalize upd G1 M2 (.lst [.str (Tk.cl n).str]) = G2 at s2 hM2 ⊢
            refine ⟨p1, M2, _, _, rfl, rfl, s2 _ _ hp1, hM2, ?_, fun p2 np2 => ?_⟩
            · rw [List.length_append, List.length_map, List.length_map]
              show 1 + ss.length + 1 ≤ sizeLine
              rw [sizeLine_eq]
              omega
            have e3 : ([V.str "("] ++ (ss.map fun s => jn (tkS s.tks)).map V.str) ++ [V.str (Tk.cl n).str] = (([[Tk.op.str]] ++ ss.map (fun s => tkS s.tks) ++ [[(Tk.cl n).str]]).map jn).map V.str := by
              rw [List.map_append, List.map_append, List.map_append, List.map_append]
              have x1 : List.map V.str (List.map jn [[Tk.op.str]]) = [V.str "("] := by
                show [V.str (jn [Tk.op.str])] = _
                rw [jn_one]
                rfl
              have x2 : List.map V.str (List.map jn [[(Tk.cl n).str]]) = [V.str (Tk.cl n).str] := by
                show [V.str (jn [(Tk.cl n).str])] = _
                rw [jn_one]
              rw [x1, x2, List.map_map (f := fun s : Stp => tkS s.tks)]
              rfl
            have e4 : jn (([[Tk.op.str]] ++ ss.map (fun s => tkS s.tks) ++ [[(Tk.cl n).str]]).map jn) = jn (tkS (Stp.r n ss).tks) := by
              rw [jn_flat]
              · congr 1
                simp only [Stp.tks]
                rw [← tksL_flat, List.flatten_append, List.flatten_append]
                show [Tk.op.str] ++ (ss.map fun s => tkS s.tks).flatten ++ [(Tk.cl n).str] = Tk.op.str :: List.map Tk.str ((ss.map Stp.tks).flatten ++ [Tk.cl n])
                rw [List.map_append, List.map_flatten, List.map_map]
                rfl
              · intro l hl
                rcases List.mem_append.mp hl with hl | hl
                · rcases List.mem_append.mp hl with hl | hl
                  · rw [List.mem_singleton.mp hl]
                    exact List.cons_ne_nil _ _
                  · obtain ⟨z, _, rfl⟩ := List.mem_map.mp hl
                    exact fun e => tks_ne z (List.map_eq_nil_iff.mp e)
                · rw [List.mem_singleton.mp hl]
                  exact List.cons_ne_nil _ _
            have wt : ∀ b : List Stp, okL b → ((b.map (fun s => jn (tkS s.tks))).map (·.length)).sum ≤ 401 * stepsL b := fun b => by
              induction b with
              | nil => exact fun _ => Nat.zero_le _
              | cons s b ih =>
                intro ob
                simp only [okL] at ob
                simp only [stepsL]
                rw [List.map_cons, List.map_cons, List.sum_cons]
                have i1 := ih ob.2
                have i2 := jn_len (tkS s.tks)
                have i3 := wt_tks s ob.1
                omega
            rw [e3]
            refine ⟨_, p2, ([[Tk.op.str]] ++ ss.map (fun s => tkS s.tks) ++ [[(Tk.cl n).str]]).map jn, rfl, rfl, .inl (SqL.of upd_same), ?_, ?_⟩
            · have w1 := wt ss ok.2.2
              have e5 : (([[Tk.op.str]] ++ ss.map (fun s => tkS s.tks) ++ [[(Tk.cl n).str]]).map jn).map (·.length) = [1] ++ (ss.map (fun s => jn (tkS s.tks))).map (·.length) ++ [(Tk.cl n).str.length] := by
                rw [List.map_append, List.map_append, List.map_append, List.map_append]
                have x1 : List.map (fun x : Str => x.length) (List.map jn [[Tk.op.str]]) = [1] := by
                  show [(jn [Tk.op.str]).length] = _
                  rw [jn_one, op_len]
                have x2 : List.map (fun x : Str => x.length) (List.map jn [[(Tk.cl n).str]]) = [(Tk.cl n).str.length] := by
                  show [(jn [(Tk.cl n).str]).length] = _
                  rw [jn_one]
                rw [x1, x2, List.map_map (f := fun s : Stp => tkS s.tks)]
                rfl
              rw [e5, List.sum_append, List.sum_append, List.length_map, List.length_append, List.length_append, List.length_map]
              have c1 := cl_len (show 0 ≤ n by omega) ok.2.1
              have e6 : (" " : Str).length = 1 := by decide +kernel
              rw [e6]
              show 1 + 0 + _ + ((Tk.cl n).str.length + 0) + (1 + ss.length + 1) * 1 ≤ _
              omega
            · show Q (.str (jn (([[Tk.op.str]] ++ ss.map (fun s => tkS s.tks) ++ [[(Tk.cl n).str]]).map jn))) _
              rw [e4]
              exact q _ ((sA.trans s2).trans (same_new np2))
end
end KS
namespace KS
open PySem PySem.Spec PyProof.Rows L2 RZ TL
theorem ltk (l : List Tk) {i : Nat} {v : V} (h : ((tkS l).map V.str)[i]? = some v) : ∃ t : Tk, v = .str t.str ∧ l.drop i = t :: l.drop (i + 1) ∧ t ∈ l ∧ i < l.length := by
  rw [List.map_map, List.getElem?_map] at h
  obtain ⟨t, e, rfl⟩ := Option.map_eq_some_iff.mp h
  obtain ⟨hi, e2⟩ := List.getElem?_eq_some_iff.mp e
  exact ⟨t, rfl, by rw [List.drop_eq_getElem_cons hi, e2], List.mem_of_getElem? e, hi⟩
theorem pop_last {r : Addr} {rs : List Addr} : ((r :: rs).reverse.map V.ref)[((r :: rs).reverse.map V.ref).length - 1]? = some (V.ref r) ∧ ((r :: rs).reverse.map V.ref).dropLast = rs.reverse.map V.ref := by
  have e : (r :: rs).reverse.map V.ref = rs.reverse.map V.ref ++ [V.ref r] := by
    rw [List.reverse_cons, List.map_append]
    rfl
  rw [e]
  constructor
  · rw [List.length_append]
    show (rs.reverse.map V.ref ++ [V.ref r])[(rs.reverse.map V.ref).length + 1 - 1]? = _
    rw [Nat.add_sub_cancel, List.getElem?_append_right (Nat.le_refl _), Nat.sub_self]
    rfl
  · rw [List.dropLast_concat]
theorem cut2_drop (z : Str) (h : 2 ≤ z.length) : cutS z (some 2) none = ⟨((tl z).drop 2).toArray⟩ := by
  have e : HT.sIx z.length 0 (some 2) = 2 := by
    unfold HT.sIx
    simp
    omega
  have e2 : HT.sIx z.length z.length none = z.length := rfl
  show (⟨((z.cps.toList.drop (HT.sIx z.length 0 (some 2))).take (HT.sIx z.length z.length none - HT.sIx z.length 0 (some 2))).toArray⟩ : Str) = _
  rw [e, e2]
  congr 2
  refine List.take_of_length_le ?_
  rw [List.length_drop, Array.length_toList]
  exact Nat.le_refl _
section
variable {P : Program} {w : World} {K : PySem.W.Frag} {mg : Str → Option Value} {base : Heap}
theorem ok_readP {f fN : Addr} {fd fdN : FuncData} {tk : Tok} (F : Fun K "read_program" "read_program" sRdP f fd)
    (GN : FnOk P w K mg base CX0 1 fN fdN ["text", "digits"] spRdN) (bN : Binds K fdN ["text", "digits"] []) (gN : mg "read_number" = some (.ref fN)) (kN : PySem.W.keepIn K (.ref fN) = true)
    (ml : mg "len" = none) (mT : mg "tuple" = none) (mS : mg "str" = none) (mM : mg "MOST_TIMES" = some (.int 1000000000000000000000000000000 tk)) : FnOk P w K mg base CX0 2 f fd ["words"] (spRdP K) := by
  refine F.ok scRdP (fun vs H Q E h => ?_) (fun cdv A outer s H vs Q E hr h => ?_)
  · obtain ⟨a, ss, rfl, _⟩ := h
    rfl
  · obtain ⟨a, ss, rfl, ha, ok, hst, q⟩ := h
    have nd := scRdP.nd
    refine ⟨_, pss_cons (ps_set (i := 1) nd rfl (.inl rfl) (pe_lst (pa_cons (pe_lst pa_nil) pa_nil)))
      (pss_cons (ps_for PassesOwn.never rfl (pi_list (pv 0)) (pg_name (i := 2) nd rfl (.inl rfl))
        (pss_one (ps_if (pt_cmpR op_eq (pv 2) pe_str (nomark _))
          (pss_one (ps_expr (pe_bm PySem.F.plainAttrs_list PySem.F.slot_list_append PySem.F.type_list_append mt_append (pv 1) (pa_cons (pe_lst pa_nil) pa_nil))))
          (pss_one (ps_if (pt_val (pe_m1 PySem.F.slot_str_startswith PySem.F.type_str_startswith mt_startswith (pv 2) pe_str))
            (pss_cons (ps_if (pt_cmpR op_eq (pe_callB call_len_seq (by rfl) ml PySem.boot_len (pa_cons (pv 1) pa_nil)) pe_int (nomark _)) (pss_one ps_never) pss_nil)
            (pss_cons (ps_set (i := 3) nd rfl (.inl rfl) (pe_callTy call_tuple_of (by rfl) mT (by decide +kernel) (pa_cons (pe_bm0 PySem.F.plainAttrs_list PySem.F.slot_list_pop PySem.F.type_list_pop mt_pop (pv 1)) pa_nil)))
            (pss_one (ps_expr (pe_bm PySem.F.plainAttrs_list PySem.F.slot_list_append PySem.F.type_list_append mt_append (pe_ix ix_list (pv 1) (pe_un un_neg pe_int) (fun _ _ => rfl))
              (pa_cons (pe_tup (pa_cons pe_str (pa_cons (pe_call GN hr (by rfl) gN kN bN .nil pass0 (pa_cons (pe_slice sl_str (pv 2) (po_some pe_int) po_none) (pa_cons (pe_callB call_len_str (by rfl) ml PySem.boot_len (pa_cons (pe_callTy call_str_int (by rfl) mS (by decide +kernel) (pa_cons (pe_glob (v := .int 1000000000000000000000000000000) (by rfl) mM ⟨_, rfl⟩) pa_nil)) pa_nil)) pa_nil))) (pa_cons (pv 3) pa_nil)))) pa_nil))))))
            (pss_one (ps_expr (pe_bm PySem.F.plainAttrs_list PySem.F.slot_list_append PySem.F.type_list_append mt_append (pe_ix ix_list (pv 1) (pe_un un_neg pe_int) (fun _ _ => rfl)) (pa_cons (pv 2) pa_nil)))))))))
      (pss_one (ps_ret (pe_ifExp (pt_cmpR op_eq (pe_callB call_len_seq (by rfl) ml PySem.boot_len (pa_cons (pv 1) pa_nil)) pe_int (nomark _)) (pe_callTy call_tuple_of (by rfl) mT (by decide +kernel) (pa_cons (pe_ix ix_list (pv 1) pe_int (fun _ _ => rfl)) pa_nil)) pe_never)))), ?_⟩
    have tl1 : (tksL ss).length ≤ 401 * 60 := by
      have := wt_tksL ss ok
      have t2 := wtS_len (tkS (tksL ss))
      rw [List.length_map] at t2
      omega
    refine ⟨by show 0 ≤ sizeLine; decide, fun L0 n0 => ⟨by show 1 ≤ sizeLine; decide, fun L nL => ?_⟩⟩
    have s0 := same_new (o := .lst []) n0
    have s1 := same_new (o := .lst [.ref L0]) nL
    have nL0 : L ≠ L0 := fun e => by
      rw [e, upd_same] at nL
      cases nL
    have nLH : H L = none := by
      rw [upd_ne nL0] at nL
      exact nL
    have lev0 : Lev K H (upd (upd H L0 (.lst [])) L (.lst [.ref L0])) L [L0] [[]] 0 :=
      ⟨upd_same, by simp [nL0], nLH, fun r hr => by rw [List.mem_singleton.mp hr]; exact n0, .cons (by rw [upd_ne (Ne.symm nL0)]; exact upd_same) .nil .nil, s0.trans s1, Nat.le_refl _, fun s hs => by rw [List.mem_singleton.mp hs]; exact Nat.le_refl _⟩
    generalize upd (upd H L0 (.lst [])) L (.lst [.ref L0]) = H1 at lev0 ⊢
    refine ⟨_, rfl, a, rfl, ⟨_, lev0.sm.seq ha⟩, ?_⟩
    refine for_it (walk_list (K := K) (a := a) (xs := (tkS (tksL ss)).map V.str)) (fun i σ G => ∃ (y2 y3 : Option V) (rs : List Addr) (stk : List (List Stp)), σ = [some (.ref a), some (.ref L), y2, y3] ∧ Lev K H G L rs stk i ∧ mach stk ((tksL ss).drop i) = some [ss]) ?_ ?_ ?_ ?_
    · exact ⟨none, none, [L0], [[]], rfl, lev0, mach_all ss⟩
    · rintro i σ G _ ⟨_, _, rs, stk, _, lv, _⟩
      exact lv.sm.seq ha
    · rintro i x σ G' G hi ⟨y2, y3, rs, stk, rfl, lv, hm⟩ ⟨rfl, hx⟩
      have hx : ((tkS (tksL ss)).map V.str)[i]? = some x := hx
      obtain ⟨t, rfl, ed, mt, il⟩ := ltk _ hx
      rw [ed] at hm
      cases t with
      | op =>
        have lvs := lv.lvs
        cases lvs with
        | nil => rw [mach] at hm; cases hm
        | @cons r rs s stk vs h1 h2 h3 =>
          rw [mach] at hm
          refine ⟨_, rfl, rfl, true, congrArg V.bl (decide_eq_true rfl), ?_⟩
          refine ⟨_, rfl, .inl ⟨rfl, _, SqL.of lv.top⟩, by show 0 ≤ sizeLine; decide, fun M nM => ?_⟩
          have sM := same_new (o := .lst []) nM
          have lv2 := lv.same sM
          have hL := lv2.top
          have ll := lv.lenS
          have le := lv.lvs.len
          refine ⟨L, _, _, rfl, rfl, hL, ?_, ?_⟩
          · rw [List.length_map, List.length_reverse]
            rw [le, sizeLine_eq]
            omega
          refine ⟨_, y3, M :: r :: rs, [] :: s :: stk, rfl, ?_, hm⟩
          have nML : M ≠ L := fun e => by
            rw [e, lv.top] at nM
            cases nM
          have nMr : M ∉ r :: rs := fun hmem => by
            have : ∀ {rs : List Addr} {stk : List (List Stp)}, Lvs K G rs stk → M ∉ rs := by
              intro rs stk h
              induction h with
              | nil => exact List.not_mem_nil
              | cons q1 q2 q3 ih =>
                intro z
                rcases List.mem_cons.mp z with e | z
                · subst e
                  rw [q1] at nM
                  cases nM
                · exact ih z
            exact this lv.lvs hmem
          have nMH : H M = none := by
            cases e : H M with
            | none => rfl
            | some o =>
              have := lv.sm M o e
              rw [this] at nM
              cases nM
          have ndd := List.nodup_cons.mp lv.nd
          have kt : KT K (upd G M (.lst [])) (upd (upd G M (.lst [])) L (.lst ((r :: rs).reverse.map V.ref ++ [.ref M]))) := KT.upd hL
          refine ⟨?_, ?_, lv.newL, ?_, ?_, ?_, ?_, ?_⟩
          · rw [upd_same]
            have : (M :: r :: rs).reverse.map V.ref = (r :: rs).reverse.map V.ref ++ [V.ref M] := by
              rw [List.reverse_cons, List.map_append]
              rfl
            rw [this]
          · refine List.nodup_cons.mpr ⟨fun z => ?_, List.nodup_cons.mpr ⟨nMr, ndd.2⟩⟩
            rcases List.mem_cons.mp z with e | z
            · exact nML e.symm
            · exact ndd.1 z
          · intro b hb
            rcases List.mem_cons.mp hb with e | hb
            · rw [e]
              exact nMH
            · exact lv.new b hb
          · refine .cons (vs := []) (by rw [upd_ne nML]; exact upd_same) .nil ?_
            refine Lvs.keep kt lv2.lvs fun b hb o e => ?_
            rw [upd_ne (fun z => ndd.1 (by rw [← z]; exact hb))]
            exact e
          · intro b o e
            rw [upd_ne (ne_of_none e lv.newL)]
            exact lv2.sm b o e
          · rw [List.length_cons]
            omega
          · intro z hz
            rcases List.mem_cons.mp hz with rfl | hz
            · exact Nat.zero_le _
            · have := lv.lenE z hz
              omega
      | cl n =>
        have lvs := lv.lvs
        cases lvs with
        | nil => rw [mach] at hm; cases hm
        | @cons r rs s stk vs h1 h2 h3 =>
          cases h3 with
          | nil => rw [mach] at hm; cases hm
          | @cons r2 rs s2 stk vs2 g1 g2 g3 =>
            rw [mach] at hm
            obtain ⟨n1, n2⟩ := tkL_cl ss ok n mt
            have n0' : 0 ≤ n := by omega
            have ll := lv.lenS
            have le := lv.lvs.len
            have lE1 := lv.lenE s (List.mem_cons_self ..)
            have lE2 := lv.lenE s2 (List.mem_cons_of_mem _ (List.mem_cons_self ..))
            refine ⟨_, rfl, rfl, false, congrArg V.bl (decide_eq_false (fun e => cl_ne_op n0' (V.str.inj e))), ?_⟩
            refine ⟨_, rfl, ⟨_, rfl⟩, _, _, rfl, rfl, true, congrArg V.bl (sw_cl n0'), ?_⟩
            refine ⟨_, rfl, L, _, rfl, .inl (SqL.of lv.top), rfl, false, ?_, ?_⟩
            · refine congrArg V.bl (decide_eq_false fun e => ?_)
              have := V.int.inj e
              rw [List.length_map, List.length_reverse, List.length_cons, List.length_cons] at this
              omega
            have pl := pop_last (r := r) (rs := r2 :: rs)
            refine ⟨_, rfl, .inl ⟨rfl, _, SqL.of lv.top⟩, L, _, _, rfl, rfl, lv.top, pl.1, ?_⟩
            rw [pl.2]
            have ndd := List.nodup_cons.mp lv.nd
            have nd2 := List.nodup_cons.mp ndd.2
            have Lr : L ≠ r := fun e => ndd.1 (by rw [e]; exact List.mem_cons_self ..)
            have kt : KT K G (upd G L (.lst ((r2 :: rs).reverse.map V.ref))) := KT.upd lv.top
            have lv2 : Lev K H (upd G L (.lst ((r2 :: rs).reverse.map V.ref))) L (r2 :: rs) (s2 :: stk) i := by
              refine ⟨upd_same, List.nodup_cons.mpr ⟨fun z => ndd.1 (List.mem_cons_of_mem _ z), nd2.2⟩, lv.newL, fun b hb => lv.new b (List.mem_cons_of_mem _ hb), ?_, ?_, ?_, fun z hz => lv.lenE z (List.mem_cons_of_mem _ hz)⟩
              · refine Lvs.keep kt (.cons g1 g2 g3) fun b hb o e => ?_
                rw [upd_ne (fun z => ndd.1 (by rw [← z]; exact List.mem_cons_of_mem _ hb))]
                exact e
              · intro b o e
                rw [upd_ne (ne_of_none e lv.newL)]
                exact lv.sm b o e
              · rw [List.length_cons] at ll
                omega
            have h1' : upd G L (.lst ((r2 :: rs).reverse.map V.ref)) r = some (.lst vs) := by
              rw [upd_ne (Ne.symm Lr)]
              exact h1
            have h2' := h2.kt kt
            generalize upd G L (.lst ((r2 :: rs).reverse.map V.ref)) = G2 at lv2 h1' h2' ⊢
            refine ⟨r, vs, rfl, .inl ⟨SqL.of h1', fun T nT => ?_⟩⟩
            have sT := same_new (o := .tup vs) nT
            have lv3 := lv2.same sT
            have hT : SqT K (upd G2 T (.tup vs)) T vs := SqT.of upd_same
            have h2T := h2'.kt (.of_same sT)
            generalize upd G2 T (.tup vs) = G3 at lv3 hT h2T ⊢
            have zl : (Tk.cl n).str.length ≤ 33 := cl_len n0' n2
            have zl2 : 2 ≤ (Tk.cl n).str.length := by
              rw [len_tl, cl_tl n0']
              show 2 ≤ (numL n.toNat).length + 1 + 1
              omega
            have e31 : (nmS 1000000000000000000000000000000).length = 31 := by decide +kernel
            have nl := nm_len n0' n2
            refine ⟨_, rfl, _, rfl, L, _, -1, .ref r2, rfl, rfl, SqL.of lv3.top, rev_last, ?_⟩
            cases lv3.lvs with
            | @cons _ _ _ _ vs3 k1 k2 k3 =>
              refine ⟨.inl ⟨rfl, _, SqL.of k1⟩, ?_⟩
              refine ⟨_, rfl, _, rfl, _, rfl, by rw [sizeLine_eq]; omega, 1000000000000000000000000000000, rfl, by decide +kernel, _, rfl, by show (nmS 1000000000000000000000000000000).length ≤ _; rw [e31]; decide, ?_⟩
              refine ⟨_, _, rfl, .inl ⟨n, n0', ?_, log30 n0' n2, ?_, ?_, ?_⟩⟩
              · rw [cut2_drop _ zl2]
                exact cut_cl n0'
              · rw [cut2_drop _ zl2, cut_cl n0']
                show ((nmS n).length : Int) ≤ ((nmS 1000000000000000000000000000000).length : Nat)
                rw [e31]
                omega
              · rw [cut2_drop _ zl2, cut_cl n0']
                omega
              · refine ⟨_, rfl, by show 3 ≤ sizeLine; decide, fun U nU => ?_⟩
                have sU := same_new (o := .tup [.str "repeat", .int n, .ref T]) nU
                have lv4 := lv3.same sU
                have k1' := sU _ _ k1
                have k2' := k2.kt (.of_same sU)
                have hU : SqT K (upd G3 U (.tup [.str "repeat", .int n, .ref T])) U [.str "repeat", .int n, .ref T] := SqT.of upd_same
                have hT' := same_seqT sU hT
                have h2U := h2T.kt (.of_same sU)
                generalize upd G3 U (.tup [.str "repeat", .int n, .ref T]) = G4 at lv4 k1' k2' hU hT' h2U ⊢
                refine ⟨r2, vs3, _, rfl, rfl, k1', by rw [k2.len, sizeLine_eq]; omega, ?_⟩
                exact ⟨_, _, r2 :: rs, (s2 ++ [.r n s]) :: stk, rfl, lv4.put k1' k2' (.r hU hT' h2U), hm⟩
      | wd l =>
        have lvs := lv.lvs
        cases lvs with
        | nil => rw [mach] at hm; cases hm
        | @cons r rs s stk vs h1 h2 h3 =>
          rw [mach] at hm
          have lE1 := lv.lenE s (List.mem_cons_self ..)
          refine ⟨_, rfl, rfl, false, congrArg V.bl (decide_eq_false (fun e => wd_ne_op l (V.str.inj e))), ?_⟩
          refine ⟨_, rfl, ⟨_, rfl⟩, _, _, rfl, rfl, false, congrArg V.bl (sw_wd l), ?_⟩
          refine ⟨_, rfl, _, rfl, L, _, -1, .ref r, rfl, rfl, SqL.of lv.top, rev_last, ?_⟩
          refine ⟨.inl ⟨rfl, _, SqL.of h1⟩, _, rfl, r, vs, _, rfl, rfl, h1, by rw [h2.len, sizeLine_eq]; omega, ?_⟩
          exact ⟨_, y3, r :: rs, (s ++ [.w l]) :: stk, rfl, lv.put h1 h2 (.w l), hm⟩
    · rintro σ G ⟨y2, y3, rs, stk, rfl, lv, hm⟩
      rw [List.length_map, List.length_map, List.drop_length, mach] at hm
      have hm := Option.some.inj hm
      subst hm
      have lvs := lv.lvs
      cases lvs with
      | @cons r rs s stk vs h1 h2 h3 =>
        cases h3
        refine ⟨_, rfl, L, _, rfl, .inl (SqL.of lv.top), rfl, true, rfl, ?_⟩
        refine ⟨_, rfl, L, _, 0, .ref r, rfl, rfl, SqL.of lv.top, rfl, r, vs, rfl, .inl ⟨SqL.of h1, fun T nT => ?_⟩⟩
        have sT := same_new (o := .tup vs) nT
        exact q _ T (lv.sm.trans sT) ⟨vs, SqT.of upd_same, h2.kt (.of_same sT)⟩
theorem ok_isProgG {f fC C : Addr} {fd fdC : FuncData} (F : Fun K "is_program" "is_program" sIsProg f fd) (GC : FnOk P w K mg base CX0 10 fC fdC ["program"] (spCP K)) (bC : Binds K fdC ["program"] []) (gC : mg "check_program" = some (.ref fC)) (kC : PySem.W.keepIn K (.ref fC) = true)
    (gX : mg "InvalidProgram" = some (.ref C)) : FnOk P w K mg base CX0 11 f fd ["value"] (spIsProgG K) := by
  refine F.ok scIsProg (fun vs H Q E h => ?_) (fun cdv A outer s H vs Q E hr h => ?_)
  · obtain ⟨t, ss, rfl, _⟩ := h
    rfl
  · obtain ⟨t, ss, rfl, hp, ok, hn, hst, q⟩ := h
    refine ⟨_, pss_cons (ps_try_only (tb := fun W => tDrop (tCall (spCP K) [] E0 (tCons (tVar 0) tNil))) (ts := fun _ _ _ => tRet (tC (.bl false))) (Wout := fun _ _ _ _ => False) rfl rfl ⟨rfl, by decide, Or.inl gX⟩ takes0
        (fun W pn xe tk _ => pss_one (ps_expr (by exact (pe_call GC hr (by rfl) gC kC bC .nil pass0 (by exact (pa_cons (pv 0) pa_nil))))))
        (fun a oe cls d pn _ _ => pss_one (ps_ret pe_bl)))
      (pss_one (ps_ret pe_bl)), ?_⟩
    exact ⟨_, rfl, t, ss, rfl, hp, ok, hn, hst, fun H' s' => q H' s'⟩
theorem ok_fmtP {f fC fS : Addr} {fd fdC fdS : FuncData} (F : Fun K "format_program" "format_program" sFmtP f fd) (GC : FnOk P w K mg base CX0 10 fC fdC ["program"] (spCP K)) (bC : Binds K fdC ["program"] []) (gC : mg "check_program" = some (.ref fC)) (kC : PySem.W.keepIn K (.ref fC) = true)
    (GS : FnOk P w K mg base CX0 5 fS fdS ["step"] (spWrS K 4)) (bS : Binds K fdS ["step"] []) (gS : mg "written_step" = some (.ref fS)) (kS : PySem.W.keepIn K (.ref fS) = true) : FnOk P w K mg base CX0 11 f fd ["program"] (spFmtP K) := by
  refine F.ok scFmtP (fun vs H Q E h => ?_) (fun cdv A outer s H vs Q E hr h => ?_)
  · obtain ⟨t, ss, rfl, _⟩ := h
    rfl
  · obtain ⟨t, ss, rfl, hp, ok, hn, hst, q⟩ := h
    have nd := scFmtP.nd
    have hr5 : Room 5 _ := hr.mono (by omega)
    refine ⟨_, pss_cons (ps_expr (pe_call GC hr (by rfl) gC kC bC .nil pass0 (pa_cons (pv 0) pa_nil)))
      (pss_one (ps_ret (pe_m1 PySem.F.slot_str_join PySem.F.type_str_join mt_join pe_str
        (pe_lc (own := [("step", 1)]) (g := gName 1) (tt := tYes) rfl nd (pi_tup (pv 0)) (blkOk_by (N := nFmtP) (sc := defScope sFmtP) (by decide +kernel))
              (fun _ _ _ _ _ => pg_name (i := 1) nd rfl (Or.inl rfl)) (fun _ _ _ _ _ => pts_nil) (fun _ _ _ _ _ => pe_call GS hr5 (by rfl) gS kS bS .nil pass0 (pa_cons (pv 1) pa_nil)))))), ?_⟩
    refine ⟨_, rfl, t, ss, rfl, hp, ok, hn, hst, fun H1 s1 => ?_⟩
    obtain ⟨xs, hx, h3⟩ := hp.kt (.of_same s1)
    refine ⟨⟨_, rfl⟩, _, rfl, t, rfl, ⟨_, hx⟩, fun D nD => ?_⟩
    have sl := h3.len
    have lb : ss.length ≤ stepsL ss := by
      clear h3 hst q hn sl ok hp
      induction ss with
      | nil => exact Nat.le_refl _
      | cons s ss ih =>
        simp only [stepsL, List.length_cons]
        have := steps_pos s
        omega
    refine lc_tup (K := K) (a := t) (xs := xs) (fun j G => G D = some (.lst (((ss.take j).map fun s => jn (tkS s.tks)).map V.str)) ∧ (∀ b o, b ≠ D → H1 b = some o → G b = some o)) ?_ ?_ ?_ ?_
    · exact ⟨upd_same, fun b o n e => by rw [upd_ne n]; exact e⟩
    · rintro j G _ ⟨a1, a2⟩
      exact same_seqT (fun b o e => a2 b o (ne_of_none e nD) e) hx
    · rintro j x G hj ⟨a1, a2⟩
      have sG : Same H1 G := fun b o e => a2 b o (ne_of_none e nD) e
      obtain ⟨z1, e1, a3⟩ := h3.get hj
      have m1 := List.mem_of_getElem? e1
      have n1 := nest_mem m1
      obtain ⟨_, t2⟩ := stepsL_take e1
      have jl := (List.getElem?_eq_some_iff.mp e1).1
      refine ⟨rfl, _, rfl, x, z1, rfl, a3.kt (.of_same sG), ok_mem ok m1, by omega, by omega, fun G1 s2 => ?_⟩
      refine ⟨_, s2 _ _ a1, ?_, ?_, fun b o n e => ?_⟩
      · rw [List.length_map, List.length_map, List.length_take]
        exact small64 (by omega)
      · rw [upd_same, List.take_add_one, e1, List.map_append, List.map_append]
        rfl
      · rw [upd_ne n]
        exact s2 _ _ (a2 b o n e)
    · rintro G ⟨a1, a2⟩
      have sG : Same H1 G := fun b o e => a2 b o (ne_of_none e nD) e
      rw [sl, List.take_length] at a1
      have wt : ∀ b : List Stp, okL b → ((b.map (fun s => jn (tkS s.tks))).map (·.length)).sum ≤ 401 * stepsL b := fun b => by
        induction b with
        | nil => exact fun _ => Nat.zero_le _
        | cons s b ih =>
          intro ob
          simp only [okL] at ob
          simp only [stepsL]
          rw [List.map_cons, List.map_cons, List.sum_cons]
          have i1 := ih ob.2
          have i2 := jn_len (tkS s.tks)
          have i3 := wt_tks s ob.1
          omega
      refine ⟨_, D, ss.map fun s => jn (tkS s.tks), rfl, rfl, .inl (SqL.of a1), ?_, ?_⟩
      · have w1 := wt ss ok
        have e6 : (" " : Str).length = 1 := by decide +kernel
        rw [e6, List.length_map]
        omega
      · have e : jn (ss.map fun s => jn (tkS s.tks)) = jn (tkS (tksL ss)) := by
          have : (ss.map fun s => jn (tkS s.tks)) = (ss.map fun s => tkS s.tks).map jn := by
            rw [List.map_map]
            rfl
          rw [this, jn_flat]
          · congr 1
            rw [← tksL_flat]
            show _ = List.map Tk.str _
            rw [List.map_flatten, List.map_map]
            rfl
          · intro l hl
            obtain ⟨z, _, rfl⟩ := List.mem_map.mp hl
            exact fun e => tks_ne z (List.map_eq_nil_iff.mp e)
        show Q (.str (jn (ss.map fun s => jn (tkS s.tks)))) G
        rw [e]
        exact q _ (s1.trans sG)
theorem jn_ne {ss : List Stp} (ok : okL ss) (h : ss ≠ []) : jn (tkS (tksL ss)) ≠ "" ∧ tkS (tksL ss) ≠ [] := by
  cases ss with
  | nil => exact absurd rfl h
  | cons s ss =>
    simp only [okL] at ok
    simp only [tksL]
    have hf : ∃ t r, s.tks = t :: r ∧ tl t.str ≠ [] := by
      cases s with
      | w l =>
        simp only [Stp.ok] at ok
        refine ⟨_, _, rfl, fun e => ok.1.1 ?_⟩
        have : l.map ltr = [] := by
          have e2 : tl (wS l) = l.map ltr := List.toList_toArray
          rw [← e2]
          exact e
        exact List.map_eq_nil_iff.mp this
      | r n b => exact ⟨_, _, rfl, by decide +kernel⟩
    obtain ⟨t, r, e, ht⟩ := hf
    rw [e]
    refine ⟨fun z => ?_, List.cons_ne_nil _ _⟩
    have z := congrArg tl z
    rw [tl_jn] at z
    have e0 : tl ("" : Str) = [] := by decide +kernel
    rw [e0] at z
    have : ∀ (p : List Nat) (q : List (List Nat)), joinL [32] (p :: q) = [] → p = [] := by
      intro p q hh
      cases q with
      | nil => exact hh
      | cons a b => exact (List.append_eq_nil_iff.mp hh).1
    exact ht (this _ _ z)
theorem ok_parP {f fR fI : Addr} {fd fdR fdI : FuncData} (F : Fun K "parse_program" "parse_program" sParP f fd) (GR : FnOk P w K mg base CX0 2 fR fdR ["words"] (spRdP K)) (bR : Binds K fdR ["words"] []) (gR : mg "read_program" = some (.ref fR)) (kR : PySem.W.keepIn K (.ref fR) = true)
    (GI : FnOk P w K mg base CX0 11 fI fdI ["value"] (spIsProgG K)) (bI : Binds K fdI ["value"] []) (gI : mg "is_program" = some (.ref fI)) (kI : PySem.W.keepIn K (.ref fI) = true) (mi : mg "isinstance" = none) (mS : mg "str" = none) : FnOk P w K mg base CX0 12 f fd ["text"] (spParP K) := by
  refine F.ok scParP (fun vs H Q E h => ?_) (fun cdv A outer s H vs Q E hr h => ?_)
  · obtain ⟨ss, rfl, _⟩ := h
    rfl
  · obtain ⟨ss, rfl, ok, hn, hst, q⟩ := h
    have nd := scParP.nd
    have hr2 : Room 2 _ := hr.mono (by omega)
    refine ⟨_, pss_cons (ps_if (pt_not (pt_val (pe_callB call_isi (by rfl) mi (by decide +kernel) (pa_cons (pv 0) (pa_cons (pe_bltn (v := .ty "str") (by rfl) mS (by decide +kernel) rfl) pa_nil))))) (pss_one ps_never) pss_nil)
      (pss_cons (ps_set (i := 1) nd rfl (.inl rfl) (pe_call GR hr2 (by rfl) gR kR bR .nil pass0 (pa_cons (pe_ifExp (pt_cmpR op_ne (pv 0) pe_str (nomark _)) (pe_split (pv 0) pe_str) (pe_lst pa_nil)) pa_nil)))
      (pss_cons (ps_if (pt_not (pt_val (pe_call GI hr (by rfl) gI kI bI .nil pass0 (pa_cons (pv 1) pa_nil)))) (pss_one ps_never) pss_nil)
      (pss_one (ps_ret (pv 1))))), ?_⟩
    refine ⟨_, rfl, _, _, _, _, true, rfl, .ty "str", .base (.str _), kit_ty (by decide +kernel), true, rfl, ?_⟩
    refine ⟨_, rfl, rfl, ?_⟩
    by_cases h0 : ss = []
    · subst h0
      refine ⟨false, ?_, ?_⟩
      · simp only [tksL]
        show V.bl (!decide (V.str (jn []) = V.str "")) = V.bl false
        rw [jn_nil]
        rfl
      refine ⟨by show 0 ≤ sizeLine; decide, fun L nL => ?_⟩
      have sL := same_new (o := .lst []) nL
      refine ⟨L, [], rfl, SqL.of (by simp only [tksL]; exact upd_same), ok, hst, fun H2 t s2 hp => ?_⟩
      refine ⟨_, rfl, t, [], rfl, hp, ok, hn, hst, fun H3 s3 => ⟨true, rfl, ?_⟩⟩
      exact ⟨_, rfl, q H3 t ((sL.trans s2).trans s3) (hp.kt (.of_same s3))⟩
    · obtain ⟨j1, j2⟩ := jn_ne ok h0
      refine ⟨true, ?_, ?_⟩
      · show V.bl (!decide (V.str (jn (tkS (tksL ss))) = V.str "")) = V.bl true
        rw [decide_eq_false (fun e => j1 (V.str.inj e))]
        rfl
      have jl := jn_len (tkS (tksL ss))
      have wl := wt_tksL ss ok
      refine ⟨_, rfl, ⟨_, rfl⟩, _, _, rfl, rfl, by decide +kernel, by rw [sizeLine_eq]; omega, fun L nL => ?_⟩
      rw [split_jn j2 (tkL_free ss ok)]
      have sL := same_new (o := .lst ((tkS (tksL ss)).map V.str)) nL
      refine ⟨L, ss, rfl, SqL.of upd_same, ok, hst, fun H2 t s2 hp => ?_⟩
      refine ⟨_, rfl, t, ss, rfl, hp, ok, hn, hst, fun H3 s3 => ⟨true, rfl, ?_⟩⟩
      exact ⟨_, rfl, q H3 t ((sL.trans s2).trans s3) (hp.kt (.of_same s3))⟩
end
end KS
namespace KS
open PySem PySem.Spec PyProof.Rows L2 TL
/-! ### unlike programs have unlike texts, and are unlike data -/
theorem wS_inj {l m : List Bool} (h : wS l = wS m) : l = m := by
  have e : l.map ltr = m.map ltr := by
    have := congrArg tl h
    have e1 : tl (wS l) = l.map ltr := List.toList_toArray
    have e2 : tl (wS m) = m.map ltr := List.toList_toArray
    rw [e1, e2] at this
    exact this
  have : ∀ (l m : List Bool), l.map ltr = m.map ltr → l = m := by
    intro l
    induction l with
    | nil =>
      intro m h
      cases m with
      | nil => rfl
      | cons b m => cases h
    | cons a l ih =>
      intro m h
      cases m with
      | nil => cases h
      | cons b m =>
        rw [List.map_cons, List.map_cons] at h
        have h1 := (List.cons.inj h).1
        have h2 := ih m (List.cons.inj h).2
        rw [h2]
        congr 1
        cases a <;> cases b <;> first | rfl | exact absurd h1 (by decide)
  exact this l m e
def Tk.ge : Tk → Prop
  | .cl n => 0 ≤ n
  | _ => True
theorem wd_tl (l : List Bool) : tl (Tk.wd l).str = l.map ltr := List.toList_toArray
theorem tkS_inj1 {a b : Tk} (ha : a.ge) (hb : b.ge) (h : a.str = b.str) : a = b := by
  have ht := congrArg tl h
  have eo : tl Tk.op.str = [40] := by decide +kernel
  cases a with
  | op =>
    cases b with
    | op => rfl
    | cl n =>
      rw [eo, cl_tl hb] at ht
      cases ht
    | wd l => exact absurd h.symm (wd_ne_op l)
  | cl n =>
    cases b with
    | op => exact absurd h (cl_ne_op ha)
    | cl m =>
      rw [cl_tl ha, cl_tl hb] at ht
      have e := numL_inj (List.cons.inj (List.cons.inj ht).2).2
      have ha' : 0 ≤ n := ha
      have hb' : 0 ≤ m := hb
      have : n = m := by omega
      rw [this]
    | wd l =>
      have e := sw_wd l
      have e2 := sw_cl ha
      rw [show (Tk.cl n).str = wS l from h] at e2
      rw [e] at e2
      cases e2
  | wd l =>
    cases b with
    | op => exact absurd h (wd_ne_op l)
    | cl m =>
      have e := sw_wd l
      have e2 := sw_cl hb
      rw [show (Tk.cl m).str = wS l from h.symm] at e2
      rw [e] at e2
      cases e2
    | wd m => rw [wS_inj h]
theorem tkS_inj : ∀ {a b : List Tk}, (∀ t ∈ a, t.ge) → (∀ t ∈ b, t.ge) → tkS a = tkS b → a = b
  | [], [], _, _, _ => rfl
  | [], _ :: _, _, _, h => by cases h
  | _ :: _, [], _, _, h => by cases h
  | x :: a, y :: b, ha, hb, h => by
    have h : x.str :: tkS a = y.str :: tkS b := h
    have e1 := tkS_inj1 (ha x (List.mem_cons_self ..)) (hb y (List.mem_cons_self ..)) (List.cons.inj h).1
    have e2 := tkS_inj (fun t ht => ha t (List.mem_cons_of_mem _ ht)) (fun t ht => hb t (List.mem_cons_of_mem _ ht)) (List.cons.inj h).2
    rw [e1, e2]
theorem tks_ge {ss : List Stp} (ok : okL ss) : ∀ t ∈ tksL ss, t.ge := by
  intro t ht
  cases t with
  | cl n =>
    have := (tkL_cl ss ok n ht).1
    show 0 ≤ n
    omega
  | _ => trivial
theorem text_inj {a b : List Stp} (ha : okL a) (hb : okL b) (h : jn (tkS (tksL a)) = jn (tkS (tksL b))) : a = b := by
  by_cases ea : a = []
  · by_cases eb : b = []
    · rw [ea, eb]
    · subst ea
      have e0 : jn (tkS (tksL [])) = "" := jn_nil
      rw [e0] at h
      exact absurd h.symm (jn_ne hb eb).1
  · by_cases eb : b = []
    · subst eb
      have e0 : jn (tkS (tksL [])) = "" := jn_nil
      rw [e0] at h
      exact absurd h (jn_ne ha ea).1
    · have h1 := split_jn (jn_ne ha ea).2 (tkL_free a ha)
      have h2 := split_jn (jn_ne hb eb).2 (tkL_free b hb)
      rw [h, h2] at h1
      have e := tkS_inj (tks_ge hb) (tks_ge ha) h1
      have m1 := mach_all a
      have m2 := mach_all b
      rw [e] at m2
      rw [m1] at m2
      exact (List.cons.inj (Option.some.inj m2)).1
mutual
theorem dat_eqv : ∀ s t : Stp, PyData.eqv s.dat t.dat = true ↔ s = t
  | .w l, .w m => by
    simp only [Stp.dat, PyData.eqv, beq_iff_eq]
    exact ⟨fun h => by rw [wS_inj h], fun h => by cases h; rfl⟩
  | .w l, .r n b => by
    simp only [Stp.dat, PyData.eqv]
    exact ⟨(fun h => nomatch h), (fun h => nomatch h)⟩
  | .r n b, .w l => by
    simp only [Stp.dat, PyData.eqv]
    exact ⟨(fun h => nomatch h), (fun h => nomatch h)⟩
  | .r n b, .r m c => by
    have ih := datL_eqv b c
    simp only [Stp.dat, PyData.eqv, PyData.eqvAll, Bool.and_true, Bool.and_eq_true, beq_iff_eq, beq_self_eq_true, true_and]
    rw [ih]
    exact ⟨fun ⟨h1, h2⟩ => by rw [h1, h2], fun h => by cases h; exact ⟨rfl, rfl⟩⟩
theorem datL_eqv : ∀ b c : List Stp, PyData.eqvAll (datL b) (datL c) = true ↔ b = c
  | [], [] => by
    simp only [datL, PyData.eqvAll]
  | [], s :: c => by
    simp only [datL, PyData.eqvAll]
    exact ⟨(fun h => nomatch h), (fun h => nomatch h)⟩
  | s :: b, [] => by
    simp only [datL, PyData.eqvAll]
    exact ⟨(fun h => nomatch h), (fun h => nomatch h)⟩
  | s :: b, t :: c => by
    have i1 := dat_eqv s t
    have i2 := datL_eqv b c
    simp only [datL, PyData.eqvAll, Bool.and_eq_true]
    rw [i1, i2]
    exact ⟨fun ⟨h1, h2⟩ => by rw [h1, h2], fun h => by cases h; exact ⟨rfl, rfl⟩⟩
end
end KS
namespace KS
open PySem PySem.Spec PyProof.Rows L2
/-! ### programs written out in the text -/
theorem pe_wk {X : Cx} {e : Expr} {t t' : TE} (h : PE X e t) (k : ∀ σ H Q, t' σ H Q → t σ H Q) : PE X e t' := ⟨fun pins s σ H Q I q => h.run pins s σ H Q I (k σ H Q q)⟩
theorem pa_wk {X : Cx} {es : List Expr} {t t' : TA} (h : PA X es t) (k : ∀ σ H Q, t' σ H Q → t σ H Q) : PA X es t' := ⟨fun pos pins s σ H Q I q => h.run pos pins s σ H Q I (k σ H Q q)⟩
def tPg (K : PySem.W.Frag) (ss : List Stp) : TE := fun σ H Q => ∀ H' t, Same H H' → PgA K H' t ss → Q (.ref t) H'
def tSt (K : PySem.W.Frag) (s : Stp) : TE := fun σ H Q => ∀ H' v, Same H H' → StA K H' v s → Q v H'
def tSts (K : PySem.W.Frag) (ss : List Stp) : TA := fun σ H Q => ∀ H' vs, Same H H' → StsA K H' vs ss → Q vs H'
theorem stwG {K : PySem.W.Frag} {H : Hp} {z : Str} (l : List Bool) (e : z = wS l) : StA K H (.str z) (.w l) := by
  rw [e]
  exact .w l
section
variable {X : Cx} {K : PySem.W.Frag}
theorem pl_nil : PA X [] (tSts K []) := pa_wk pa_nil fun σ H Q q => q H [] (Same.refl _) .nil
theorem pl_cons {e : Expr} {es : List Expr} {s : Stp} {ss : List Stp} (h : PE X e (tSt K s)) (r : PA X es (tSts K ss)) (hs : starEach (e :: es) X.env = (false, eval e X.env) :: starEach es X.env := by rfl) : PA X (e :: es) (tSts K (s :: ss)) :=
  pa_wk (pa_cons h r hs) fun σ H Q q H1 v s1 a H2 vs s2 b => q H2 (v :: vs) (s1.trans s2) (.cons (a.kt (.of_same s2)) b)
theorem pl_w {z : Str} {k : Nat} {pos : Pos} (l : List Bool) (h : z = wS l) : PE X (.Constant (.str z) k pos) (tSt K (.w l)) := pe_wk pe_str fun σ H Q q => q H _ (Same.refl _) (stwG l h)
theorem pl_pg {es : List Expr} {k : Nat} {pos : Pos} {ss : List Stp} (r : PA X es (tSts K ss)) (hl : ss.length ≤ 1000) : PE X (.Tuple es k pos) (tPg K ss) :=
  pe_wk (pe_tup r) fun σ H Q q H1 vs s1 a => ⟨by rw [a.len, sizeLine_eq]; omega, fun p np => q _ p (s1.trans (same_new np)) ⟨vs, SqT.of upd_same, a.kt (.of_same (same_new np))⟩⟩
theorem pl_r {en eb : Expr} {k k2 : Nat} {pos p2 : Pos} {n : Int} {b : List Stp} (hn : PE X en (tC (.int n))) (hb : PE X eb (tPg K b))
    (h1 : starEach [.Constant (.str "repeat") k2 p2, en, eb] X.env = (false, eval (.Constant (.str "repeat") k2 p2) X.env) :: starEach [en, eb] X.env := by rfl)
    (h2 : starEach [en, eb] X.env = (false, eval en X.env) :: starEach [eb] X.env := by rfl) (h3 : starEach [eb] X.env = (false, eval eb X.env) :: starEach [] X.env := by rfl) :
    PE X (.Tuple [.Constant (.str "repeat") k2 p2, en, eb] k pos) (tSt K (.r n b)) :=
  pe_wk (pe_tup (pa_cons pe_str (pa_cons hn (pa_cons hb pa_nil h3) h2) h1)) fun σ H Q q H1 t s1 hp => ⟨by show 3 ≤ sizeLine; decide, fun p np => by
    obtain ⟨xs, a1, a2⟩ := hp.kt (.of_same (same_new np))
    exact q _ (.ref p) (s1.trans (same_new np)) (.r (SqT.of upd_same) a1 a2)⟩
theorem pl_30 {k k2 : Nat} {p1 p2 pos : Pos} : PE X (.BinOp (.Constant (.int 10) k p1) .Pow (.Constant (.int 30) k2 p2) pos) (tC (.int (10 ^ 30))) :=
  pe_wk (pe_op op_pow pe_int pe_int) fun σ H Q q => ⟨_, _, rfl, rfl, ⟨by decide, by decide, by decide⟩, by
    have e : (10 : Int) ^ (30 : Int).toNat = 10 ^ 30 := by decide +kernel
    show Q (V.int (10 ^ (30 : Int).toNat)) H
    rw [e]
    exact q⟩
theorem pl_rep {z : Str} {k k2 : Nat} {p1 p2 pos : Pos} (l : List Bool) (n : Nat) (h : z = wS l) (n2 : 2 ≤ n) (n4 : n ≤ 400) (l1 : 1 ≤ l.length) (l4 : l.length ≤ 400) : PE X (.BinOp (.Constant (.str z) k p1) .Mult (.Constant (.int (n : Nat)) k2 p2) pos) (tSt K (.w (List.replicate n l).flatten)) :=
  pe_wk (pe_op op_repW pe_str pe_int) fun σ H Q q => ⟨l, n, by rw [h], rfl, n2, n4, l1, l4, q H _ (Same.refl _) (.w _)⟩
end
theorem StsA.rep {K : PySem.W.Frag} {H : Hp} {vs : List V} {ss : List Stp} (h : StsA K H vs ss) : ∀ n : Nat, StsA K H (List.replicate n vs).flatten (List.replicate n ss).flatten
  | 0 => .nil
  | n + 1 => by
    rw [List.replicate_succ, List.replicate_succ, List.flatten_cons, List.flatten_cons]
    exact h.app (StsA.rep h n)
theorem okL_rep {ss : List Stp} (h : okL ss) : ∀ n : Nat, okL (List.replicate n ss).flatten
  | 0 => trivial
  | n + 1 => by
    rw [List.replicate_succ, List.flatten_cons]
    exact okL_app.mpr ⟨h, okL_rep h n⟩
theorem nestL_rep {ss : List Stp} : ∀ n : Nat, nestL (List.replicate n ss).flatten ≤ nestL ss
  | 0 => Nat.zero_le _
  | n + 1 => by
    rw [List.replicate_succ, List.flatten_cons, nestL_app]
    have := nestL_rep (ss := ss) n
    omega
theorem stepsL_rep {ss : List Stp} : ∀ n : Nat, stepsL (List.replicate n ss).flatten = n * stepsL ss
  | 0 => by rw [Nat.zero_mul]; rfl
  | n + 1 => by
    rw [List.replicate_succ, List.flatten_cons, stepsL_app, stepsL_rep n, Nat.succ_mul, Nat.add_comm]
theorem pl_repT {X : Cx} {et : Expr} {k2 : Nat} {p2 pos : Pos} {ss : List Stp} (n : Nat) (h : PE X et (tPg X.K ss)) (hne : ss ≠ []) (h2 : 2 ≤ n) (h3 : n ≤ 1000) (hl : ss.length ≤ 1000) : PE X (.BinOp et .Mult (.Constant (.int (n : Nat)) k2 p2) pos) (tPg X.K (List.replicate n ss).flatten) :=
  pe_wk (pe_op op_repT h pe_int) fun σ H Q q H1 t s1 hp => by
    obtain ⟨xs, a1, a2⟩ := hp
    refine ⟨t, (n : Nat), xs, rfl, rfl, a1, fun e => hne (by subst e; cases a2; rfl), by omega, by omega, by rw [a2.len]; exact hl, fun p np => ?_⟩
    exact q _ p (s1.trans (same_new np)) ⟨_, SqT.of upd_same, (by rw [Int.toNat_natCast]; exact (a2.rep n).kt (.of_same (same_new np)))⟩
/-! ### lists of programs -/
inductive PgsA (K : PySem.W.Frag) (H : Hp) : List V → List (List Stp) → Prop
  | nil : PgsA K H [] []
  | cons {t : Addr} {ss : List Stp} {vs : List V} {pp : List (List Stp)} : PgA K H t ss → PgsA K H vs pp → PgsA K H (.ref t :: vs) (ss :: pp)
theorem PgsA.kt {K : PySem.W.Frag} {H H' : Hp} (k : KT K H H') : ∀ {vs : List V} {pp : List (List Stp)}, PgsA K H vs pp → PgsA K H' vs pp
  | _, _, .nil => .nil
  | _, _, .cons h1 h2 => .cons (h1.kt k) (PgsA.kt k h2)
theorem PgsA.len {K : PySem.W.Frag} {H : Hp} : ∀ {vs : List V} {pp : List (List Stp)}, PgsA K H vs pp → vs.length = pp.length
  | _, _, .nil => rfl
  | _, _, .cons _ h => congrArg (· + 1) (PgsA.len h)
theorem PgsA.get {K : PySem.W.Frag} {H : Hp} : ∀ {vs : List V} {pp : List (List Stp)}, PgsA K H vs pp → ∀ {i : Nat} {v : V}, vs[i]? = some v → ∃ t ss, v = .ref t ∧ pp[i]? = some ss ∧ PgA K H t ss
  | _, _, .nil, i, v, e => by cases e
  | _, _, .cons h1 h2, 0, v, e => by
    cases e
    exact ⟨_, _, rfl, rfl, h1⟩
  | _, _, .cons h1 h2, i + 1, v, e => PgsA.get h2 e
theorem PgsA.app {K : PySem.W.Frag} {H : Hp} : ∀ {vs ws : List V} {pp qq : List (List Stp)}, PgsA K H vs pp → PgsA K H ws qq → PgsA K H (vs ++ ws) (pp ++ qq)
  | _, _, _, _, .nil, h => h
  | _, _, _, _, .cons h1 h2, h => .cons h1 (PgsA.app h2 h)
end KS
namespace KS
open PySem PySem.Spec PyProof.Rows L2
theorem call_divmodW {X : Cx} : CallR X (.builtin "divmod") (fun xs H Q => ∃ i j, xs = [.int i, .int j] ∧ (0 < j ∧ j < 10 ^ 20) ∧ ∀ p, H p = none → Q (.ref p) (upd H p (.tup [.int (i / j), .int (i % j)]))) := by
  intro pins s σ H xs us Q I r h
  obtain ⟨i, j, rfl, ⟨h1, h2⟩, q⟩ := h
  obtain ⟨u, w', rfl, ⟨t, rfl⟩, ⟨t', rfl⟩⟩ := vals2 r
  have hl : j.natAbs.log2 < 9000 := by
    have e : (10 : Int) ^ 20 = 100000000000000000000 := by decide +kernel
    have e2 : (100000000000000000000 : Nat) < 2 ^ 100 := by decide +kernel
    have : j.natAbs.log2 < 100 := (Nat.log2_lt (by omega)).mpr (by omega)
    omega
  refine divmod_int (by omega) ?_ (.inl (PyProof.noPylong_of_log2 hl))
  rw [Int.fdiv_eq_ediv_of_nonneg i (by omega), Int.fmod_eq_emod_of_nonneg i (by omega)]
  have hn : H s.heap.objs.size = none := I.hok.fresh (Nat.le_refl _)
  refine ⟨.ref s.heap.objs.size, _, ?_, rfl, q _ hn⟩
  refine I.laid (fun b o e => Heap.get?_push_of_some _ e) (Nat.le_refl _) ⟨by simp only [List.length_cons, List.length_nil]; rw [sizeLine_eq]; decide, [.int (i / j) s.toks, .int (i % j) (s.toks + 1)], .cons ⟨_, rfl⟩ (.cons ⟨_, rfl⟩ .nil), ?_⟩
  exact ⟨_, Heap.get?_push_size s.heap rfl, rfl, 0, rfl⟩
def spDrawW : Sp := fun vs H Q _ => ∃ (p : Addr) (m : Int), vs = [.ref p, .int m] ∧ PoolO (H p) ∧ 0 < m ∧ m < 10 ^ 20 ∧ ∀ H' r, KeepX p H H' → PoolO (H' p) → 0 ≤ r → r < m → Q (.int r) H'
section
variable {P : Program} {w : World} {K : PySem.W.Frag} {mg : Str → Option Value} {base : Heap}
theorem ok_drawW {f : Addr} {fd : FuncData} (F : Fun K "_law_draw" "_law_draw" sDraw f fd) (md : mg "divmod" = none) : FnOk P w K mg base CX0 1 f fd ["_law_pool_here", "_law_most"] spDrawW := by
  refine F.ok scDraw (fun vs H Q E h => ?_) (fun cdv A outer s H vs Q E hr h => ?_)
  · obtain ⟨p, m, rfl, _⟩ := h
    rfl
  · obtain ⟨p, m, rfl, ⟨a, b, c, hp, a0, a1, b0⟩, m0, m1, q⟩ := h
    refine ⟨_, pss_cons (ps_asg (pe_op op_add (pe_ix ix_list (pv 0) pe_int (fun _ _ => rfl)) pe_int) (pg_sub (pv 0) pe_int set_list))
      (pss_cons (ps_set (i := 2) scDraw.nd rfl (.inl rfl) (pe_ix ix_list (pv 0) pe_int (fun _ _ => rfl)))
      (pss_cons (ps_asg (pe_op op_mod (pe_op op_add (pe_op op_mul (pv 2) (pe_op op_add (pe_op op_mod (pv 2) pe_int) pe_int)) (pe_op op_mul pe_int (pe_ix ix_list (pv 0) pe_int (fun _ _ => rfl)))) pe_int) (pg_sub (pv 0) pe_int set_list))
      (pss_cons (ps_if (pt_cmpR op_gt (pe_ix ix_list (pv 0) pe_int (fun _ _ => rfl)) pe_int (nomark _))
        (pss_cons (ps_asg (pe_callB call_divmodW (by rfl) md (by decide +kernel) (pa_cons (pe_ix ix_list (pv 0) pe_int (fun _ _ => rfl)) (pa_cons (pv 1) pa_nil)))
            (pg_tup (by rfl) (pgs_cons (pg_sub (pv 0) pe_int set_list) (pgs_cons (pg_name (i := 3) scDraw.nd rfl (.inl rfl)) pgs_nil))))
          (pss_one (ps_ret (pv 3)))) pss_nil)
      (pss_one (ps_ret (pe_op op_mod (pe_op op_fdiv (pe_ix ix_list (pv 0) pe_int (fun _ _ => rfl)) pe_int) (pv 1))))))), ?_⟩
    -- pool[2] = pool[2] + 1
    refine ⟨_, rfl, p, _, 2, .int c, rfl, rfl, SqL.of hp, rfl, _, _, rfl, rfl, _, rfl, p, _, 2, 2, rfl, rfl, hp, rfl, ?_⟩
    refine ⟨_, rfl, p, _, 0, .int a, rfl, rfl, SqL.of upd_same, rfl, ?_⟩
    have bm := int_mod_bd a (m := 50021) (by decide)
    refine ⟨_, rfl, _, rfl, _, _, rfl, rfl, by show (0 : Int) < 50021; decide, _, _, rfl, rfl, _, _, rfl, rfl, .inl ⟨by omega, by omega⟩, _, rfl, p, _, 2, .int (c + 1), rfl, rfl, SqL.of upd_same, rfl, _, _, rfl, rfl, .inl ⟨by decide, by decide⟩, _, _, rfl, rfl, _, _, rfl, rfl, by show (0 : Int) < 2147483249; decide, ?_⟩
    refine ⟨_, rfl, p, _, 0, 0, rfl, rfl, upd_same, rfl, ?_⟩
    have bz := int_mod_bd (a * (a % 50021 + 30011) + 80021 * (c + 1)) (m := 2147483249) (by decide)
    rw [upd_upd]
    show _
    refine ⟨_, rfl, p, _, 1, .int b, rfl, rfl, SqL.of upd_same, rfl, _, _, rfl, rfl, _, rfl, ite2 (fun e => ?_) (fun e => ?_)⟩
    · refine ⟨_, rfl, p, _, 1, .int b, rfl, rfl, SqL.of upd_same, rfl, _, rfl, b, m, rfl, ⟨m0, m1⟩, fun t nt => ?_⟩
      have npt : p ≠ t := ne_of_none upd_same nt
      refine ⟨t, _, rfl, SqT.of upd_same, rfl, _, _, rfl, ?_⟩
      refine ⟨_, rfl, p, _, 1, 1, rfl, rfl, by rw [upd_ne npt]; exact upd_same, rfl, _, [], rfl, rfl, ?_⟩
      have br := int_mod_bd b m0
      refine ⟨_, rfl, q _ _ (fun x o n e => ?_) ⟨_, _, _, upd_same, bz.1, bz.2, Int.ediv_nonneg b0 (by omega)⟩ br.1 br.2⟩
      rw [upd_ne n, upd_ne, upd_ne n]
      · exact e
      · intro z
        rw [z] at e
        rw [upd_ne (Ne.symm npt)] at nt
        rw [nt] at e
        cases e
    · refine ⟨_, rfl, p, _, 0, .int ((a * (a % 50021 + 30011) + 80021 * (c + 1)) % 2147483249), rfl, rfl, SqL.of upd_same, rfl, _, _, rfl, rfl, ⟨by decide, by decide⟩, _, rfl, _, _, rfl, rfl, m0, ?_⟩
      have br := int_mod_bd ((a * (a % 50021 + 30011) + 80021 * (c + 1)) % 2147483249 / 64) m0
      exact q _ _ keepX_upd ⟨_, _, _, upd_same, bz.1, bz.2, b0⟩ br.1 br.2
end
end KS
-- topS
namespace KS
open PySem PySem.Spec PyProof.Rows L2
abbrev sWord : Stmt := topS 49
abbrev nWord : List Str := ["_law_pool_here", "_law_most", "_law_many", "_law_stretch", "_law_found"]
theorem scWord : FnScope nWord ["_law_pool_here", "_law_most"] (defScope sWord) := ⟨rfl, rfl, rfl, by decide +kernel, rfl, by decide +kernel, by decide +kernel⟩
section
variable {P : Program} {w : World} {K : PySem.W.Frag} {mg : Str → Option Value} {base : Heap}
theorem ok_lword {f fD : Addr} {fd fdD : FuncData} (F : Fun K "_law_word" "_law_word" sWord f fd) (GD : FnOk P w K mg base CX0 1 fD fdD ["_law_pool_here", "_law_most"] spDraw)
    (bD : Binds K fdD ["_law_pool_here", "_law_most"] []) (gD : mg "_law_draw" = some (.ref fD)) (kD : PySem.W.keepIn K (.ref fD) = true) (ml : mg "len" = none) :
    FnOk P w K mg base CX0 2 f fd ["_law_pool_here", "_law_most"] (spLWord K) := by
  refine F.ok scWord (fun vs H Q E h => ?_) (fun cdv A outer s H vs Q E hr h => ?_)
  · obtain ⟨p, m, rfl, _⟩ := h
    rfl
  · obtain ⟨p, m, rfl, po, m1, q⟩ := h
    have nd := scWord.nd
    refine ⟨_, pss_cons (ps_par3 (i := 2) (j := 3) (l := 4) (by rfl) nd rfl rfl rfl (by decide) (by decide) (by decide) rfl rfl rfl
        (pa_cons (pe_call GD hr (by rfl) gD kD bD .nil pass0 (pa_cons (pv 0) (pa_cons (pe_op op_add (pv 1) pe_int) pa_nil)))
          (pa_cons (pe_op op_add pe_int (pe_call GD hr (by rfl) gD kD bD .nil pass0 (pa_cons (pv 0) (pa_cons pe_int pa_nil)))) (pa_cons pe_str pa_nil))) (by rfl))
      (pss_cons (ps_while PassesOwn.never (pt_cmpR op_lt (pe_callB call_len_str (by rfl) ml PySem.boot_len (pa_cons (pv 4) pa_nil)) (pv 2) (nomark _))
        (pss_one (ps_set (i := 4) nd rfl (.inl rfl) (pe_op op_add_str (pv 4) (pe_op op_repC (pe_ix ix_str pe_str (pe_call GD hr (by rfl) gD kD bD .nil pass0 (pa_cons (pv 0) (pa_cons pe_int pa_nil))) (fun _ _ => rfl))
          (pe_op op_add pe_int (pe_call GD hr (by rfl) gD kD bD .nil pass0 (pa_cons (pv 0) (pa_cons (pv 3) pa_nil)))))))))
      (pss_one (ps_ret (pe_slice sl_str (pv 4) po_none (po_some (pv 2)))))), ?_⟩
    refine ⟨_, rfl, _, rfl, _, _, rfl, rfl, p, _, rfl, po, by omega, by omega, fun H1 many k1 po1 a0 a1 => ?_⟩
    refine ⟨_, rfl, p, _, rfl, po1, by decide, by decide, fun H2 st k2 po2 b0 b1 => ?_⟩
    refine ⟨_, _, rfl, rfl, _, _, _, rfl, ?_⟩
    refine ⟨fun n σ G => ∃ ws : List Bool, σ = [some (.ref p), some (.int m), some (.int many), some (.int (1 + st)), some (.str (wS ws))] ∧ KeepX p H G ∧ PoolO (G p) ∧ ws.length ≤ 500 ∧ n = (many - ws.length).toNat, ?_, ?_⟩
    · exact ⟨_, [], rfl, k1.trans k2, po2, Nat.zero_le _, rfl⟩
    · rintro n σ G ⟨ws, rfl, kx, po3, wl, rfl⟩
      have hwl := wS_len ws
      have hz : (wS ws).length ≤ sizeLine := by
        rw [hwl, sizeLine_eq]
        omega
      refine ⟨_, rfl, _, rfl, hz, _, rfl, _, _, rfl, rfl, _, rfl, ite2 (fun c => ?_) (fun c => ?_)⟩
      · have c' : ((wS ws).length : Int) < many := of_decide_eq_true c
        rw [hwl] at c'
        refine ⟨fun σ' G' => ∃ n', n' < (many - ws.length).toNat ∧ ∃ ws' : List Bool, σ' = [some (.ref p), some (.int m), some (.int many), some (.int (1 + st)), some (.str (wS ws'))] ∧ KeepX p H G' ∧ PoolO (G' p) ∧ ws'.length ≤ 500 ∧ n' = (many - ws'.length).toNat, fun σ' G' z => z, ?_⟩
        refine ⟨_, rfl, _, rfl, p, 2, rfl, po3, by decide, by decide, fun G1 r k3 po4 r0 r1 => ?_⟩
        obtain ⟨b, hb⟩ : ∃ b : Bool, atI ("RC" : Str).cps.toList r = some (ltr b) := by
          have : r = 0 ∨ r = 1 := by omega
          rcases this with rfl | rfl
          · exact ⟨false, by decide +kernel⟩
          · exact ⟨true, by decide +kernel⟩
        refine ⟨_, r, ltr b, rfl, rfl, by decide, hb, ?_⟩
        refine ⟨_, rfl, _, rfl, p, _, rfl, po4, by omega, by omega, fun G2 t k4 po5 t0 t1 => ?_⟩
        obtain ⟨t', rfl⟩ := Int.eq_ofNat_of_zero_le t0
        refine ⟨_, _, rfl, rfl, ltr b, 1 + t', rfl, by rw [Int.natCast_add]; rfl, by omega, by omega, ?_⟩
        rw [wS_rep]
        have e2 := wS_len (List.replicate (1 + t') b)
        rw [List.length_replicate] at e2
        refine ⟨_, _, rfl, rfl, ?_, ?_⟩
        · rw [hwl, e2, sizeLine_eq]
          omega
        · rw [wS_app]
          have e3 : (ws ++ List.replicate (1 + t') b).length = ws.length + (1 + t') := by
            rw [List.length_append, List.length_replicate]
          exact ⟨_, by omega, ws ++ List.replicate (1 + t') b, rfl, (kx.trans k3).trans k4, po5, by omega, rfl⟩
      · have c' : ¬ ((wS ws).length : Int) < many := fun z => c (decide_eq_true z)
        rw [hwl] at c'
        obtain ⟨mm, rfl⟩ := Int.eq_ofNat_of_zero_le a0
        refine ⟨_, rfl, _, rfl, _, rfl, _, rfl, hz, ?_⟩
        rw [wS_cut _ _ (by omega)]
        refine q G _ kx po3 ?_
        rw [List.length_take]
        omega
end
end KS
namespace KS
open PySem PySem.Spec PyProof.Rows L2 RZ
/-! ### words of any length, said at most three times -/
mutual
def Stp.sm3 : Stp → Prop
  | .w l => True
  | .r n b => n ≤ 3 ∧ sm3L b
def sm3L : List Stp → Prop
  | [] => True
  | s :: b => s.sm3 ∧ sm3L b
end
mutual
theorem sm_sm3 : ∀ s : Stp, s.sm → s.sm3
  | .w l, _ => by simp only [Stp.sm3]
  | .r n b, h => by
    simp only [Stp.sm] at h
    simp only [Stp.sm3]
    exact ⟨h.1, smL_sm3 b h.2⟩
theorem smL_sm3 : ∀ b : List Stp, smL b → sm3L b
  | [], _ => by simp only [sm3L]
  | s :: b, h => by
    simp only [smL] at h
    simp only [sm3L]
    exact ⟨sm_sm3 s h.1, smL_sm3 b h.2⟩
end
theorem sm3L_app : ∀ {a b : List Stp}, sm3L (a ++ b) ↔ sm3L a ∧ sm3L b
  | [], b => by rw [List.nil_append]; simp only [sm3L]; exact ⟨fun h => ⟨trivial, h⟩, fun h => h.2⟩
  | s :: a, b => by
    rw [List.cons_append]
    simp only [sm3L]
    rw [sm3L_app (a := a)]
    exact ⟨fun ⟨x, y, z⟩ => ⟨⟨x, y⟩, z⟩, fun ⟨⟨x, y⟩, z⟩ => ⟨x, y, z⟩⟩
theorem sm3_mem : ∀ {b : List Stp} {s : Stp}, sm3L b → s ∈ b → s.sm3
  | [], _, _, h => by cases h
  | x :: b, s, o, h => by
    simp only [sm3L] at o
    rcases List.mem_cons.mp h with e | h
    · subst e
      exact o.1
    · exact sm3_mem o.2 h
mutual
theorem spell_len3 : ∀ s : Stp, s.sm3 → s.ok → s.spell.length ≤ 400 * s.steps * 3 ^ s.nest
  | .w l, h, o => by
    simp only [Stp.ok] at o
    simp only [Stp.spell, Stp.steps, Stp.nest]
    omega
  | .r n b, h, o => by
    simp only [Stp.sm3] at h
    simp only [Stp.ok] at o
    have ih := spellL_len3 b h.2 o.2.2
    simp only [Stp.spell, Stp.steps, Stp.nest]
    rw [List.length_flatten, List.map_replicate, List.sum_replicate_nat]
    have e : 3 ^ (1 + nestL b) = 3 * 3 ^ nestL b := by rw [Nat.add_comm, Nat.pow_succ, Nat.mul_comm]
    rw [e]
    have m1 : n.toNat * (spellL b).length ≤ 3 * (400 * stepsL b * 3 ^ nestL b) := Nat.mul_le_mul (by omega) ih
    have e2 : 3 * (400 * stepsL b * 3 ^ nestL b) = 400 * stepsL b * (3 * 3 ^ nestL b) := Nat.mul_left_comm _ _ _
    have m2 : 400 * stepsL b * (3 * 3 ^ nestL b) ≤ 400 * (1 + stepsL b) * (3 * 3 ^ nestL b) := Nat.mul_le_mul_right _ (by omega)
    omega
theorem spellL_len3 : ∀ b : List Stp, sm3L b → okL b → (spellL b).length ≤ 400 * stepsL b * 3 ^ nestL b
  | [], _, _ => by simp only [spellL, stepsL, nestL]; decide
  | s :: b, h, o => by
    simp only [sm3L] at h
    simp only [okL] at o
    have i1 := spell_len3 s h.1 o.1
    have i2 := spellL_len3 b h.2 o.2
    simp only [spellL, stepsL, nestL]
    rw [List.length_append]
    have p1 : 3 ^ s.nest ≤ 3 ^ (max s.nest (nestL b)) := Nat.pow_le_pow_right (by decide) (by omega)
    have p2 : 3 ^ nestL b ≤ 3 ^ (max s.nest (nestL b)) := Nat.pow_le_pow_right (by decide) (by omega)
    have m1 : 400 * s.steps * 3 ^ s.nest ≤ 400 * s.steps * 3 ^ (max s.nest (nestL b)) := Nat.mul_le_mul_left _ p1
    have m2 : 400 * stepsL b * 3 ^ nestL b ≤ 400 * stepsL b * 3 ^ (max s.nest (nestL b)) := Nat.mul_le_mul_left _ p2
    have e : 400 * (s.steps + stepsL b) * 3 ^ (max s.nest (nestL b)) = 400 * s.steps * 3 ^ (max s.nest (nestL b)) + 400 * stepsL b * 3 ^ (max s.nest (nestL b)) := by rw [Nat.mul_add, Nat.add_mul]
    omega
end
theorem spellL_small3 {b : List Stp} (h : sm3L b) (o : okL b) (hs : stepsL b ≤ 12) (hn : nestL b ≤ 3) : (spellL b).length ≤ 129600 := by
  have i := spellL_len3 b h o
  have p : 3 ^ nestL b ≤ 3 ^ 3 := Nat.pow_le_pow_right (by decide) hn
  have m : 400 * stepsL b * 3 ^ nestL b ≤ 4800 * 3 ^ 3 := Nat.mul_le_mul (by omega) p
  omega
def spSplB (K : PySem.W.Frag) (m : Nat) : Sp := fun xs H Q _ => ∃ (t : Addr) (ss : List Stp), xs = [.ref t] ∧ PgA K H t ss ∧ okL ss ∧ sm3L ss ∧ nestL ss ≤ m ∧ nestL ss ≤ 3 ∧ stepsL ss ≤ 12 ∧ ∀ H', Same H H' → Q (.str (wS (spellL ss))) H'
/-- a word, however often -/
def rRepB : R2 := fun x y H Q => ∃ (wd : List Bool) (n : Int), x = .str (wS wd) ∧ y = .int n ∧ 1 ≤ n ∧ n ≤ 3 ∧ wd.length ≤ 130000 ∧ Q (.str (wS (List.replicate n.toNat wd).flatten)) H
theorem op_repB {X : Cx} : OpR X (binaryOp .Mult) rRepB := by
  intro pins s σ H x y v u Q I rx ry h
  obtain ⟨wd, n, rfl, rfl, n0, n1, w1, q⟩ := h
  obtain ⟨t, rfl⟩ := rx
  obtain ⟨t', rfl⟩ := ry
  have e1 : ¬ (n < 1) := by omega
  have hl := wS_len wd
  have hm : wd.length * n.toNat ≤ 390000 := Nat.mul_le_mul w1 (show n.toNat ≤ 3 by omega)
  refine P.mul_str ?_ ?_ ?_ ?_
  · have h1 : ¬ n < -(2 ^ 63 : Int) := by omega
    have h2 : ¬ n ≥ 2 ^ 63 := by omega
    rw [decide_eq_false h1, decide_eq_false h2]
    rfl
  · intro _ _
    rw [hl]
    have : (wd.length : Int) ≤ (2 ^ 63 - 1) / n := (Int.le_ediv_iff_mul_le (by omega)).mpr (by
      have : ((wd.length * n.toNat : Nat) : Int) ≤ 390000 := by omega
      rw [Int.natCast_mul, Int.toNat_of_nonneg (by omega)] at this
      omega)
    omega
  · intro _ _
    refine decide_eq_false ?_
    rw [hl, sizeLine_eq]
    omega
  · rw [if_neg e1]
    by_cases z : ((n == 1) || ((wS wd).length == 0)) = true
    · rw [if_pos z]
      have ez : wS wd = wS (List.replicate n.toNat wd).flatten := by
        rw [Bool.or_eq_true] at z
        rcases z with z | z
        · have : n = 1 := by simpa using z
          subst this
          show wS wd = wS (wd ++ [])
          rw [List.append_nil]
        · rw [hl] at z
          have : wd = [] := List.length_eq_zero_iff.mp (by simpa using z)
          subst this
          congr 1
          have : ∀ k : Nat, (List.replicate k ([] : List Bool)).flatten = [] := fun k => by
            induction k with
            | zero => rfl
            | succ k ih => rw [List.replicate_succ, List.flatten_cons, ih]; rfl
          rw [this]
      rw [ez] at *
      first | exact ⟨.str (wS (List.replicate n.toNat wd).flatten), H, I, ⟨_, rfl⟩, q⟩ | exact ⟨.str (wS (List.replicate n.toNat wd).flatten), H, I.tok _, ⟨_, rfl⟩, q⟩
    · rw [if_neg z]
      have ez : (⟨(List.replicate n.toNat (wS wd).cps).foldl (· ++ ·) #[]⟩ : Str) = wS (List.replicate n.toNat wd).flatten := by
        show (⟨(List.replicate n.toNat (wd.map ltr).toArray).foldl (· ++ ·) #[]⟩ : Str) = _
        rw [rep_words]
        unfold wS
        simp
      rw [ez]
      refine ⟨?_, .str (wS (List.replicate n.toNat wd).flatten), H, I.tok _, ⟨_, rfl⟩, q⟩
      rw [wS_len, List.length_flatten, List.map_replicate, List.sum_replicate_nat, sizeLine_eq, Nat.mul_comm]
      omega
theorem last_at {α : Type} {l : List α} {v : α} : atI (l ++ [v]) (-1) = some v := by
  have hl : (l ++ [v]).length = l.length + 1 := by rw [List.length_append]; rfl
  unfold atI
  have e : ixN (l ++ [v]).length (-1) = some l.length := by
    unfold ixN
    rw [if_neg (by decide), hl]
    rw [if_pos (by omega)]
    congr 1
    omega
  rw [e]
  show (l ++ [v])[l.length]? = some v
  rw [List.getElem?_append_right (Nat.le_refl _), Nat.sub_self]
  rfl
abbrev sTimes : Stmt := topS 50
theorem scTimes : FnScope ["_law_pool_here", "_law_small"] ["_law_pool_here", "_law_small"] (defScope sTimes) := ⟨rfl, rfl, rfl, by decide +kernel, rfl, by decide +kernel, by decide +kernel⟩
abbrev sLSteps : Stmt := topS 51
abbrev nLSt : List Str := ["_law_step", "_law_inner"]
theorem scLSteps : FnScope nLSt ["_law_step"] (defScope sLSteps) := ⟨rfl, rfl, rfl, by decide +kernel, rfl, by decide +kernel, by decide +kernel⟩
abbrev sLProg : Stmt := topS 52
abbrev nLProg : List Str := ["_law_pool_here", "_law_deep", "_law_most", "_law_small", "_law_found", "_law_left"]
theorem scLProg : FnScope nLProg ["_law_pool_here", "_law_deep", "_law_most", "_law_small"] (defScope sLProg) := ⟨rfl, rfl, rfl, by decide +kernel, rfl, by decide +kernel, by decide +kernel⟩
abbrev nSpelt : List Str := ["_law_parts", "_law_found", "_law_step"]
section
variable {P : Program} {w : World} {K : PySem.W.Frag} {mg : Str → Option Value} {base : Heap}
theorem ok_times {f fD : Addr} {fd fdD : FuncData} (F : Fun K "_law_times" "_law_times" sTimes f fd) (GD : FnOk P w K mg base CX0 1 fD fdD ["_law_pool_here", "_law_most"] spDrawW) (bD : Binds K fdD ["_law_pool_here", "_law_most"] []) (gD : mg "_law_draw" = some (.ref fD)) (kD : PySem.W.keepIn K (.ref fD) = true) :
    FnOk P w K mg base CX0 2 f fd ["_law_pool_here", "_law_small"] spTimes := by
  refine F.ok scTimes (fun vs H Q E h => ?_) (fun cdv A outer s H vs Q E hr h => ?_)
  · obtain ⟨p, b, rfl, _⟩ := h
    rfl
  · obtain ⟨p, b, rfl, po, q⟩ := h
    refine ⟨_, pss_cons (ps_if (pt_val (pv 1)) (pss_one (ps_ret (pe_op op_add pe_int (pe_call GD hr (by rfl) gD kD bD .nil pass0 (pa_cons (pv 0) (pa_cons pe_int pa_nil)))))) pss_nil)
      (pss_one (ps_ret (pe_ix ix_list (pe_lst (pa_cons pe_int (pa_cons pe_int (pa_cons pe_int (pa_cons (pe_op op_add pe_int (pe_call GD hr (by rfl) gD kD bD .nil pass0 (pa_cons (pv 0) (pa_cons pe_int pa_nil))))
          (pa_cons (pe_op op_add pe_int (pe_call GD hr (by rfl) gD kD bD .nil pass0 (pa_cons (pv 0) (pa_cons (pe_op op_pow pe_int pe_int) pa_nil)))) (pa_cons (pe_op op_pow pe_int pe_int) pa_nil)))))))
        (pe_call GD hr (by rfl) gD kD bD .nil pass0 (pa_cons (pv 0) (pa_cons pe_int pa_nil))) (fun _ _ => rfl)))), ?_⟩
    have t30 := ten30
    cases b with
    | true =>
      refine ⟨_, rfl, true, rfl, ?_⟩
      refine ⟨_, rfl, p, 3, rfl, po, by decide, by decide, fun H1 r k1 po1 r0 r1 => ?_⟩
      exact ⟨_, _, rfl, rfl, q H1 _ k1 po1 (by omega) (by omega) (fun _ => by omega)⟩
    | false =>
      refine ⟨_, rfl, false, rfl, ?_⟩
      refine ⟨_, rfl, p, 9, rfl, po, by decide, by decide, fun H1 r k1 po1 r0 r1 => ?_⟩
      refine ⟨_, _, rfl, rfl, _, rfl, _, _, rfl, rfl, ⟨by decide, by decide, by decide⟩, p, _, rfl, po1, by decide, by decide, fun H2 r2 k2 po2 r20 r21 => ?_⟩
      refine ⟨_, _, rfl, rfl, _, _, rfl, rfl, ⟨by decide, by decide, by decide⟩, by show 6 ≤ sizeLine; decide, fun L nL => ?_⟩
      have sL := same_new (o := .lst (([1, 2, 3, 4 + r, 1 + r2, 10 ^ (30 : Int).toNat] : List Int).map V.int)) nL
      have nLp : L ≠ p := Ne.symm (po2.ne nL)
      refine ⟨_, rfl, p, 6, rfl, po2.same sL, by decide, by decide, fun H3 r3 k3 po3 r30 r31 => ?_⟩
      have e12 : (10 : Int) ^ (12 : Int).toNat = 1000000000000 := by decide +kernel
      have e30 : (10 : Int) ^ (30 : Int).toNat = 1000000000000000000000000000000 := by decide +kernel
      rw [e12] at r21
      obtain ⟨x, hxm, hat⟩ : ∃ x : Int, (1 ≤ x ∧ x ≤ 10 ^ 30) ∧ atI (([1, 2, 3, 4 + r, 1 + r2, 10 ^ (30 : Int).toNat] : List Int).map V.int) r3 = some (.int x) := by
        have : r3 = 0 ∨ r3 = 1 ∨ r3 = 2 ∨ r3 = 3 ∨ r3 = 4 ∨ r3 = 5 := by omega
        rcases this with z | z | z | z | z | z <;> subst z
        · exact ⟨1, by omega, rfl⟩
        · exact ⟨2, by omega, rfl⟩
        · exact ⟨3, by omega, rfl⟩
        · exact ⟨4 + r, by omega, rfl⟩
        · exact ⟨1 + r2, by omega, rfl⟩
        · exact ⟨10 ^ (30 : Int).toNat, by omega, rfl⟩
      refine ⟨L, _, r3, .int x, rfl, rfl, SqL.of (k3 _ _ nLp upd_same), hat, ?_⟩
      exact q H3 x (((k1.trans k2).trans (.of_same sL)).trans k3) po3 hxm.1 hxm.2 (fun z => Bool.noConfusion z)
theorem ok_lsteps {f : Addr} {fd : FuncData} (F : Fun K "_law_steps" "_law_steps" sLSteps f fd) (bS : Binds K fd ["_law_step"] []) (gS : mg "_law_steps" = some (.ref f)) (kS : PySem.W.keepIn K (.ref f) = true)
    (mi : mg "isinstance" = none) (mS : mg "str" = none) (mU : mg "sum" = none) : ∀ m, FnOk P w K mg base CX0 (m + 1) f fd ["_law_step"] (spLSt K m)
  | 0 => by
    refine F.ok scLSteps (fun vs H Q E h => ?_) (fun cdv A outer s H vs Q E hr h => ?_)
    · obtain ⟨v, st, rfl, _⟩ := h
      rfl
    · obtain ⟨v, st, rfl, hs, hn, h60, q⟩ := h
      refine ⟨_, pss_one (ps_ret (pe_ifExp (pt_val (pe_callB call_isi (by rfl) mi (by decide +kernel) (pa_cons (pv 0) (pa_cons (pe_bltn (v := .ty "str") (by rfl) mS (by decide +kernel) rfl) pa_nil)))) pe_int pe_never)), ?_⟩
      cases hs with
      | w l =>
        refine ⟨_, rfl, _, _, _, _, true, rfl, .ty "str", .base (.str _), kit_ty (by decide +kernel), true, rfl, ?_⟩
        exact q H (Same.refl _)
      | r h1 h2 h3 =>
        simp only [Stp.nest] at hn
        omega
  | m + 1 => by
    have GS := ok_lsteps F bS gS kS mi mS mU m
    refine F.ok scLSteps (fun vs H Q E h => ?_) (fun cdv A outer s H vs Q E hr h => ?_)
    · obtain ⟨v, st, rfl, _⟩ := h
      rfl
    · obtain ⟨v, st, rfl, hs, hn, h60, q⟩ := h
      have nd := scLSteps.nd
      refine ⟨_, pss_one (ps_ret (pe_ifExp (pt_val (pe_callB call_isi (by rfl) mi (by decide +kernel) (pa_cons (pv 0) (pa_cons (pe_bltn (v := .ty "str") (by rfl) mS (by decide +kernel) rfl) pa_nil)))) pe_int
          (pe_op op_add pe_int (pe_callB (cr_sum rfl) (by rfl) mU (by decide +kernel) (pa_cons
            (pe_lc (own := [("_law_inner", 1)]) (g := gName 1) (tt := tYes) rfl nd (pi_tup (pe_ix ix_tup (pv 0) pe_int (fun _ _ => rfl))) (blkOk_by (N := nLSt) (sc := defScope sLSteps) (by decide +kernel))
              (fun _ _ _ _ _ => pg_name (i := 1) nd rfl (Or.inl rfl)) (fun _ _ _ _ _ => pts_nil) (fun _ _ _ _ _ => pe_call GS hr (by rfl) gS kS bS .nil pass0 (pa_cons (pv 1) pa_nil))) pa_nil))))), ?_⟩
      cases hs with
      | w l =>
        refine ⟨_, rfl, _, _, _, _, true, rfl, .ty "str", .base (.str _), kit_ty (by decide +kernel), true, rfl, ?_⟩
        exact q H (Same.refl _)
      | @r t b n xs ss h1 h2 h3 =>
        simp only [Stp.nest] at hn
        simp only [Stp.steps] at h60 q
        refine ⟨_, rfl, _, _, _, _, false, rfl, .ty "str", tyx_tup h1, kit_ty (by decide +kernel), false, rfl, ?_⟩
        refine ⟨_, rfl, t, _, 2, .ref b, rfl, rfl, h1, rfl, b, rfl, ⟨_, h2⟩, fun D nD => ?_⟩
        have sl := h3.len
        have lb : ss.length ≤ stepsL ss := by
          clear h3 h60 q hn sl
          induction ss with
          | nil => exact Nat.le_refl _
          | cons s ss ih =>
            simp only [stepsL, List.length_cons]
            have := steps_pos s
            omega
        refine lc_tup (K := K) (a := b) (xs := xs) (fun j G => G D = some (.lst (((ss.take j).map fun s => ((s.steps : Nat) : Int)).map V.int)) ∧ (∀ b o, b ≠ D → H b = some o → G b = some o)) ?_ ?_ ?_ ?_
        · exact ⟨upd_same, fun b o n e => by rw [upd_ne n]; exact e⟩
        · rintro j G _ ⟨a1, a2⟩
          exact same_seqT (fun b o e => a2 b o (ne_of_none e nD) e) h2
        · rintro j x G hj ⟨a1, a2⟩
          have sG : Same H G := fun b o e => a2 b o (ne_of_none e nD) e
          obtain ⟨s1, e1, a3⟩ := h3.get hj
          have m1 := List.mem_of_getElem? e1
          have n1 := nest_mem m1
          obtain ⟨_, t2⟩ := stepsL_take e1
          have jl := (List.getElem?_eq_some_iff.mp e1).1
          refine ⟨rfl, _, rfl, x, s1, rfl, a3.kt (.of_same sG), by omega, by omega, fun G1 s2 => ?_⟩
          refine ⟨_, s2 _ _ a1, ?_, ?_, fun b o n e => ?_⟩
          · rw [List.length_map, List.length_map, List.length_take]
            exact small64 (by omega)
          · rw [upd_same, List.take_add_one, e1, List.map_append, List.map_append]
            rfl
          · rw [upd_ne n]
            exact s2 _ _ (a2 b o n e)
        · rintro G ⟨a1, a2⟩
          have sG : Same H G := fun b o e => a2 b o (ne_of_none e nD) e
          rw [sl, List.take_length] at a1
          refine ⟨D, _, rfl, SqL.of a1, ?_⟩
          have es : ∀ ss : List Stp, (ss.map fun s => ((s.steps : Nat) : Int)).sum = ((stepsL ss : Nat) : Int) := fun ss => by
            induction ss with
            | nil => rfl
            | cons s ss ih =>
              rw [List.map_cons, List.sum_cons, ih]
              simp only [stepsL]
              omega
          rw [es]
          refine ⟨_, _, rfl, rfl, ?_⟩
          have z := q G sG
          have e : (1 : Int) + ((stepsL ss : Nat) : Int) = ((1 + stepsL ss : Nat) : Int) := by omega
          show Q (V.int ((1 : Int) + ((stepsL ss : Nat) : Int))) G
          rw [e]
          exact z
end
end KS
namespace KS
open PySem PySem.Spec PyProof.Rows L2 RZ
theorem cut22 {R : L2.St → Hp → Prop} {Pm : L2.St → Hp → Prop} {goal : Prop} (main : (∀ σ' H', Pm σ' H' → R σ' H') → goal) (fin : ∀ σ' H', Pm σ' H' → R σ' H') : goal := main fin
theorem sts_kx {K : PySem.W.Frag} {p : Addr} {H H' : Hp} (po : PoolO (H p)) (k : KeepX p H H') {xs : List V} {ss : List Stp} (h : StsA K H xs ss) : StsA K H' xs ss := h.kt (.of_keepX po k)
theorem len_steps : ∀ ss : List Stp, ss.length ≤ stepsL ss
  | [] => Nat.le_refl _
  | s :: ss => by
    have := len_steps ss
    have := steps_pos s
    simp only [stepsL, List.length_cons]
    omega
def spLPrG (K : PySem.W.Frag) (m : Nat) : Sp := fun xs H Q _ => ∃ (p : Addr) (d : Nat) (most : Nat) (sml : Bool), xs = [.ref p, .int (d : Nat), .int (most : Nat), .bl sml] ∧ PoolO (H p) ∧ 1 ≤ d ∧ d ≤ m + 1 ∧ d ≤ 5 ∧ most ≤ 60 ∧
  ∀ H' t ss, KeepX p H H' → PoolO (H' p) → PgA K H' t ss → okL ss → nestL ss ≤ d - 1 → stepsL ss ≤ most → Q (.ref t) H'
section
variable {P : Program} {w : World} {K : PySem.W.Frag} {mg : Str → Option Value} {base : Heap}
theorem ok_lprogG {f fD fT fW fS : Addr} {fd fdD fdT fdW fdS : FuncData} (F : Fun K "_law_program" "_law_program" sLProg f fd) (bP : Binds K fd ["_law_pool_here", "_law_deep", "_law_most", "_law_small"] []) (gP : mg "_law_program" = some (.ref f)) (kP : PySem.W.keepIn K (.ref f) = true)
    (GD : FnOk P w K mg base CX0 1 fD fdD ["_law_pool_here", "_law_most"] spDraw) (bD : Binds K fdD ["_law_pool_here", "_law_most"] []) (gD : mg "_law_draw" = some (.ref fD)) (kD : PySem.W.keepIn K (.ref fD) = true)
    (GT : FnOk P w K mg base CX0 2 fT fdT ["_law_pool_here", "_law_small"] spTimes) (bT : Binds K fdT ["_law_pool_here", "_law_small"] []) (gT : mg "_law_times" = some (.ref fT)) (kT : PySem.W.keepIn K (.ref fT) = true)
    (GW : FnOk P w K mg base CX0 2 fW fdW ["_law_pool_here", "_law_most"] (spLWord K)) (bW : Binds K fdW ["_law_pool_here", "_law_most"] []) (gW : mg "_law_word" = some (.ref fW)) (kW : PySem.W.keepIn K (.ref fW) = true)
    (GS : FnOk P w K mg base CX0 5 fS fdS ["_law_step"] (spLSt K 4)) (bS : Binds K fdS ["_law_step"] []) (gS : mg "_law_steps" = some (.ref fS)) (kS : PySem.W.keepIn K (.ref fS) = true)
    (mT : mg "tuple" = none) : ∀ m, FnOk P w K mg base CX0 (m + 6) f fd ["_law_pool_here", "_law_deep", "_law_most", "_law_small"] (spLPrG K m) := by
  intro m
  induction m with
  | zero =>
    refine F.ok scLProg (fun vs H Q E h => ?_) (fun cdv A outer s H vs Q E hr h => ?_)
    · obtain ⟨p, d, most, sml, rfl, _⟩ := h
      rfl
    · obtain ⟨p, d, most, sml, rfl, po, d1, dm, d3, m12, q⟩ := h
      have nd := scLProg.nd
      have hr1 : Room 1 _ := hr.mono (by omega)
      have hr2 : Room 2 _ := hr.mono (by omega)
      have hr5 : Room 5 _ := hr.mono (by omega)
      refine ⟨_, pss_cons (ps_par (i := 4) (j := 5) (by rfl) nd rfl rfl (by decide) rfl rfl (pa_cons (pe_lst pa_nil) (pa_cons (pe_call GD hr1 (by rfl) gD kD bD .nil pass0 (pa_cons (pv 0) (pa_cons (pe_op op_add (pv 2) pe_int) pa_nil))) pa_nil)) (by rfl))
        (pss_cons (ps_while PassesOwn.never (pt_cmpR op_gt (pv 5) pe_int (nomark _))
          (pss_cons (ps_if (PW.pt (pw_and (pt_cmpR op_eq (pe_call GD hr1 (by rfl) gD kD bD .nil pass0 (pa_cons (pv 0) (pa_cons pe_int pa_nil))) pe_int (nomark _)) (pw_and1 (pt_cmpR op_gt (pv 1) pe_int (nomark _))))) (pss_one ps_never)
            (pss_one (ps_expr (pe_bm PySem.F.plainAttrs_list PySem.F.slot_list_append PySem.F.type_list_append mt_append (pv 4) (pa_cons (pe_op op_add_str (pe_ix ix_str pe_str (pe_call GD hr1 (by rfl) gD kD bD .nil pass0 (pa_cons (pv 0) (pa_cons pe_int pa_nil))) (fun _ _ => rfl)) (pe_call GW hr2 (by rfl) gW kW bW .nil pass0 (pa_cons (pv 0) (pa_cons (pe_ix ix_list (pe_lst (pa_cons pe_int (pa_cons pe_int (pa_cons pe_int pa_nil)))) (pe_call GD hr1 (by rfl) gD kD bD .nil pass0 (pa_cons (pv 0) (pa_cons pe_int pa_nil))) (fun _ _ => rfl)) pa_nil)))) pa_nil)))))
          (pss_one (ps_set (i := 5) nd rfl (.inl rfl) (pe_op op_sub (pv 5) (pe_call GS hr5 (by rfl) gS kS bS .nil pass0 (pa_cons (pe_ix ix_list (pv 4) (pe_un un_neg pe_int) (fun _ _ => rfl)) pa_nil)))))))
        (pss_one (ps_ret (pe_callTy call_tuple_of (by rfl) mT (by decide +kernel) (pa_cons (pv 4) pa_nil))))), ?_⟩
      refine ⟨by show 0 ≤ sizeLine; decide, fun L nL => ?_⟩
      have sL := same_new (o := .lst []) nL
      have hL0 : upd H L (.lst []) L = some (.lst []) := upd_same
      have nLp : L ≠ p := Ne.symm (po.ne nL)
      refine ⟨_, rfl, _, rfl, _, _, rfl, rfl, p, (most : Int) + 1, rfl, po.same sL, by omega, by omega, fun H2 r k2 po2 r0 r1 => ⟨_, _, rfl, ?_⟩⟩
      obtain ⟨rn, rfl⟩ := Int.eq_ofNat_of_zero_le r0
      have hL2 := k2 _ _ nLp hL0
      have kH2 : ∀ b o, b ≠ p → b ≠ L → H b = some o → H2 b = some o := fun b o n1 n2 e => k2 b o n1 (sL _ _ e)
      refine ⟨fun n σ G => ∃ (left : Nat) (xs : List V) (ss : List Stp), left = n ∧ σ = [some (.ref p), some (.int (d : Nat)), some (.int (most : Nat)), some (.bl sml), some (.ref L), some (.int (left : Nat))] ∧ PoolO (G p) ∧ G L = some (.lst xs) ∧ StsA K G xs ss ∧ okL ss ∧ nestL ss ≤ d - 1 ∧ stepsL ss + left ≤ most ∧ (∀ b o, b ≠ p → b ≠ L → H b = some o → G b = some o), ?_, ?_⟩
      · exact ⟨rn, rn, [], [], rfl, rfl, po2, hL2, .nil, trivial, by simp only [nestL]; omega, by simp only [stepsL]; omega, kH2⟩
      · rintro n σ G ⟨left, xs, ss, rfl, rfl, pog, hL, hs, ok, hn, hst, kG⟩
        refine ⟨_, rfl, _, _, rfl, rfl, ?_⟩
        by_cases c0 : 0 < left
        rotate_left
        · refine ⟨false, bl_false (show ¬ (left : Int) > 0 by omega), ?_⟩
          refine ⟨_, rfl, L, xs, rfl, .inl ⟨SqL.of hL, fun t nt => ?_⟩⟩
          have st := same_new (o := .tup xs) nt
          refine q _ t ss (fun b o n e => st _ _ (kG b o n (ne_of_none e nL) e)) (pog.same st) ⟨xs, SqT.of upd_same, hs.kt (.of_same st)⟩ ok hn (by omega)
        refine ⟨true, bl_true (show (left : Int) > 0 by omega), fun σ' G' => ∃ n', n' < left ∧ ∃ (left : Nat) (xs : List V) (ss : List Stp), left = n' ∧ σ' = [some (.ref p), some (.int (d : Nat)), some (.int (most : Nat)), some (.bl sml), some (.ref L), some (.int (left : Nat))] ∧ PoolO (G' p) ∧ G' L = some (.lst xs) ∧ StsA K G' xs ss ∧ okL ss ∧ nestL ss ≤ d - 1 ∧ stepsL ss + left ≤ most ∧ (∀ b o, b ≠ p → b ≠ L → H b = some o → G' b = some o), fun σ' G' z => z, ?_⟩
        refine' cut22 (Pm := fun σ' H' => ∃ (x : V) (s1 : Stp), σ' = [some (.ref p), some (.int (d : Nat)), some (.int (most : Nat)), some (.bl sml), some (.ref L), some (.int (left : Nat))] ∧ PoolO (H' p) ∧ H' L = some (.lst (xs ++ [x])) ∧ StsA K H' xs ss ∧ StA K H' x s1 ∧ s1.ok ∧ s1.nest ≤ d - 1 ∧ s1.steps ≤ left ∧ (∀ b o, b ≠ p → b ≠ L → G b = some o → H' b = some o)) (fun fin => ?_) ?_
        rotate_left
        · refine ⟨_, rfl, p, 4, rfl, pog, by decide, by decide, fun G1 r1 k1 po1 r10 r11 => ?_⟩
          refine ⟨rfl, _, rfl, ite2 (fun e => ?_) (fun e => ?_)⟩
          · refine ⟨_, rfl, _, _, rfl, rfl, false, bl_false (show ¬ (d : Int) > 1 by omega), ?_⟩
            refine ⟨_, rfl, .inl ⟨rfl, _, SqL.of (k1 _ _ nLp hL)⟩, ?_⟩
            refine ⟨_, rfl, p, 2, rfl, po1, by decide, by decide, fun G2 r2 k2 po2 r20 r21 => ?_⟩
            obtain ⟨b, hb⟩ : ∃ b : Bool, atI ("RC" : Str).cps.toList r2 = some (ltr b) := by
              have : r2 = 0 ∨ r2 = 1 := by omega
              rcases this with rfl | rfl
              · exact ⟨false, by decide +kernel⟩
              · exact ⟨true, by decide +kernel⟩
            refine ⟨_, r2, ltr b, rfl, rfl, by decide, hb, _, rfl, by show 3 ≤ sizeLine; decide, fun M nM => ?_⟩
            have sM := same_new (o := .lst [.int 0, .int 3, .int 5]) nM
            have nMp : M ≠ p := Ne.symm (po2.ne nM)
            refine ⟨_, rfl, p, 3, rfl, po2.same sM, by decide, by decide, fun G3 r3 k3 po3 r30 r31 => ?_⟩
            obtain ⟨mm, hm5, hat⟩ : ∃ mm : Nat, mm ≤ 5 ∧ atI ([.int 0, .int 3, .int 5] : List V) r3 = some (.int (mm : Nat)) := by
              have : r3 = 0 ∨ r3 = 1 ∨ r3 = 2 := by omega
              rcases this with rfl | rfl | rfl
              · exact ⟨0, by decide, rfl⟩
              · exact ⟨3, by decide, rfl⟩
              · exact ⟨5, by decide, rfl⟩
            refine ⟨M, _, r3, .int (mm : Nat), rfl, rfl, SqL.of (k3 _ _ nMp upd_same), hat, p, mm, rfl, po3, by omega, fun G4 l k4 po4 ll => ?_⟩
            have kx := (((k1.trans k2).trans (.of_same sM)).trans k3).trans k4
            have hL4 := kx _ _ nLp hL
            refine ⟨_, _, rfl, rfl, by show (wS [b]).length + (wS l).length ≤ sizeLine; rw [wS_len, wS_len, sizeLine_eq]; show 1 + l.length ≤ _; omega, L, _, _, rfl, rfl, hL4, by rw [hs.len]; have := len_steps ss; exact small64 (by omega), ?_⟩
            have ex : V.str ((⟨#[ltr b]⟩ : Str) ++ wS l) = V.str (wS (b :: l)) := congrArg V.str (wS_app [b] l)
            rw [ex]
            try dsimp only []
            refine fin _ _ ⟨V.str (wS (b :: l)), .w (b :: l), rfl, ?_, upd_same, ?_, .w _, ?_, ?_, ?_, fun c o n1 n2 e => ?_⟩
            · rw [upd_ne (Ne.symm nLp)]
              exact po4
            · exact (sts_kx pog kx hs).kt (KT.upd hL4)
            · simp only [Stp.ok, List.length_cons]
              exact ⟨List.cons_ne_nil _ _, by omega⟩
            · simp only [Stp.nest]
              omega
            · simp only [Stp.steps]
              omega
            · rw [upd_ne n2]
              exact kx c o n1 e
          · skip
            refine ⟨_, rfl, .inl ⟨rfl, _, SqL.of (k1 _ _ nLp hL)⟩, ?_⟩
            refine ⟨_, rfl, p, 2, rfl, po1, by decide, by decide, fun G2 r2 k2 po2 r20 r21 => ?_⟩
            obtain ⟨b, hb⟩ : ∃ b : Bool, atI ("RC" : Str).cps.toList r2 = some (ltr b) := by
              have : r2 = 0 ∨ r2 = 1 := by omega
              rcases this with rfl | rfl
              · exact ⟨false, by decide +kernel⟩
              · exact ⟨true, by decide +kernel⟩
            refine ⟨_, r2, ltr b, rfl, rfl, by decide, hb, _, rfl, by show 3 ≤ sizeLine; decide, fun M nM => ?_⟩
            have sM := same_new (o := .lst [.int 0, .int 3, .int 5]) nM
            have nMp : M ≠ p := Ne.symm (po2.ne nM)
            refine ⟨_, rfl, p, 3, rfl, po2.same sM, by decide, by decide, fun G3 r3 k3 po3 r30 r31 => ?_⟩
            obtain ⟨mm, hm5, hat⟩ : ∃ mm : Nat, mm ≤ 5 ∧ atI ([.int 0, .int 3, .int 5] : List V) r3 = some (.int (mm : Nat)) := by
              have : r3 = 0 ∨ r3 = 1 ∨ r3 = 2 := by omega
              rcases this with rfl | rfl | rfl
              · exact ⟨0, by decide, rfl⟩
              · exact ⟨3, by decide, rfl⟩
              · exact ⟨5, by decide, rfl⟩
            refine ⟨M, _, r3, .int (mm : Nat), rfl, rfl, SqL.of (k3 _ _ nMp upd_same), hat, p, mm, rfl, po3, by omega, fun G4 l k4 po4 ll => ?_⟩
            have kx := (((k1.trans k2).trans (.of_same sM)).trans k3).trans k4
            have hL4 := kx _ _ nLp hL
            refine ⟨_, _, rfl, rfl, by show (wS [b]).length + (wS l).length ≤ sizeLine; rw [wS_len, wS_len, sizeLine_eq]; show 1 + l.length ≤ _; omega, L, _, _, rfl, rfl, hL4, by rw [hs.len]; have := len_steps ss; exact small64 (by omega), ?_⟩
            have ex : V.str ((⟨#[ltr b]⟩ : Str) ++ wS l) = V.str (wS (b :: l)) := congrArg V.str (wS_app [b] l)
            rw [ex]
            try dsimp only []
            refine fin _ _ ⟨V.str (wS (b :: l)), .w (b :: l), rfl, ?_, upd_same, ?_, .w _, ?_, ?_, ?_, fun c o n1 n2 e => ?_⟩
            · rw [upd_ne (Ne.symm nLp)]
              exact po4
            · exact (sts_kx pog kx hs).kt (KT.upd hL4)
            · simp only [Stp.ok, List.length_cons]
              exact ⟨List.cons_ne_nil _ _, by omega⟩
            · simp only [Stp.nest]
              omega
            · simp only [Stp.steps]
              omega
            · rw [upd_ne n2]
              exact kx c o n1 e
        · rintro σ' G5 ⟨x, s1, rfl, po5, hL5, hs5, hx5, ok1, ne1, st1, k5⟩
          have sp := steps_pos s1
          refine ⟨_, rfl, _, rfl, _, rfl, L, _, -1, x, rfl, rfl, SqL.of hL5, last_at, x, s1, rfl, hx5, by omega, by omega, fun G6 s6 => ?_⟩
          refine ⟨_, _, rfl, rfl, ?_⟩
          have el : ((left : Int) - ((s1.steps : Nat) : Int)) = ((left - s1.steps : Nat) : Int) := by omega
          refine ⟨left - s1.steps, by omega, left - s1.steps, xs ++ [x], ss ++ [s1], rfl, ?_, po5.same s6, s6 _ _ hL5, (hs5.app (.cons hx5 .nil)).kt (.of_same s6), okL_app.mpr ⟨ok, ok1, trivial⟩, ?_, ?_, fun b o n1 n2 e => s6 _ _ (k5 b o n1 n2 (kG b o n1 n2 e))⟩
          · exact congrArg (fun z => [some (V.ref p), some (V.int (d : Nat)), some (V.int (most : Nat)), some (V.bl sml), some (V.ref L), some (V.int z)]) el
          · rw [nestL_app]
            simp only [nestL]
            omega
          · rw [stepsL_app]
            simp only [stepsL]
            omega
  | succ m ih =>
    refine F.ok scLProg (fun vs H Q E h => ?_) (fun cdv A outer s H vs Q E hr h => ?_)
    · obtain ⟨p, d, most, sml, rfl, _⟩ := h
      rfl
    · obtain ⟨p, d, most, sml, rfl, po, d1, dm, d3, m12, q⟩ := h
      have nd := scLProg.nd
      have hr1 : Room 1 _ := hr.mono (by omega)
      have hr2 : Room 2 _ := hr.mono (by omega)
      have hr5 : Room 5 _ := hr.mono (by omega)
      refine ⟨_, pss_cons (ps_par (i := 4) (j := 5) (by rfl) nd rfl rfl (by decide) rfl rfl (pa_cons (pe_lst pa_nil) (pa_cons (pe_call GD hr1 (by rfl) gD kD bD .nil pass0 (pa_cons (pv 0) (pa_cons (pe_op op_add (pv 2) pe_int) pa_nil))) pa_nil)) (by rfl))
        (pss_cons (ps_while PassesOwn.never (pt_cmpR op_gt (pv 5) pe_int (nomark _))
          (pss_cons (ps_if (PW.pt (pw_and (pt_cmpR op_eq (pe_call GD hr1 (by rfl) gD kD bD .nil pass0 (pa_cons (pv 0) (pa_cons pe_int pa_nil))) pe_int (nomark _)) (pw_and1 (pt_cmpR op_gt (pv 1) pe_int (nomark _))))) (pss_one (ps_expr (pe_bm PySem.F.plainAttrs_list PySem.F.slot_list_append PySem.F.type_list_append mt_append (pv 4) (pa_cons (pe_tup (pa_cons pe_str (pa_cons (pe_call GT hr2 (by rfl) gT kT bT .nil pass0 (pa_cons (pv 0) (pa_cons (pv 3) pa_nil))) (pa_cons (pe_call ih hr (by rfl) gP kP bP .nil pass0 (pa_cons (pv 0) (pa_cons (pe_op op_sub (pv 1) pe_int) (pa_cons (pe_op op_sub (pv 5) pe_int) (pa_cons (pv 3) pa_nil))))) pa_nil)))) pa_nil))))
            (pss_one (ps_expr (pe_bm PySem.F.plainAttrs_list PySem.F.slot_list_append PySem.F.type_list_append mt_append (pv 4) (pa_cons (pe_op op_add_str (pe_ix ix_str pe_str (pe_call GD hr1 (by rfl) gD kD bD .nil pass0 (pa_cons (pv 0) (pa_cons pe_int pa_nil))) (fun _ _ => rfl)) (pe_call GW hr2 (by rfl) gW kW bW .nil pass0 (pa_cons (pv 0) (pa_cons (pe_ix ix_list (pe_lst (pa_cons pe_int (pa_cons pe_int (pa_cons pe_int pa_nil)))) (pe_call GD hr1 (by rfl) gD kD bD .nil pass0 (pa_cons (pv 0) (pa_cons pe_int pa_nil))) (fun _ _ => rfl)) pa_nil)))) pa_nil)))))
          (pss_one (ps_set (i := 5) nd rfl (.inl rfl) (pe_op op_sub (pv 5) (pe_call GS hr5 (by rfl) gS kS bS .nil pass0 (pa_cons (pe_ix ix_list (pv 4) (pe_un un_neg pe_int) (fun _ _ => rfl)) pa_nil)))))))
        (pss_one (ps_ret (pe_callTy call_tuple_of (by rfl) mT (by decide +kernel) (pa_cons (pv 4) pa_nil))))), ?_⟩
      refine ⟨by show 0 ≤ sizeLine; decide, fun L nL => ?_⟩
      have sL := same_new (o := .lst []) nL
      have hL0 : upd H L (.lst []) L = some (.lst []) := upd_same
      have nLp : L ≠ p := Ne.symm (po.ne nL)
      refine ⟨_, rfl, _, rfl, _, _, rfl, rfl, p, (most : Int) + 1, rfl, po.same sL, by omega, by omega, fun H2 r k2 po2 r0 r1 => ⟨_, _, rfl, ?_⟩⟩
      obtain ⟨rn, rfl⟩ := Int.eq_ofNat_of_zero_le r0
      have hL2 := k2 _ _ nLp hL0
      have kH2 : ∀ b o, b ≠ p → b ≠ L → H b = some o → H2 b = some o := fun b o n1 n2 e => k2 b o n1 (sL _ _ e)
      refine ⟨fun n σ G => ∃ (left : Nat) (xs : List V) (ss : List Stp), left = n ∧ σ = [some (.ref p), some (.int (d : Nat)), some (.int (most : Nat)), some (.bl sml), some (.ref L), some (.int (left : Nat))] ∧ PoolO (G p) ∧ G L = some (.lst xs) ∧ StsA K G xs ss ∧ okL ss ∧ nestL ss ≤ d - 1 ∧ stepsL ss + left ≤ most ∧ (∀ b o, b ≠ p → b ≠ L → H b = some o → G b = some o), ?_, ?_⟩
      · exact ⟨rn, rn, [], [], rfl, rfl, po2, hL2, .nil, trivial, by simp only [nestL]; omega, by simp only [stepsL]; omega, kH2⟩
      · rintro n σ G ⟨left, xs, ss, rfl, rfl, pog, hL, hs, ok, hn, hst, kG⟩
        refine ⟨_, rfl, _, _, rfl, rfl, ?_⟩
        by_cases c0 : 0 < left
        rotate_left
        · refine ⟨false, bl_false (show ¬ (left : Int) > 0 by omega), ?_⟩
          refine ⟨_, rfl, L, xs, rfl, .inl ⟨SqL.of hL, fun t nt => ?_⟩⟩
          have st := same_new (o := .tup xs) nt
          refine q _ t ss (fun b o n e => st _ _ (kG b o n (ne_of_none e nL) e)) (pog.same st) ⟨xs, SqT.of upd_same, hs.kt (.of_same st)⟩ ok hn (by omega)
        refine ⟨true, bl_true (show (left : Int) > 0 by omega), fun σ' G' => ∃ n', n' < left ∧ ∃ (left : Nat) (xs : List V) (ss : List Stp), left = n' ∧ σ' = [some (.ref p), some (.int (d : Nat)), some (.int (most : Nat)), some (.bl sml), some (.ref L), some (.int (left : Nat))] ∧ PoolO (G' p) ∧ G' L = some (.lst xs) ∧ StsA K G' xs ss ∧ okL ss ∧ nestL ss ≤ d - 1 ∧ stepsL ss + left ≤ most ∧ (∀ b o, b ≠ p → b ≠ L → H b = some o → G' b = some o), fun σ' G' z => z, ?_⟩
        refine' cut22 (Pm := fun σ' H' => ∃ (x : V) (s1 : Stp), σ' = [some (.ref p), some (.int (d : Nat)), some (.int (most : Nat)), some (.bl sml), some (.ref L), some (.int (left : Nat))] ∧ PoolO (H' p) ∧ H' L = some (.lst (xs ++ [x])) ∧ StsA K H' xs ss ∧ StA K H' x s1 ∧ s1.ok ∧ s1.nest ≤ d - 1 ∧ s1.steps ≤ left ∧ (∀ b o, b ≠ p → b ≠ L → G b = some o → H' b = some o)) (fun fin => ?_) ?_
        rotate_left
        · refine ⟨_, rfl, p, 4, rfl, pog, by decide, by decide, fun G1 r1 k1 po1 r10 r11 => ?_⟩
          refine ⟨rfl, _, rfl, ite2 (fun e => ?_) (fun e => ?_)⟩
          · by_cases c1 : 1 < d
            · refine ⟨_, rfl, _, _, rfl, rfl, true, bl_true (show (d : Int) > 1 by omega), ?_⟩
              refine ⟨_, rfl, .inl ⟨rfl, _, SqL.of (k1 _ _ nLp hL)⟩, ?_⟩
              refine ⟨_, rfl, _, rfl, p, sml, rfl, po1, fun G2 n k2 po2 n1 n30 _ => ?_⟩
              have e1 : ((d : Int) - 1) = ((d - 1 : Nat) : Int) := by omega
              have e2 : ((left : Int) - 1) = ((left - 1 : Nat) : Int) := by omega
              refine ⟨_, rfl, _, rfl, _, _, rfl, rfl, _, rfl, _, _, rfl, rfl, _, rfl, p, d - 1, left - 1, sml, ?_, po2, by omega, by omega, by omega, by omega, fun G3 t3 ss3 k3 po3 hp3 ok3 ne3 st3 => ?_⟩
              · show [V.ref p, V.int ((d : Int) - 1), V.int ((left : Int) - 1), V.bl sml] = _
                rw [e1, e2]
              refine ⟨by show 3 ≤ sizeLine; decide, fun T nT => ?_⟩
              have sT := same_new (o := .tup [.str "repeat", .int n, .ref t3]) nT
              have kx := ((k1.trans k2).trans k3).trans (.of_same sT)
              have hL4 := kx _ _ nLp hL
              have hT : upd G3 T (.tup [.str "repeat", .int n, .ref t3]) T = some (.tup [.str "repeat", .int n, .ref t3]) := upd_same
              have hp4 := hp3.kt (.of_same sT)
              have po4 := po3.same sT
              generalize upd G3 T (.tup [.str "repeat", .int n, .ref t3]) = G4 at sT kx hL4 hT hp4 po4
              refine ⟨L, _, _, rfl, rfl, hL4, by rw [hs.len]; have := len_steps ss; exact small64 (by omega), ?_⟩
              obtain ⟨ys, hy1, hy2⟩ := hp4
              have ku : KT K G4 (upd G4 L (.lst (xs ++ [.ref T]))) := KT.upd hL4
              try dsimp only []
              refine fin _ _ ⟨.ref T, .r n ss3, rfl, ?_, upd_same, ?_, .r (ku _ _ (SqT.of hT)) (ku _ _ hy1) (hy2.kt ku), ?_, ?_, ?_, fun c o n1 n2 e => ?_⟩
              · rw [upd_ne (Ne.symm nLp)]
                exact po4
              · exact (sts_kx pog kx hs).kt ku
              · simp only [Stp.ok]
                exact ⟨n1, n30, ok3⟩
              · simp only [Stp.nest]
                omega
              · simp only [Stp.steps]
                omega
              · rw [upd_ne n2]
                exact kx c o n1 e
            · refine ⟨_, rfl, _, _, rfl, rfl, false, bl_false (show ¬ (d : Int) > 1 by omega), ?_⟩
              refine ⟨_, rfl, .inl ⟨rfl, _, SqL.of (k1 _ _ nLp hL)⟩, ?_⟩
              refine ⟨_, rfl, p, 2, rfl, po1, by decide, by decide, fun G2 r2 k2 po2 r20 r21 => ?_⟩
              obtain ⟨b, hb⟩ : ∃ b : Bool, atI ("RC" : Str).cps.toList r2 = some (ltr b) := by
                have : r2 = 0 ∨ r2 = 1 := by omega
                rcases this with rfl | rfl
                · exact ⟨false, by decide +kernel⟩
                · exact ⟨true, by decide +kernel⟩
              refine ⟨_, r2, ltr b, rfl, rfl, by decide, hb, _, rfl, by show 3 ≤ sizeLine; decide, fun M nM => ?_⟩
              have sM := same_new (o := .lst [.int 0, .int 3, .int 5]) nM
              have nMp : M ≠ p := Ne.symm (po2.ne nM)
              refine ⟨_, rfl, p, 3, rfl, po2.same sM, by decide, by decide, fun G3 r3 k3 po3 r30 r31 => ?_⟩
              obtain ⟨mm, hm5, hat⟩ : ∃ mm : Nat, mm ≤ 5 ∧ atI ([.int 0, .int 3, .int 5] : List V) r3 = some (.int (mm : Nat)) := by
                have : r3 = 0 ∨ r3 = 1 ∨ r3 = 2 := by omega
                rcases this with rfl | rfl | rfl
                · exact ⟨0, by decide, rfl⟩
                · exact ⟨3, by decide, rfl⟩
                · exact ⟨5, by decide, rfl⟩
              refine ⟨M, _, r3, .int (mm : Nat), rfl, rfl, SqL.of (k3 _ _ nMp upd_same), hat, p, mm, rfl, po3, by omega, fun G4 l k4 po4 ll => ?_⟩
              have kx := (((k1.trans k2).trans (.of_same sM)).trans k3).trans k4
              have hL4 := kx _ _ nLp hL
              refine ⟨_, _, rfl, rfl, by show (wS [b]).length + (wS l).length ≤ sizeLine; rw [wS_len, wS_len, sizeLine_eq]; show 1 + l.length ≤ _; omega, L, _, _, rfl, rfl, hL4, by rw [hs.len]; have := len_steps ss; exact small64 (by omega), ?_⟩
              have ex : V.str ((⟨#[ltr b]⟩ : Str) ++ wS l) = V.str (wS (b :: l)) := congrArg V.str (wS_app [b] l)
              rw [ex]
              try dsimp only []
              refine fin _ _ ⟨V.str (wS (b :: l)), .w (b :: l), rfl, ?_, upd_same, ?_, .w _, ?_, ?_, ?_, fun c o n1 n2 e => ?_⟩
              · rw [upd_ne (Ne.symm nLp)]
                exact po4
              · exact (sts_kx pog kx hs).kt (KT.upd hL4)
              · simp only [Stp.ok, List.length_cons]
                exact ⟨List.cons_ne_nil _ _, by omega⟩
              · simp only [Stp.nest]
                omega
              · simp only [Stp.steps]
                omega
              · rw [upd_ne n2]
                exact kx c o n1 e
          · skip
            refine ⟨_, rfl, .inl ⟨rfl, _, SqL.of (k1 _ _ nLp hL)⟩, ?_⟩
            refine ⟨_, rfl, p, 2, rfl, po1, by decide, by decide, fun G2 r2 k2 po2 r20 r21 => ?_⟩
            obtain ⟨b, hb⟩ : ∃ b : Bool, atI ("RC" : Str).cps.toList r2 = some (ltr b) := by
              have : r2 = 0 ∨ r2 = 1 := by omega
              rcases this with rfl | rfl
              · exact ⟨false, by decide +kernel⟩
              · exact ⟨true, by decide +kernel⟩
            refine ⟨_, r2, ltr b, rfl, rfl, by decide, hb, _, rfl, by show 3 ≤ sizeLine; decide, fun M nM => ?_⟩
            have sM := same_new (o := .lst [.int 0, .int 3, .int 5]) nM
            have nMp : M ≠ p := Ne.symm (po2.ne nM)
            refine ⟨_, rfl, p, 3, rfl, po2.same sM, by decide, by decide, fun G3 r3 k3 po3 r30 r31 => ?_⟩
            obtain ⟨mm, hm5, hat⟩ : ∃ mm : Nat, mm ≤ 5 ∧ atI ([.int 0, .int 3, .int 5] : List V) r3 = some (.int (mm : Nat)) := by
              have : r3 = 0 ∨ r3 = 1 ∨ r3 = 2 := by omega
              rcases this with rfl | rfl | rfl
              · exact ⟨0, by decide, rfl⟩
              · exact ⟨3, by decide, rfl⟩
              · exact ⟨5, by decide, rfl⟩
            refine ⟨M, _, r3, .int (mm : Nat), rfl, rfl, SqL.of (k3 _ _ nMp upd_same), hat, p, mm, rfl, po3, by omega, fun G4 l k4 po4 ll => ?_⟩
            have kx := (((k1.trans k2).trans (.of_same sM)).trans k3).trans k4
            have hL4 := kx _ _ nLp hL
            refine ⟨_, _, rfl, rfl, by show (wS [b]).length + (wS l).length ≤ sizeLine; rw [wS_len, wS_len, sizeLine_eq]; show 1 + l.length ≤ _; omega, L, _, _, rfl, rfl, hL4, by rw [hs.len]; have := len_steps ss; exact small64 (by omega), ?_⟩
            have ex : V.str ((⟨#[ltr b]⟩ : Str) ++ wS l) = V.str (wS (b :: l)) := congrArg V.str (wS_app [b] l)
            rw [ex]
            try dsimp only []
            refine fin _ _ ⟨V.str (wS (b :: l)), .w (b :: l), rfl, ?_, upd_same, ?_, .w _, ?_, ?_, ?_, fun c o n1 n2 e => ?_⟩
            · rw [upd_ne (Ne.symm nLp)]
              exact po4
            · exact (sts_kx pog kx hs).kt (KT.upd hL4)
            · simp only [Stp.ok, List.length_cons]
              exact ⟨List.cons_ne_nil _ _, by omega⟩
            · simp only [Stp.nest]
              omega
            · simp only [Stp.steps]
              omega
            · rw [upd_ne n2]
              exact kx c o n1 e
        · rintro σ' G5 ⟨x, s1, rfl, po5, hL5, hs5, hx5, ok1, ne1, st1, k5⟩
          have sp := steps_pos s1
          refine ⟨_, rfl, _, rfl, _, rfl, L, _, -1, x, rfl, rfl, SqL.of hL5, last_at, x, s1, rfl, hx5, by omega, by omega, fun G6 s6 => ?_⟩
          refine ⟨_, _, rfl, rfl, ?_⟩
          have el : ((left : Int) - ((s1.steps : Nat) : Int)) = ((left - s1.steps : Nat) : Int) := by omega
          refine ⟨left - s1.steps, by omega, left - s1.steps, xs ++ [x], ss ++ [s1], rfl, ?_, po5.same s6, s6 _ _ hL5, (hs5.app (.cons hx5 .nil)).kt (.of_same s6), okL_app.mpr ⟨ok, ok1, trivial⟩, ?_, ?_, fun b o n1 n2 e => s6 _ _ (k5 b o n1 n2 (kG b o n1 n2 e))⟩
          · exact congrArg (fun z => [some (V.ref p), some (V.int (d : Nat)), some (V.int (most : Nat)), some (V.bl sml), some (V.ref L), some (V.int z)]) el
          · rw [nestL_app]
            simp only [nestL]
            omega
          · rw [stepsL_app]
            simp only [stepsL]
            omega
end
end KS
-- topS
namespace KS
open PySem PySem.Spec PyProof.Rows L2 TL
/-! ### texts and programs shown twice -/
mutual
theorem tk_sm : ∀ s : Stp, s.ok → ∀ p ∈ tkS s.tks, ∀ c ∈ tl p, c < 128
  | .w l, h => by
    simp only [Stp.tks]
    intro p hp c hc
    have : p = wS l := List.mem_singleton.mp hp
    subst this
    have hc' : c ∈ (l.map ltr).toArray.toList := hc
    rw [List.toList_toArray] at hc'
    obtain ⟨b, _, rfl⟩ := List.mem_map.mp hc'
    cases b <;> decide
  | .r n b, h => by
    simp only [Stp.ok] at h
    simp only [Stp.tks]
    intro p hp c hc
    have e : tkS (Tk.op :: (tksL b ++ [.cl n])) = Tk.op.str :: (tkS (tksL b) ++ [(Tk.cl n).str]) := by
      show Tk.op.str :: List.map Tk.str (tksL b ++ [.cl n]) = _
      rw [List.map_append]
      rfl
    rw [e] at hp
    rcases List.mem_cons.mp hp with rfl | hp
    · have : tl Tk.op.str = [40] := by decide +kernel
      rw [this] at hc
      rw [List.mem_singleton.mp hc]
      decide
    · rcases List.mem_append.mp hp with hp | hp
      · exact tkL_sm b h.2.2 p hp c hc
      · have : p = (Tk.cl n).str := List.mem_singleton.mp hp
        subst this
        rw [cl_tl (by omega)] at hc
        rcases List.mem_cons.mp hc with z | z
        · rw [z]; decide
        · rcases List.mem_cons.mp z with z | z
          · rw [z]; decide
          · have := numL_digits _ c z
            omega
theorem tkL_sm : ∀ b : List Stp, okL b → ∀ p ∈ tkS (tksL b), ∀ c ∈ tl p, c < 128
  | [], _ => by
    simp only [tksL]
    intro p hp
    cases hp
  | s :: b, h => by
    simp only [okL] at h
    simp only [tksL]
    intro p hp
    have e : tkS (s.tks ++ tksL b) = tkS s.tks ++ tkS (tksL b) := List.map_append
    rw [e] at hp
    rcases List.mem_append.mp hp with hp | hp
    · exact tk_sm s h.1 p hp
    · exact tkL_sm b h.2 p hp
end
theorem mem_joinL : ∀ (L : List (List Nat)) (c : Nat), c ∈ joinL [32] L → c = 32 ∨ ∃ p ∈ L, c ∈ p
  | [], c, h => by cases h
  | [p], c, h => .inr ⟨p, List.mem_singleton.mpr rfl, h⟩
  | p :: q :: r, c, h => by
    have h : c ∈ p ++ ([32] ++ joinL [32] (q :: r)) := h
    rcases List.mem_append.mp h with h | h
    · exact .inr ⟨p, List.mem_cons_self .., h⟩
    · rcases List.mem_append.mp h with h | h
      · exact .inl (List.mem_singleton.mp h)
      · rcases mem_joinL (q :: r) c h with z | ⟨x, hx, z⟩
        · exact .inl z
        · exact .inr ⟨x, List.mem_cons_of_mem _ hx, z⟩
theorem jn_sm (ss : List Stp) (ok : okL ss) : ∀ c ∈ (jn (tkS (tksL ss))).cps.toList, c < 16 ^ 8 := by
  intro c hc
  have hc : c ∈ tl (jn (tkS (tksL ss))) := hc
  rw [tl_jn] at hc
  have : c < 128 := by
    rcases mem_joinL _ c hc with z | ⟨p, hp, z⟩
    · rw [z]; decide
    · obtain ⟨x, hx, rfl⟩ := List.mem_map.mp hp
      exact tkL_sm ss ok x hx c z
  have e : (128 : Nat) < 16 ^ 8 := by decide
  omega
theorem shown_str2 {x : Str} (hc : ∀ c ∈ x.cps.toList, c < 16 ^ 8) (hl : x.length ≤ 50000) :
    PyData.showable (.list [.str x, .str x]) = true ∧ PyData.hasDict (.list [.str x, .str x]) = false ∧ (PyData.list [.str x, .str x]).shown.length ≤ sizeLine ∧ PyData.depth (.list [.str x, .str x]) ≤ 64 := by
  refine ⟨?_, ?_, ?_, ?_⟩
  · simp only [PyData.showable, PyData.showableAll, Bool.and_self]
  · simp only [PyData.hasDict, PyData.hasDictAll, Bool.or_self]
  · have h1 : PyData.leavesShort 160 (.str x) = true := by
      simp only [PyData.leavesShort]
      rw [List.all_eq_true]
      exact fun c h => decide_eq_true (hc c h)
    have hl' : PyData.leavesShort 160 (.list [.str x, .str x]) = true := by
      simp only [PyData.leavesShort, PyData.leavesShortAll, Bool.and_true]
      simp only [PyData.leavesShort] at h1
      rw [h1]
      rfl
    have := PyData.shown_le 160 (by decide) _ hl'
    have w : PyData.weight (.list [.str x, .str x]) = x.length + 1 + (x.length + 1 + 0) := by
      simp only [PyData.weight, PyData.weightAll]
      rfl
    rw [w] at this
    have e : sizeLine = 16777216 := by decide
    rw [e]
    omega
  · simp only [PyData.depth, PyData.depthAll]
    decide
theorem shown_texts (ss : List Stp) (ok : okL ss) (hst : stepsL ss ≤ 60) :
    PyData.showable (.list [.str (jn (tkS (tksL ss))), .str (jn (tkS (tksL ss)))]) = true ∧ PyData.hasDict (.list [.str (jn (tkS (tksL ss))), .str (jn (tkS (tksL ss)))]) = false ∧ (PyData.list [.str (jn (tkS (tksL ss))), .str (jn (tkS (tksL ss)))]).shown.length ≤ sizeLine ∧ PyData.depth (.list [.str (jn (tkS (tksL ss))), .str (jn (tkS (tksL ss)))]) ≤ 64 := by
  refine shown_str2 (jn_sm ss ok) ?_
  have := jn_len (tkS (tksL ss))
  have := wt_tksL ss ok
  omega
theorem shown_progs (ss : List Stp) (ok : okL ss) (hst : stepsL ss ≤ 60) (hn : nestL ss ≤ 6) :
    PyData.showable (.list [.tuple (datL ss), .tuple (datL ss)]) = true ∧ PyData.hasDict (.list [.tuple (datL ss), .tuple (datL ss)]) = false ∧ (PyData.list [.tuple (datL ss), .tuple (datL ss)]).shown.length ≤ sizeLine ∧ PyData.depth (.list [.tuple (datL ss), .tuple (datL ss)]) ≤ 64 := by
  have h3 := datL_shd ss ok
  refine ⟨?_, ?_, ?_, ?_⟩
  · simp only [PyData.showable, PyData.showableAll, h3.show_, Bool.and_self]
  · simp only [PyData.hasDict, PyData.hasDictAll, h3.nod, Bool.or_self]
  · have hl : PyData.leavesShort 160 (.list [.tuple (datL ss), .tuple (datL ss)]) = true := by
      simp only [PyData.leavesShort, PyData.leavesShortAll, h3.short, Bool.and_self]
    have := PyData.shown_le 160 (by decide) _ hl
    have w : PyData.weight (.list [.tuple (datL ss), .tuple (datL ss)]) = PyData.weightAll (datL ss) + 1 + (PyData.weightAll (datL ss) + 1 + 0) := by
      simp only [PyData.weight, PyData.weightAll]
    rw [w] at this
    have a3 := h3.wt
    have e : sizeLine = 16777216 := by decide
    rw [e]
    omega
  · have w : PyData.depth (.list [.tuple (datL ss), .tuple (datL ss)]) ≤ 1 + max (1 + PyData.depthAll (datL ss)) (1 + PyData.depthAll (datL ss)) := by
      simp only [PyData.depth, PyData.depthAll]
      omega
    have a3 := h3.dep
    omega
end KS
namespace KS
open PySem PySem.Spec PyProof.Rows L2 RZ TL
def spWrtn (K : PySem.W.Frag) (m : Nat) : Sp := fun xs H Q _ => ∃ (t : Addr) (ss : List Stp), xs = [.ref t] ∧ PgA K H t ss ∧ okL ss ∧ nestL ss ≤ m ∧ nestL ss ≤ 6 ∧ stepsL ss ≤ 60 ∧ ∀ H', Same H H' → Q (.str (jn (tkS (tksL ss)))) H'
def spTold24 (K : PySem.W.Frag) : Sp := fun xs H Q _ => ∃ (t : Addr) (ss : List Stp), xs = [.ref t] ∧ PgA K H t ss ∧ okL ss ∧ nestL ss ≤ 4 ∧ stepsL ss ≤ 60 ∧ ∀ H', Same H H' → Q (.bl true) H'
theorem flat_len (LL : List (List Str)) (h : ∀ l ∈ LL, l ≠ []) : LL.length ≤ wtS LL.flatten ∧ ((LL.map jn).map (·.length)).sum ≤ wtS LL.flatten := by
  induction LL with
  | nil => exact ⟨Nat.zero_le _, Nat.zero_le _⟩
  | cons l LL ih =>
    obtain ⟨i1, i2⟩ := ih fun x hx => h x (List.mem_cons_of_mem _ hx)
    have hl := h l (List.mem_cons_self ..)
    rw [List.flatten_cons, wtS_app, List.length_cons, List.map_cons, List.map_cons, List.sum_cons]
    have j := jn_len l
    have k := wtS_len l
    have p := List.length_pos_iff.mpr hl
    omega
theorem tksL_take {ss : List Stp} {i : Nat} {s : Stp} (h : ss[i]? = some s) : tksL (ss.take (i + 1)) = tksL (ss.take i) ++ s.tks := by
  rw [List.take_add_one, h, tksL_app]
  show _ ++ tksL [s] = _
  simp only [tksL]
  rw [List.append_nil]
theorem wt_take {ss : List Stp} (ok : okL ss) (i : Nat) : wtS (tkS (tksL (ss.take i))) ≤ 401 * stepsL ss := by
  have e := stepsL_app (ss.take i) (ss.drop i)
  rw [List.take_append_drop] at e
  have o := (okL_app (a := ss.take i) (b := ss.drop i)).mp (by rw [List.take_append_drop]; exact ok)
  have := wt_tksL _ o.1
  omega
theorem wS_ok (l : List Bool) : PyData.strOk (wS l) = true := by
  unfold PyData.strOk
  rw [← Array.all_toList, List.all_eq_true]
  intro c hc
  have hc' : c ∈ (l.map ltr).toArray.toList := hc
  rw [List.toList_toArray] at hc'
  obtain ⟨b, _, rfl⟩ := List.mem_map.mp hc'
  cases b <;> decide
theorem rep_ok : PyData.strOk "repeat" = true := by decide +kernel
mutual
theorem dat_lay : ∀ s : Stp, PyData.canLay0 s.dat = true
  | .w l => by
    simp only [Stp.dat, PyData.canLay0]
    exact wS_ok l
  | .r n b => by
    have := datL_lay b
    simp only [Stp.dat, PyData.canLay0, PyData.canLayAll0, Bool.and_self, Bool.and_true, this, rep_ok]
theorem datL_lay : ∀ b : List Stp, PyData.canLayAll0 (datL b) = true
  | [] => by simp only [datL, PyData.canLayAll0]
  | s :: b => by
    have i1 := dat_lay s
    have i2 := datL_lay b
    simp only [datL, PyData.canLayAll0, i1, i2, Bool.and_self]
end
theorem prog_shaped {ss : List Stp} (ok : okL ss) (hn : nestL ss ≤ 6) : SeqAt.shaped (.tuple (datL ss)) = true := by
  unfold SeqAt.shaped
  have := (datL_shd ss ok).dep
  have e : PyData.canLay0 (.tuple (datL ss)) = true := by
    simp only [PyData.canLay0]
    exact datL_lay ss
  rw [e, Bool.true_and]
  refine decide_eq_true ?_
  simp only [PyData.depth]
  omega
theorem emp_eqv (ss : List Stp) : PyData.eqv (.tuple (datL ss)) (.tuple []) = decide (ss = []) := by
  cases ss with
  | nil => simp only [datL]; rfl
  | cons s ss =>
    simp only [datL]
    rfl
abbrev nWrtn : List Str := ["_law_parts", "_law_found", "_law_step", "_law_inner"]
abbrev nToldR : List Str := ["_law_parts", "_law_due"]
/-- where the words written so far lie -/
structure Wn (K : PySem.W.Frag) (H G : Hp) (Fa : Addr) (L : List Tk) : Prop where
  sm : Same H G
  new : H Fa = none
  ex : ∃ LL : List (List Str), G Fa = some (.lst ((LL.map jn).map V.str)) ∧ (∀ l ∈ LL, l ≠ []) ∧ LL.flatten = tkS L
theorem Wn.same {K : PySem.W.Frag} {H G G' : Hp} {Fa : Addr} {L : List Tk} (h : Wn K H G Fa L) (s : Same G G') : Wn K H G' Fa L := by
  obtain ⟨LL, a, b, c⟩ := h.ex
  exact ⟨h.sm.trans s, h.new, LL, s _ _ a, b, c⟩
theorem none_of_same {H G : Hp} (s : Same H G) {a : Addr} (h : G a = none) : H a = none := by
  cases e : H a with
  | none => rfl
  | some o =>
    rw [s _ _ e] at h
    cases h
section
variable {P : Program} {w : World} {K : PySem.W.Frag} {mg : Str → Option Value} {base : Heap}
end
end KS
namespace KS
open PySem PySem.Spec PyProof.Rows L2
section
variable {X : Cx} {k : Nat} {f : Addr} {fd : FuncData} {ps : List Str} {sp : Sp} {x : Str} {p pos : Pos}
/-- f(), f a def with guards -/
theorem pe_callG0 (F : FnG X.prog X.w X.K X.mg X.base k f fd ps sp) (hr : Room k X.A) (hgd : X.A.guards = some []) (hg : Gl X x) (hm : X.mg x = some (.ref f)) (hk : PySem.W.keepIn X.K (.ref f) = true) (hb : Binds X.K fd ps [])
    (hdb : (x == ("__debug__" : Str)) = false := by decide) : PE X (.Call (.Name x p) [] [] pos) (tCall sp [] E0 tNil) := by
  refine ⟨fun pins s σ H Q I h => wpAny_Call_Name_kw (ld_glob I hg hm (PySem.W.callWith_K0 I.kIn hk ?_) hdb)⟩
  have q1 : sp [] H Q E0 := h
  have hl : ([] ++ [] : List Value).length = ps.length := F.len _ _ _ _ q1
  refine wpAny_call (codeAny_mono (F.run X.A X.stack s H ⟨[], []⟩ [] [] Q E0 hr hgd I.env0 (hb s [] I.kIn hl) .nil q1) fun z s' hq => ?_)
  cases z with
  | error e => cases hq
  | ok fl =>
    cases fl with
    | ret u => exact I.after hq
    | next => cases hq
    | brk => cases hq
    | cont => cases hq
end
/-- the numbers i, i - 1, .., j + 1 -/
def dnI (i j : Int) : List Int := (List.range (i - j).toNat).map fun (k : Nat) => i - (k : Int)
def tTupDn (ta : TA) : TE := fun σ H Q => ta σ H fun vs H1 => ∃ i j : Int, vs = [.int i, .int j, .int (-1)] ∧ 0 ≤ j ∧ j ≤ i ∧ i ≤ 1000 ∧ ∀ q, H1 q = none → Q (.ref q) (upd H1 q (.tup ((dnI i j).map V.int)))
theorem vals_dn {i j : Int} {acc : Array Value} (h : ItemsOf (fun k v => ∃ t, v = .int (i + k * (-1)) t) acc (i - j).toNat) : Vals ((dnI i j).map V.int) acc.toList := by
  have e : acc.toList.length = (i - j).toNat := by
    rw [Array.length_toList]
    exact h.1
  unfold dnI
  rw [List.map_map, ← e]
  refine vals_of_get acc.toList _ fun k u hk => ?_
  obtain ⟨t, rfl⟩ := h.2 k u (by rw [← hk, Array.getElem?_toList])
  refine ⟨t, ?_⟩
  have r : i + (k : Int) * (-1) = i - (k : Int) := by omega
  rw [r]
theorem pe_tupDn {X : Cx} {a b c : Expr} {ta : TA} {p p2 pos pos2 : Pos} (hc : X.calm = true) (hg : Gl X "tuple") (hm : X.mg "tuple" = none) (hg2 : Gl X "range") (hm2 : X.mg "range" = none) (ha : PA X [a, b, c] ta)
    (hs : starEach [a, b, c] X.env = (false, eval a X.env) :: starEach [b, c] X.env := by rfl) (hpl : (backTo pos2 (starEach [b, c] X.env)).any (·.1) = false := by rfl)
    (na : starEach [.Call (.Name "range" p2) [a, b, c] [] pos2] X.env = (false, eval (.Call (.Name "range" p2) [a, b, c] [] pos2) X.env) :: starEach [] X.env := by rfl) :
    PE X (.Call (.Name "tuple" p) [.Call (.Name "range" p2) [a, b, c] [] pos2] [] pos) (tTupDn ta) := by
  refine ⟨fun pins s σ H Q I h => Call_ (ld_blt I hg hm boot_tuple (PyProof.Rows.callWith_type1 (args_cons ?_ na) na))⟩
  refine Call_ (ld_blt I hg2 hm2 boot_range (PyProof.Rows.callWith_type1 (thn (ha.run pos2 pins s σ H _ I h) fun us s1 hh => ?_) hs hpl))
  obtain ⟨vs, H1, I1, r1, i, j, ev, j0, ij, i1, q⟩ := hh
  subst ev
  cases r1 with
  | cons r rr =>
    cases rr with
    | cons r' rr =>
      cases rr with
      | cons r'' rr =>
        cases rr
        obtain ⟨t, rfl⟩ := r
        obtain ⟨t', rfl⟩ := r'
        obtain ⟨t'', rfl⟩ := r''
        obtain ⟨c0, c1, c2, c3⟩ := RgC.neg (i := i) (j := j) (by omega) (by omega) (by omega) (by omega)
        refine call_range_3 c0 ?_ (.inl (PyProof.noPylong_small c1))
        refine args_nil ?_
        have I2 : Inv X pins σ H1 { s1 with heap := s1.heap.push { cls := .type "range", data := .fields #[.int i t, .int j t', .int (-1) t''] }, toks := s1.toks } := I1.kept fun b u e => Heap.get?_push_of_some _ e
        refine call_tuple_range (n := (i - j).toNat) (I2.ok.hd hc) (IsRange.new ..) c2 c3 (by omega) fun h' tk acc hk hi => ?_
        have I3 : Inv X pins σ H1 { s1 with heap := h', toks := tk } := I2.kept hk
        refine ⟨.ref h'.objs.size, upd H1 h'.objs.size (.tup ((dnI i j).map V.int)), I3.laid (t' := tk) (fun c o e => Heap.get?_push_of_some _ e) (Nat.le_refl _) (show ObjOk X.prog X.w _ _ _ (.tup ((dnI i j).map V.int)) from ⟨?_, acc.toList, vals_dn hi, ?_⟩), rfl, q _ (I3.hok.fresh (Nat.le_refl _))⟩
        · rw [List.length_map, sizeLine_eq]
          unfold dnI
          rw [List.length_map, List.length_range]
          omega
        · rw [Array.toArray_toList]
          exact IsTup.new _ _
end KS
namespace KS
open PySem PySem.Spec PyProof.Rows L2 RZ TL
def gd27 (ss : List Stp) : Prop := okL ss ∧ nestL ss ≤ 4 ∧ stepsL ss ≤ 60
abbrev txP (ss : List Stp) : Str := jn (tkS (tksL ss))
def sxP27 : List Stp := (List.replicate 60 [Stp.w (List.replicate 200 [true, false]).flatten]).flatten
theorem w400 : ((List.replicate 200 [true, false]).flatten : List Bool) ≠ [] ∧ ((List.replicate 200 [true, false]).flatten : List Bool).length ≤ 400 := by decide +kernel
theorem sxP27_gd : gd27 sxP27 := by
  refine ⟨okL_rep ?_ _, ?_, ?_⟩
  · simp only [okL, Stp.ok]
    exact ⟨w400, trivial⟩
  · have := nestL_rep (ss := [Stp.w (List.replicate 200 [true, false]).flatten]) 60
    have e : nestL [Stp.w (List.replicate 200 [true, false]).flatten] = 0 := by simp only [nestL, Stp.nest]; rfl
    unfold sxP27
    omega
  · unfold sxP27
    rw [stepsL_rep]
    simp only [stepsL, Stp.steps]
    decide
def allP (a b : List Stp) : List (List Stp) := [a, b, a ++ b, a ++ [.w [false]], [.r 1 b], sxP27, a.drop 1] ++ [[.r (10 ^ 30) b]]
theorem drop_gd {a : List Stp} (ok : okL a) (hn : nestL a ≤ 4) (hs : stepsL a ≤ 20) : gd27 (a.drop 1) := by
  cases a with
  | nil => exact ⟨trivial, Nat.zero_le _, Nat.zero_le _⟩
  | cons s a =>
    simp only [okL] at ok
    simp only [nestL] at hn
    simp only [stepsL] at hs
    have := steps_pos s
    exact ⟨ok.2, by show nestL a ≤ 4; omega, by show stepsL a ≤ 60; omega⟩
theorem allP_gd {a b : List Stp} (oa : okL a) (na : nestL a ≤ 4) (sa : stepsL a ≤ 20) (ob : okL b) (nb : nestL b ≤ 3) (sb : stepsL b ≤ 20) : ∀ ss ∈ allP a b, gd27 ss := by
  intro ss h
  simp only [allP, List.cons_append, List.nil_append, List.mem_cons, List.not_mem_nil, or_false] at h
  have one : okL [Stp.w [false]] := ⟨⟨by decide, by decide⟩, trivial⟩
  rcases h with rfl | rfl | rfl | rfl | rfl | rfl | rfl | rfl
  · exact ⟨oa, na, by omega⟩
  · exact ⟨ob, by omega, by omega⟩
  · exact ⟨okL_app.mpr ⟨oa, ob⟩, by rw [nestL_app]; omega, by rw [stepsL_app]; omega⟩
  · refine ⟨okL_app.mpr ⟨oa, one⟩, ?_, ?_⟩
    · rw [nestL_app]
      simp only [nestL, Stp.nest]
      omega
    · rw [stepsL_app]
      simp only [stepsL, Stp.steps]
      omega
  · refine ⟨⟨⟨by decide, by decide +kernel, ob⟩, trivial⟩, ?_, ?_⟩
    · simp only [nestL, Stp.nest]
      omega
    · simp only [stepsL, Stp.steps]
      omega
  · exact sxP27_gd
  · exact drop_gd oa na sa
  · refine ⟨⟨⟨by decide +kernel, Int.le_refl _, ob⟩, trivial⟩, ?_, ?_⟩
    · simp only [nestL, Stp.nest]
      omega
    · simp only [stepsL, Stp.steps]
      omega
theorem txt_app {a b : List Stp} (oa : okL a) (ob : okL b) : txP (a ++ b) = txP a ++ (if a ≠ [] ∧ b ≠ [] then (" " : Str) else "") ++ txP b := by
  refine ext_tl ?_
  have e0 : tl ("" : Str) = [] := by decide +kernel
  rw [tl_append, tl_append]
  show tl (jn (tkS (tksL (a ++ b)))) = tl (jn (tkS (tksL a))) ++ _ ++ tl (jn (tkS (tksL b)))
  rw [tl_jn, tl_jn, tl_jn, tksL_app]
  have em : tkS (tksL a ++ tksL b) = tkS (tksL a) ++ tkS (tksL b) := List.map_append
  rw [em, List.map_append]
  by_cases ha : a = []
  · subst ha
    rw [if_neg (fun z => z.1 rfl), e0]
    rfl
  · by_cases hb : b = []
    · subst hb
      rw [if_neg (fun z => z.2 rfl), e0]
      simp only [tksL]
      show joinL [32] (List.map tl (tkS (tksL a)) ++ []) = joinL [32] (List.map tl (tkS (tksL a))) ++ [] ++ []
      rw [List.append_nil, List.append_nil, List.append_nil]
    · rw [if_pos ⟨ha, hb⟩, tl_sp, joinL_app [32] _ _ (fun z => (jn_ne oa ha).2 (List.map_eq_nil_iff.mp z)) (fun z => (jn_ne ob hb).2 (List.map_eq_nil_iff.mp z)), List.append_assoc]
theorem pair_same {a b : List Stp} (oa : okL a) (ob : okL b) : decide (V.str (txP a) = V.str (txP b)) = PyData.eqv (.tuple (datL a)) (.tuple (datL b)) := by
  have e : PyData.eqv (.tuple (datL a)) (.tuple (datL b)) = PyData.eqvAll (datL a) (datL b) := by simp only [PyData.eqv]
  rw [e, Bool.eq_iff_iff, datL_eqv]
  constructor
  · intro h
    exact text_inj oa ob (V.str.inj (of_decide_eq_true h))
  · intro h
    rw [h]
    exact decide_eq_true rfl
theorem shown_prog1 (ss : List Stp) (ok : okL ss) (hst : stepsL ss ≤ 60) (hn : nestL ss ≤ 6) :
    PyData.showable (.tuple (datL ss)) = true ∧ PyData.hasDict (.tuple (datL ss)) = false ∧ (PyData.tuple (datL ss)).shown.length ≤ sizeLine ∧ PyData.depth (.tuple (datL ss)) ≤ 64 := by
  have h3 := datL_shd ss ok
  refine ⟨?_, ?_, ?_, ?_⟩
  · simp only [PyData.showable]
    exact h3.show_
  · simp only [PyData.hasDict]
    exact h3.nod
  · have hl : PyData.leavesShort 160 (.tuple (datL ss)) = true := by
      simp only [PyData.leavesShort]
      exact h3.short
    have := PyData.shown_le 160 (by decide) _ hl
    have w : PyData.weight (.tuple (datL ss)) = PyData.weightAll (datL ss) := by simp only [PyData.weight]
    rw [w] at this
    have a3 := h3.wt
    have e : sizeLine = 16777216 := by decide
    rw [e]
    omega
  · have a3 := h3.dep
    simp only [PyData.depth]
    omega
end KS
namespace KS
open PySem PySem.Spec PyProof.Rows L2 RZ TL
theorem catA_okP {K : PySem.W.Frag} {H : Hp} {Q : VK} {a b : Addr} {xs ys : List V} (ha : SqT K H a xs) (hb : SqT K H b ys) (hl : xs.length + ys.length ≤ 100000) (k : ∀ H' u, Same H H' → SqT K H' u (xs ++ ys) → Q (.ref u) H') : rCatA K (.ref a) (.ref b) H Q := by
  refine ⟨a, b, xs, ys, rfl, rfl, ha, hb, by rw [sizeLine_eq]; omega, fun e => ?_, fun e1 e2 => ?_, fun e1 e2 p np => ?_⟩
  · subst e
    exact k H b (Same.refl _) hb
  · subst e2
    exact k H a (Same.refl _) (by rw [List.append_nil]; exact ha)
  · exact k _ p (same_new np) (SqT.of upd_same)
theorem StsA.dropP {K : PySem.W.Frag} {H : Hp} : ∀ {vs : List V} {ss : List Stp}, StsA K H vs ss → StsA K H (vs.drop 1) (ss.drop 1)
  | _, _, .nil => .nil
  | _, _, .cons _ h => h
theorem slP {K : PySem.W.Frag} {H : Hp} {Q : VK} {a : Addr} {xs : List V} (ha : SqT K H a xs) (k : ∀ H' u, Same H H' → SqT K H' u (xs.drop 1) → Q (.ref u) H') : rSlA K (.ref a) (some 1) none H Q := by
  by_cases hn : 1 ≤ xs.length
  · exact slFrom_ok2 (n := 1) ha hn k
  · have e : xs = [] := List.eq_nil_of_length_eq_zero (by omega)
    subst e
    refine ⟨a, [], rfl, ha, fun _ => k H a (Same.refl _) ha, fun _ p np => k _ p (same_new np) (SqT.of ?_)⟩
    rw [upd_same]
    rfl
def rRepS0 : R2 := fun x y H Q => x = .str " " ∧ ∃ k : Bool, y = .int (if k then 1 else 0) ∧ Q (.str (if k then " " else "")) H
theorem op_repS0 {X : Cx} : OpR X (binaryOp .Mult) rRepS0 := by
  intro pins s σ H x y v u Q I rx ry h
  obtain ⟨rfl, k, rfl, q⟩ := h
  obtain ⟨t, rfl⟩ := rx
  obtain ⟨t', rfl⟩ := ry
  cases k with
  | false =>
    exact P.mul_str_none (by decide) (by decide) ⟨.str "", H, I.tok _, ⟨s.toks, congrArg (fun z => Value.str z s.toks) (by decide +kernel : Str.empty = ("" : Str))⟩, q⟩
  | true =>
    refine P.mul_str (by decide) (fun _ z => absurd z (by decide)) (fun _ z => absurd z (by decide)) ?_
    rw [if_neg (by decide), if_pos (by decide)]
    exact ⟨.str " ", H, I, ⟨_, rfl⟩, q⟩
abbrev sPrR : Stmt := topS 53
abbrev nPrR : List Str := ["_law_pool_here", "_law_parts", "_law_more", "_law_some", "_law_one", "_law_texts", "_law_k", "_law_told", "_law_gap", "_law_j"]
theorem scPrR : FnScope nPrR ["_law_pool_here"] (defScope sPrR) := ⟨rfl, rfl, rfl, by decide +kernel, rfl, by decide +kernel, by decide +kernel⟩
section
variable {P : Program} {w : World} {K : PySem.W.Frag} {mg : Str → Option Value} {base : Heap}
theorem ok_progsR {f fG fF fA : Addr} {fd fdG fdF fdA : FuncData} (F : Fun K "_law_programs_right" "_law_programs_right" sPrR f fd)
    (GG : FnOk P w K mg base CX0 10 fG fdG ["_law_pool_here", "_law_deep", "_law_most", "_law_small"] (spLPrG K 4)) (bG : Binds K fdG ["_law_pool_here", "_law_deep", "_law_most", "_law_small"] []) (gG : mg "_law_program" = some (.ref fG)) (kG : PySem.W.keepIn K (.ref fG) = true)
    (GA : FnOk P w K mg base CX0 12 fA fdA ["text"] (spParP K)) (bA : Binds K fdA ["text"] []) (gA : mg "parse_program" = some (.ref fA)) (kA : PySem.W.keepIn K (.ref fA) = true)
    (GF : FnOk P w K mg base CX0 11 fF fdF ["program"] (spFmtP K)) (bF : Binds K fdF ["program"] []) (gF : mg "format_program" = some (.ref fF)) (kF : PySem.W.keepIn K (.ref fF) = true)
    (me : mg "enumerate" = none) (mR : mg "repr" = none) (my : mg "any" = none) (mr : mg "range" = none) (ml : mg "len" = none) (mI : mg "int" = none) : FnG P w K mg base 13 f fd ["_law_pool_here"] spRightP := by
  refine okG F scPrR (fun vs H Q E h => ?_) (fun cdv A outer s H vs Q E hr hgd h => ?_)
  · obtain ⟨p, rfl, _⟩ := h
    rfl
  · obtain ⟨p, rfl, po, q⟩ := h
    have nd := scPrR.nd
    have hr10 : Room 10 _ := hr.mono (by omega)
    have hr11 : Room 11 _ := hr.mono (by omega)
    have hu : (A.deeper (envOfC "_law_programs_right" (defScope sPrR) s.heap.objs.size f cdv)).units + 100 < cLine := by
      have := hr.un
      omega
    refine ⟨_, pss_cons (ps_par (i := 1) (j := 2) (by rfl) nd rfl rfl (by decide) rfl rfl (pa_cons (pe_call GG hr10 (by rfl) gG kG bG .nil pass0 (pa_cons (pv 0) (pa_cons pe_int (pa_cons pe_int (pa_cons pe_bl pa_nil))))) (pa_cons (pe_call GG hr10 (by rfl) gG kG bG .nil pass0 (pa_cons (pv 0) (pa_cons pe_int (pa_cons pe_int (pa_cons pe_bl pa_nil))))) pa_nil)) (by rfl))
      (pss_cons (ps_set (i := 3) nd rfl (.inr rfl) (pe_lst (pa_cons (pv 1) (pa_cons (pv 2) (pa_cons (pe_op op_catA (pv 1) (pv 2)) (pa_cons (pe_op op_catA (pv 1) (pl_pg (K := K) (ss := [.w [false]]) (pl_cons (pl_w [false] (by decide +kernel)) pl_nil) (by decide)))
        (pa_cons (pe_tup (pa_cons (pe_tup (pa_cons pe_str (pa_cons pe_int (pa_cons (pv 2) pa_nil)))) pa_nil)) (pa_cons (pl_repT (ss := [Stp.w (List.replicate 200 [true, false]).flatten]) 60 (pl_pg (pl_cons (pl_rep [true, false] 200 (by decide +kernel) (by decide) (by decide) (by decide) (by decide)) pl_nil) (by decide)) (by simp) (by decide) (by decide) (by decide))
        (pa_cons (pe_slice sl_tupA (pv 1) (po_some pe_int) po_none) pa_nil)))))))))
      (pss_cons (ps_expr (pe_bm PySem.F.plainAttrs_list PySem.F.slot_list_append PySem.F.type_list_append mt_append (pv 3) (pa_cons (pe_tup (pa_cons (pe_tup (pa_cons pe_str (pa_cons pl_30 (pa_cons (pv 2) pa_nil)))) pa_nil)) pa_nil)))
      (pss_cons (ps_set (i := 5) nd rfl (.inr rfl) (pe_lc (own := [("_law_one", 4)]) (g := gName 4) (tt := tYes) rfl nd (pi_list (pv 3)) (blkOk_by (N := nPrR) (sc := defScope sPrR) (by decide +kernel))
          (fun _ _ _ _ _ => pg_name (i := 4) nd rfl (Or.inl rfl)) (fun _ _ _ _ _ => pts_nil) (fun _ _ _ _ _ => pe_call GF hr11 (by rfl) gF kF bF .nil pass0 (pa_cons (pv 4) pa_nil))))
      (pss_cons (ps_for PassesOwn.never rfl (pi_enum (by rfl) me (pa_cons (pv 3) pa_nil)) (pg_tup (by rfl) (pgs_cons (pg_name (i := 6) nd rfl (.inr rfl)) (pgs_cons (pg_name (i := 4) nd rfl (.inr rfl)) pgs_nil)))
        (pss_cons (ps_set (i := 7) nd rfl (.inl rfl) (pe_call GA hr (by rfl) gA kA bA .nil pass0 (pa_cons (pe_ix ix_list (pv 5) (pv 6) (fun _ _ => rfl)) pa_nil)))
        (pss_cons (ps_if (PW.pt (pw_or (pt_cmpR op_ne (pe_callB (call_reprD hgd hu) (by rfl) mR (by decide +kernel) (pa_cons (pv 7) pa_nil)) (pe_callB (call_reprD hgd hu) (by rfl) mR (by decide +kernel) (pa_cons (pv 4) pa_nil)) (nomark _))
          (pw_or1 (pt_cmpR op_ne (pe_call GF hr11 (by rfl) gF kF bF .nil pass0 (pa_cons (pv 7) pa_nil)) (pe_ix ix_list (pv 5) (pv 6) (fun _ _ => rfl)) (nomark _))))) (pss_one ps_never) pss_nil)
        (pss_one (ps_if (pt_val (pe_callB (cr_any rfl) (by rfl) my (by decide +kernel) (pa_cons
          (pe_lc (own := [("_law_j", 9)]) (g := gName 9) (tt := tYes) rfl nd (pi_range1 (by rfl) mr (pa_cons (pe_callB call_len_seq (by rfl) ml PySem.boot_len (pa_cons (pv 3) pa_nil)) pa_nil)) (blkOk_by (N := nPrR) (sc := defScope sPrR) (by decide +kernel))
            (fun _ _ _ _ _ => pg_name (i := 9) nd rfl (Or.inl rfl)) (fun _ _ _ _ _ => pts_nil)
            (fun _ _ _ _ _ => pe_cmpR op_ne (pe_cmpR op_eq (pe_ix (r := rIxL K) ix_list (pv 5) (pv 6) (fun _ _ => rfl)) (pe_ix (r := rIxL K) ix_list (pv 5) (pv 9) (fun _ _ => rfl)) (nomark _)) (pe_cmpR (r := rEqD K) (op_eqD hr.units) (pv 4) (pe_ix (r := rIxL K) ix_list (pv 3) (pv 9) (fun _ _ => rfl)) (nomark _)) (nomark _))) pa_nil))) (pss_one ps_never) pss_nil)))))
      (pss_cons (ps_set (i := 8) nd rfl (.inl rfl) (pe_op op_repS0 pe_str (pe_callTy call_int1 (by rfl) mI (by decide +kernel) (pa_cons (pe_and (pe_cmpR (op_neD hr.units) (pv 1) (pe_tup pa_nil) (nomark _)) (pe_one (pe_cmpR (op_neD hr.units) (pv 2) (pe_tup pa_nil) (nomark _)))) pa_nil))))
      (pss_one (ps_ret (pe_cmpR op_eq (pe_ix ix_list (pv 5) pe_int (fun _ _ => rfl)) (pe_op op_add_str (pe_op op_add_str (pe_ix ix_list (pv 5) pe_int (fun _ _ => rfl)) (pv 8)) (pe_ix ix_list (pv 5) pe_int (fun _ _ => rfl))) (nomark _))))))))), ?_⟩
    refine ⟨_, rfl, p, 5, 20, false, rfl, po, by decide, by decide, by decide, by decide, fun H1 ta a k1 po1 pa oa na sa => ?_⟩
    refine ⟨_, rfl, p, 4, 20, false, rfl, po1, by decide, by decide, by decide, by decide, fun H2 tb b k2 po2 pb ob nb sb => ⟨_, _, rfl, ?_⟩⟩
    have pa := pa.kt (.of_keepX po1 k2)
    have K2 := k1.trans k2
    have na : nestL a ≤ 4 := by omega
    have nb : nestL b ≤ 3 := by omega
    have gd := allP_gd oa na sa ob nb sb
    obtain ⟨xa, qa, ra⟩ := id pa
    obtain ⟨xb, qb, rb⟩ := id pb
    have la := ra.len
    have lb := rb.len
    have l1 := len_steps a
    have l2 := len_steps b
    -- the eight
    refine ⟨_, rfl, _, rfl, _, rfl, _, rfl, catA_okP qa qb (by omega) (fun H3 u3 s3 c3 => ?_)⟩
    have P3 : PgA K H3 u3 (a ++ b) := ⟨_, c3, (ra.app rb).kt (.of_same s3)⟩
    refine ⟨_, rfl, fun H4 t4 s4 p4 => ?_⟩
    obtain ⟨x4, q4, r4⟩ := id p4
    have l4 := r4.len
    have l4' : x4.length = 1 := l4
    refine catA_okP (same_seqT (s3.trans s4) qa) q4 (by omega) (fun H5 u5 s5 c5 => ?_)
    have P5 : PgA K H5 u5 (a ++ [.w [false]]) := ⟨_, c5, ((ra.kt (.of_same (s3.trans s4))).app r4).kt (.of_same s5)⟩
    refine ⟨_, rfl, by show 3 ≤ sizeLine; decide, fun T1 n1 => ?_⟩
    have t1 := same_new (o := .tup [.str "repeat", .int 1, .ref tb]) n1
    have h1 : SqT K (upd H5 T1 (.tup [.str "repeat", .int 1, .ref tb])) T1 [.str "repeat", .int 1, .ref tb] := SqT.of upd_same
    generalize upd H5 T1 (.tup [.str "repeat", .int 1, .ref tb]) = H6 at t1 h1 ⊢
    refine ⟨by show 1 ≤ sizeLine; decide, fun T2 n2 => ?_⟩
    have t2 := same_new (o := .tup [.ref T1]) n2
    have h2 : SqT K (upd H6 T2 (.tup [.ref T1])) T2 [.ref T1] := SqT.of upd_same
    generalize upd H6 T2 (.tup [.ref T1]) = H7 at t2 h2 ⊢
    have z27 := (((s3.trans s4).trans s5).trans t1).trans t2
    have P7 : PgA K H7 T2 [.r 1 b] := ⟨_, h2, .cons (.r (same_seqT t2 h1) (same_seqT z27 qb) (rb.kt (.of_same z27))) .nil⟩
    refine fun H8 t8 s8 p8 => ?_
    refine ⟨_, rfl, 1, rfl, ?_⟩
    dsimp only [tNoPart]
    refine slP (K := K) (same_seqT (z27.trans s8) qa) (fun H9 u9 s9 c9 => ?_)
    have P9 : PgA K H9 u9 (a.drop 1) := ⟨_, c9, (ra.dropP.kt (.of_same (z27.trans s8))).kt (.of_same s9)⟩
    refine ⟨by show 7 ≤ sizeLine; decide, fun S nS => ?_⟩
    have zs := same_new (o := .lst [.ref ta, .ref tb, .ref u3, .ref u5, .ref T2, .ref t8, .ref u9]) nS
    have hS : upd H9 S (.lst [.ref ta, .ref tb, .ref u3, .ref u5, .ref T2, .ref t8, .ref u9]) S = some (.lst [.ref ta, .ref tb, .ref u3, .ref u5, .ref T2, .ref t8, .ref u9]) := upd_same
    have y9 : Same H9 (upd H9 S (.lst [.ref ta, .ref tb, .ref u3, .ref u5, .ref T2, .ref t8, .ref u9])) := zs
    have y8 := s9.trans y9
    have y7 := s8.trans y8
    have y5 := (t1.trans t2).trans y7
    have y3 := (s4.trans s5).trans y5
    have y2 := s3.trans y3
    have seven : PgsA K (upd H9 S (.lst [.ref ta, .ref tb, .ref u3, .ref u5, .ref T2, .ref t8, .ref u9])) [.ref ta, .ref tb, .ref u3, .ref u5, .ref T2, .ref t8, .ref u9] [a, b, a ++ b, a ++ [.w [false]], [.r 1 b], sxP27, a.drop 1] :=
      .cons (pa.kt (.of_same y2)) (.cons (pb.kt (.of_same y2)) (.cons (P3.kt (.of_same y3)) (.cons (P5.kt (.of_same y5)) (.cons (P7.kt (.of_same y7)) (.cons (p8.kt (.of_same y8)) (.cons (P9.kt (.of_same y9)) .nil))))))
    have K9 := K2.trans (.of_same y2)
    have po9 := po2.same y2
    have pa9 := pa.kt (.of_same y2)
    have pb9 := pb.kt (.of_same y2)
    have nSp : S ≠ p := Ne.symm ((po2.same ((z27.trans s8).trans s9)).ne nS)
    have nSH2 : H2 S = none := ((z27.trans s8).trans s9).free nS
    generalize upd H9 S (.lst [.ref ta, .ref tb, .ref u3, .ref u5, .ref T2, .ref t8, .ref u9]) = G0 at hS seven K9 po9 pa9 pb9 ⊢
    clear y9 y8 y7 y5 y3 P3 P5 P7 P9 p4 p8 zs
    obtain ⟨xb', qb', rb'⟩ := id pb9
    refine ⟨_, rfl, .inl ⟨rfl, _, SqL.of hS⟩, ?_⟩
    refine ⟨_, rfl, by show 3 ≤ sizeLine; decide, fun T3 n3 => ?_⟩
    have t3 := same_new (o := .tup [.str "repeat", .int (10 ^ 30), .ref tb]) n3
    have h3 : SqT K (upd G0 T3 (.tup [.str "repeat", .int (10 ^ 30), .ref tb])) T3 [.str "repeat", .int (10 ^ 30), .ref tb] := SqT.of upd_same
    generalize upd G0 T3 (.tup [.str "repeat", .int (10 ^ 30), .ref tb]) = G1 at t3 h3 ⊢
    refine ⟨by show 1 ≤ sizeLine; decide, fun T4 n4 => ?_⟩
    have t4 := same_new (o := .tup [.ref T3]) n4
    have h4 : SqT K (upd G1 T4 (.tup [.ref T3])) T4 [.ref T3] := SqT.of upd_same
    generalize upd G1 T4 (.tup [.ref T3]) = G2 at t4 h4 ⊢
    have y := t3.trans t4
    have P8 : PgA K G2 T4 [.r (10 ^ 30) b] := ⟨_, h4, .cons (.r (same_seqT t4 h3) (same_seqT y qb') (rb'.kt (.of_same y))) .nil⟩
    have hS2 := y _ _ hS
    refine ⟨S, _, _, rfl, rfl, hS2, by show 7 < sizeLine; decide, ?_⟩
    have kt : KT K G2 (upd G2 S (.lst ([.ref ta, .ref tb, .ref u3, .ref u5, .ref T2, .ref t8, .ref u9] ++ [.ref T4]))) := KT.upd hS2
    have hS3 : upd G2 S (.lst ([.ref ta, .ref tb, .ref u3, .ref u5, .ref T2, .ref t8, .ref u9] ++ [.ref T4])) S = some (.lst ([.ref ta, .ref tb, .ref u3, .ref u5, .ref T2, .ref t8, .ref u9] ++ [.ref T4])) := upd_same
    have eight : PgsA K (upd G2 S (.lst ([.ref ta, .ref tb, .ref u3, .ref u5, .ref T2, .ref t8, .ref u9] ++ [.ref T4]))) ([.ref ta, .ref tb, .ref u3, .ref u5, .ref T2, .ref t8, .ref u9] ++ [.ref T4]) (allP a b) := ((seven.kt (.of_same y)).app (.cons P8 .nil)).kt kt
    have pa3 := (pa9.kt (.of_same y)).kt kt
    have pb3 := (pb9.kt (.of_same y)).kt kt
    have K3 : ∀ c o, c ≠ p → c ≠ S → H c = some o → upd G2 S (.lst ([.ref ta, .ref tb, .ref u3, .ref u5, .ref T2, .ref t8, .ref u9] ++ [.ref T4])) c = some o := fun c o n1 n2 e => by
      rw [upd_ne n2]
      exact y _ _ (K9 c o n1 e)
    have po3 : PoolO (upd G2 S (.lst ([.ref ta, .ref tb, .ref u3, .ref u5, .ref T2, .ref t8, .ref u9] ++ [.ref T4])) p) := by
      rw [upd_ne (Ne.symm nSp)]
      exact po9.same y
    generalize upd G2 S (.lst ([.ref ta, .ref tb, .ref u3, .ref u5, .ref T2, .ref t8, .ref u9] ++ [.ref T4])) = G3 at hS3 eight pa3 pb3 K3 po3 ⊢
    generalize [V.ref ta, .ref tb, .ref u3, .ref u5, .ref T2, .ref t8, .ref u9] ++ [.ref T4] = ws at hS3 eight ⊢
    have wl : ws.length = 8 := eight.len
    -- the texts
    refine ⟨_, rfl, S, rfl, ⟨_, SqL.of hS3⟩, fun D nD => ?_⟩
    refine lc_list (K := K) (a := S) (xs := ws) (fun j G => G D = some (.lst ((((allP a b).take j).map txP).map V.str)) ∧ (∀ b o, b ≠ D → G3 b = some o → G b = some o)) ?_ ?_ ?_ ?_
    · exact ⟨upd_same, fun b o n e => by rw [upd_ne n]; exact e⟩
    · rintro j G _ ⟨a1, a2⟩
      exact (show Same G3 G from fun b o e => a2 b o (ne_of_none e nD) e).seq (SqL.of hS3)
    · rintro j x G hj ⟨a1, a2⟩
      have sG : Same G3 G := fun b o e => a2 b o (ne_of_none e nD) e
      obtain ⟨t, ss, rfl, e1, hp⟩ := eight.get hj
      obtain ⟨ok, hn, hst⟩ := gd ss (List.mem_of_getElem? e1)
      have jl := (List.getElem?_eq_some_iff.mp hj).1
      refine ⟨rfl, _, rfl, t, ss, rfl, hp.kt (.of_same sG), ok, hn, hst, fun G1 s2 => ?_⟩
      refine ⟨_, s2 _ _ a1, ?_, ?_, fun b o n e => ?_⟩
      · rw [List.length_map, List.length_map, List.length_take]
        exact small64 (by omega)
      · rw [upd_same, List.take_add_one, e1, List.map_append, List.map_append]
        rfl
      · rw [upd_ne n]
        exact s2 _ _ (a2 b o n e)
    · rintro G ⟨a1, a2⟩
      have sG : Same G3 G := fun b o e => a2 b o (ne_of_none e nD) e
      have el : ws.length = (allP a b).length := eight.len
      rw [el, List.take_length] at a1
      have hD : SqL K G D (((allP a b).map txP).map V.str) := SqL.of a1
      have atD : ∀ {J : Hp} {i : Nat} {ss : List Stp}, (allP a b)[i]? = some ss → atI (((allP a b).map txP).map V.str) (i : Int) = some (.str (txP ss)) := fun {J i ss} e => atI_nat (by rw [List.getElem?_map, List.getElem?_map, e]; rfl)
      have eG := eight.kt (.of_same sG)
      have hSG := sG _ _ hS3
      -- each of them
      refine ⟨_, rfl, S, ws, rfl, SqL.of hSG, ?_⟩
      refine for_it (walk_enum (K := K) (a := S) (xs := ws)) (fun i σ J => ∃ y4 y6 y7 : Option V, σ = [some (.ref p), some (.ref ta), some (.ref tb), some (.ref S), y4, some (.ref D), y6, y7, none, none] ∧ Same G J) ?_ ?_ ?_ ?_
      · exact ⟨_, _, _, rfl, Same.refl _⟩
      · rintro i σ J _ ⟨_, _, _, _, sj⟩
        exact sj.seq (SqL.of hSG)
      · rintro i v σ J J' hi ⟨y4, y6, y7, rfl, sj⟩ ⟨T, k, x, rfl, nT, rfl, ek, ex⟩
        cases ek
        have ex : ws[i]? = some x := ex
        obtain ⟨t, ss, rfl, e1, hp⟩ := eG.get ex
        obtain ⟨ok, hn, hst⟩ := gd ss (List.mem_of_getElem? e1)
        have sT := same_new (o := .tup [.int (i : Nat), .ref t]) nT
        have s2 := sj.trans sT
        refine ⟨T, _, rfl, SqT.of upd_same, rfl, _, _, rfl, _, _, rfl, rfl, ?_⟩
        refine ⟨_, rfl, _, rfl, D, _, _, _, rfl, rfl, s2.seq hD, atD (J := J) e1, ss, rfl, ok, hn, hst, fun J2 t2 j2 p2 => ?_⟩
        obtain ⟨d1, d2, d3, d4⟩ := shown_prog1 ss ok hst (by omega)
        obtain ⟨x2, c2, r2⟩ := id p2
        obtain ⟨x1, c1, r1⟩ := hp.kt (.of_same (s2.trans j2))
        refine ⟨_, rfl, t2, .tuple (datL ss), rfl, .tup c2 r2.dp, d1, d2, d3, d4, ?_⟩
        refine ⟨_, rfl, t, .tuple (datL ss), rfl, .tup c1 r1.dp, d1, d2, d3, d4, rfl, false, ?_, ?_⟩
        · rw [decide_eq_true rfl]
          rfl
        refine ⟨_, rfl, t2, ss, rfl, p2, ok, hn, hst, fun J3 j3 => ?_⟩
        have s3 := (s2.trans j2).trans j3
        refine ⟨_, rfl, _, rfl, D, _, _, _, rfl, rfl, s3.seq hD, atD (J := J) e1, rfl, false, ?_, ?_⟩
        · show V.bl (!decide (V.str (txP ss) = V.str (txP ss))) = _
          rw [decide_eq_true rfl]
          rfl
        refine ⟨_, rfl, S, ws, rfl, .inl (s3.seq (SqL.of hSG)), _, rfl, by omega, by omega, fun D2 nD2 => ?_⟩
        have e8 : (ws.length : Int) = ((8 : Nat) : Int) := by rw [wl]
        rw [e8]
        refine lc_range (lo := 0) (n := 8) (fun j L => L D2 = some (.lst ((List.replicate j false).map V.bl)) ∧ (∀ b o, b ≠ D2 → J3 b = some o → L b = some o)) ?_ ?_ ?_
        · exact ⟨upd_same, fun b o n e => by rw [upd_ne n]; exact e⟩
        · rintro j L hj ⟨b1, b2⟩
          have sL : Same J3 L := fun b o e => b2 b o (ne_of_none e nD2) e
          have s5 := s3.trans sL
          obtain ⟨v', ev⟩ : ∃ v', ws[j]? = some v' := ⟨ws[j]'(by omega), List.getElem?_eq_getElem (by omega)⟩
          obtain ⟨t', ss', rfl, e2, hp'⟩ := eG.get ev
          obtain ⟨ok', hn', hst'⟩ := gd ss' (List.mem_of_getElem? e2)
          have ej : (0 : Int) + (j : Int) = (j : Int) := Int.zero_add _
          obtain ⟨x3, c3, r3⟩ := hp'.kt (.of_same s5)
          obtain ⟨x5, c5, r5⟩ := hp.kt (.of_same s5)
          refine ⟨rfl, _, rfl, _, rfl, D, _, _, _, rfl, rfl, s5.seq hD, atD (J := J) e1, _, rfl, _, rfl, D, _, _, .str (txP ss'), rfl, rfl, s5.seq hD, ?_, rfl, ?_⟩
          · show atI _ ((0 : Int) + (j : Int)) = _
            rw [ej]
            exact atD (J := J) e2
          refine ⟨_, rfl, _, rfl, _, rfl, S, ws, _, .ref t', rfl, rfl, s5.seq (SqL.of hSG), ?_, _, _, .tup c5 r5.dp, .tup c3 r3.dp, prog_shaped ok (by omega), prog_shaped ok' (by omega), ?_⟩
          · show atI ws ((0 : Int) + (j : Int)) = _
            rw [ej]
            exact atI_nat ev
          refine ⟨rfl, _, b1, ?_, ?_, fun b o n e => ?_⟩
          · rw [List.length_map, List.length_replicate]
            exact small64 (by omega)
          · rw [upd_same, List.replicate_succ', List.map_append, pair_same ok ok']
            have : ∀ z : Bool, V.bl (!decide (V.bl z = V.bl z)) = V.bl false := fun z => by rw [decide_eq_true rfl]; rfl
            rw [this]
            rfl
          · rw [upd_ne n]
            exact b2 b o n e
        · rintro L ⟨b1, b2⟩
          have sL : Same J3 L := fun b o e => b2 b o (ne_of_none e nD2) e
          refine ⟨D2, _, rfl, SqL.of b1, ?_⟩
          rw [show (List.replicate 8 false).any id = false by simp]
          refine ⟨false, rfl, ?_⟩
          exact ⟨_, _, _, rfl, s3.trans sL⟩
      · rintro σ J ⟨y4, y6, y7, rfl, sj⟩
        have pJ := pa3.kt (.of_same (sG.trans sj))
        have qJ := pb3.kt (.of_same (sG.trans sj))
        obtain ⟨x1, c1, r1⟩ := id pJ
        refine ⟨_, rfl, by show 0 ≤ sizeLine; decide, fun E1 m1 => ?_⟩
        have e1 := same_new (o := .tup []) m1
        have hE1 : SqT K (upd J E1 (.tup [])) E1 [] := SqT.of upd_same
        generalize upd J E1 (.tup []) = J1 at e1 hE1 ⊢
        refine ⟨_, _, .tup (same_seqT e1 c1) (r1.kt (.of_same e1)).dp, .tup hE1 .nil, prog_shaped oa (by omega), by decide, ?_⟩
        rw [emp_eqv]
        refine ⟨_, rfl, ite2 (fun ea => ?_) (fun ea => ?_)⟩
        · have ha : ¬ a = [] := fun z => by rw [decide_eq_true z] at ea; cases ea
          obtain ⟨x2, c2, r2⟩ := id qJ
          refine ⟨_, rfl, by show 0 ≤ sizeLine; decide, fun E2 m2 => ?_⟩
          have e2 := same_new (o := .tup []) m2
          have hE2 : SqT K (upd J1 E2 (.tup [])) E2 [] := SqT.of upd_same
          generalize upd J1 E2 (.tup []) = J2 at e2 hE2 ⊢
          refine ⟨_, _, .tup (same_seqT (e1.trans e2) c2) (r2.kt (.of_same (e1.trans e2))).dp, .tup hE2 .nil, prog_shaped ob (by omega), by decide, ?_⟩
          rw [emp_eqv]
          by_cases hb : b = []
          · rw [decide_eq_true hb]
            refine .inr ⟨false, rfl, rfl, false, rfl, ?_⟩
            have hg : txP (a ++ b) = txP a ++ ("" : Str) ++ txP b := by
              have := txt_app oa ob
              rw [if_neg (fun z => z.2 hb)] at this
              exact this
            refine ⟨_, rfl, D, _, 2, .str (txP (a ++ b)), rfl, rfl, (sj.trans (e1.trans e2)).seq hD, rfl, ?_⟩
            refine ⟨_, rfl, D, _, 0, .str (txP a), rfl, rfl, (sj.trans (e1.trans e2)).seq hD, rfl, _, rfl, _, _, rfl, rfl, ?_, ?_⟩
            · have j0 : (txP a).length ≤ wtS (tkS (tksL a)) := jn_len (tkS (tksL a))
              have := wt_tksL a oa
              rw [sizeLine_eq]
              show (txP a).length + ("" : Str).length ≤ _
              have e9 : ("" : Str).length ≤ 1 := by decide +kernel
              omega
            refine ⟨_, rfl, D, _, 1, .str (txP b), rfl, rfl, (sj.trans (e1.trans e2)).seq hD, rfl, _, _, rfl, rfl, ?_, ?_⟩
            · have x1 : (txP a).length ≤ wtS (tkS (tksL a)) := jn_len (tkS (tksL a))
              have x2 := wt_tksL a oa
              have x3 : (txP b).length ≤ wtS (tkS (tksL b)) := jn_len (tkS (tksL b))
              have x4 := wt_tksL b ob
              have e9 : ("" : Str).length ≤ 1 := by decide +kernel
              show (txP a ++ ("" : Str)).length + (txP b).length ≤ _
              have e10 : (txP a ++ ("" : Str)).length = (txP a).length + ("" : Str).length := by
                simp only [len_tl, tl_append, List.length_append]
              rw [sizeLine_eq, e10]
              omega
            refine ⟨rfl, ?_⟩
            show Q (V.bl (decide (V.str (txP (a ++ b)) = V.str (txP a ++ ("" : Str) ++ txP b)))) _
            rw [hg, decide_eq_true rfl]
            exact q _ (fun c o n e => (sG.trans (sj.trans (e1.trans e2))) _ _ (K3 c o n (fun z => by subst z; have := K2 c o nSp e; rw [nSH2] at this; cases this) e)) (po3.same (sG.trans (sj.trans (e1.trans e2))))
          · rw [decide_eq_false hb]
            refine .inr ⟨true, rfl, rfl, true, rfl, ?_⟩
            have hg : txP (a ++ b) = txP a ++ (" " : Str) ++ txP b := by
              have := txt_app oa ob
              rw [if_pos ⟨ha, hb⟩] at this
              exact this
            refine ⟨_, rfl, D, _, 2, .str (txP (a ++ b)), rfl, rfl, (sj.trans (e1.trans e2)).seq hD, rfl, ?_⟩
            refine ⟨_, rfl, D, _, 0, .str (txP a), rfl, rfl, (sj.trans (e1.trans e2)).seq hD, rfl, _, rfl, _, _, rfl, rfl, ?_, ?_⟩
            · have j0 : (txP a).length ≤ wtS (tkS (tksL a)) := jn_len (tkS (tksL a))
              have := wt_tksL a oa
              rw [sizeLine_eq]
              show (txP a).length + (" " : Str).length ≤ _
              have e9 : (" " : Str).length ≤ 1 := by decide +kernel
              omega
            refine ⟨_, rfl, D, _, 1, .str (txP b), rfl, rfl, (sj.trans (e1.trans e2)).seq hD, rfl, _, _, rfl, rfl, ?_, ?_⟩
            · have x1 : (txP a).length ≤ wtS (tkS (tksL a)) := jn_len (tkS (tksL a))
              have x2 := wt_tksL a oa
              have x3 : (txP b).length ≤ wtS (tkS (tksL b)) := jn_len (tkS (tksL b))
              have x4 := wt_tksL b ob
              have e9 : (" " : Str).length ≤ 1 := by decide +kernel
              show (txP a ++ (" " : Str)).length + (txP b).length ≤ _
              have e10 : (txP a ++ (" " : Str)).length = (txP a).length + (" " : Str).length := by
                simp only [len_tl, tl_append, List.length_append]
              rw [sizeLine_eq, e10]
              omega
            refine ⟨rfl, ?_⟩
            show Q (V.bl (decide (V.str (txP (a ++ b)) = V.str (txP a ++ (" " : Str) ++ txP b)))) _
            rw [hg, decide_eq_true rfl]
            exact q _ (fun c o n e => (sG.trans (sj.trans (e1.trans e2))) _ _ (K3 c o n (fun z => by subst z; have := K2 c o nSp e; rw [nSH2] at this; cases this) e)) (po3.same (sG.trans (sj.trans (e1.trans e2))))
        · have ha : a = [] := Classical.byContradiction fun z => ea (by rw [decide_eq_false z]; rfl)
          refine .inr ⟨false, rfl, rfl, false, rfl, ?_⟩
          have hg : txP (a ++ b) = txP a ++ ("" : Str) ++ txP b := by
            have := txt_app oa ob
            rw [if_neg (fun z => z.1 ha)] at this
            exact this
          refine ⟨_, rfl, D, _, 2, .str (txP (a ++ b)), rfl, rfl, (sj.trans (e1)).seq hD, rfl, ?_⟩
          refine ⟨_, rfl, D, _, 0, .str (txP a), rfl, rfl, (sj.trans (e1)).seq hD, rfl, _, rfl, _, _, rfl, rfl, ?_, ?_⟩
          · have j0 : (txP a).length ≤ wtS (tkS (tksL a)) := jn_len (tkS (tksL a))
            have := wt_tksL a oa
            rw [sizeLine_eq]
            show (txP a).length + ("" : Str).length ≤ _
            have e9 : ("" : Str).length ≤ 1 := by decide +kernel
            omega
          refine ⟨_, rfl, D, _, 1, .str (txP b), rfl, rfl, (sj.trans (e1)).seq hD, rfl, _, _, rfl, rfl, ?_, ?_⟩
          · have x1 : (txP a).length ≤ wtS (tkS (tksL a)) := jn_len (tkS (tksL a))
            have x2 := wt_tksL a oa
            have x3 : (txP b).length ≤ wtS (tkS (tksL b)) := jn_len (tkS (tksL b))
            have x4 := wt_tksL b ob
            have e9 : ("" : Str).length ≤ 1 := by decide +kernel
            show (txP a ++ ("" : Str)).length + (txP b).length ≤ _
            have e10 : (txP a ++ ("" : Str)).length = (txP a).length + ("" : Str).length := by
              simp only [len_tl, tl_append, List.length_append]
            rw [sizeLine_eq, e10]
            omega
          refine ⟨rfl, ?_⟩
          show Q (V.bl (decide (V.str (txP (a ++ b)) = V.str (txP a ++ ("" : Str) ++ txP b)))) _
          rw [hg, decide_eq_true rfl]
          exact q _ (fun c o n e => (sG.trans (sj.trans (e1))) _ _ (K3 c o n (fun z => by subst z; have := K2 c o nSp e; rw [nSH2] at this; cases this) e)) (po3.same (sG.trans (sj.trans e1)))
end
end KS
namespace KS
open PySem PySem.Spec PyProof.Rows L2
abbrev sPlan : Stmt := topS 47
abbrev nPlan : List Str := ["_law_pool_here", "_law_most", "_law_mode", "_law_wide", "_law_high", "_law_top", "_law_left", "_law_every", "_law_step", "_law_low", "_law_far", "_law_side", "_law_spot"]
theorem scPlan : FnScope nPlan ["_law_pool_here", "_law_most"] (defScope sPlan) := ⟨rfl, rfl, rfl, by decide +kernel, rfl, by decide +kernel, by decide +kernel⟩
section
variable {P : Program} {w : World} {K : PySem.W.Frag} {mg : Str → Option Value} {base : Heap}
theorem ok_plan {f fD : Addr} {fd fdD : FuncData} (F : Fun K "_law_plan" "_law_plan" sPlan f fd) (GD : FnOk P w K mg base CX0 1 fD fdD ["_law_pool_here", "_law_most"] spDraw)
    (bD : Binds K fdD ["_law_pool_here", "_law_most"] []) (gD : mg "_law_draw" = some (.ref fD)) (kD : PySem.W.keepIn K (.ref fD) = true)
    (mn : mg "min" = none) (mr : mg "range" = none) (ml : mg "len" = none) (mt : mg "tuple" = none) (ms : mg "sum" = none) :
    FnOk P w K mg base CX0 2 f fd ["_law_pool_here", "_law_most"] (spPlan K) := by
  refine F.ok scPlan (fun vs H Q E h => ?_) (fun cdv A outer s H vs Q E hr h => ?_)
  · obtain ⟨p, m, rfl, _⟩ := h
    rfl
  · obtain ⟨p, m, rfl, po, m0, m1, q⟩ := h
    have nd := scPlan.nd
    refine ⟨_, pss_cons (ps_par (i := 2) (j := 3) (by rfl) nd rfl rfl (by decide) rfl rfl
        (pa_cons (pe_call GD hr (by rfl) gD kD bD .nil pass0 (pa_cons (pv 0) (pa_cons pe_int pa_nil)))
          (pa_cons (pe_op op_add pe_int (pe_call GD hr (by rfl) gD kD bD .nil pass0 (pa_cons (pv 0) (pa_cons (pe_callB (call_min2 rfl) (by rfl) mn (by decide +kernel) (pa_cons pe_int (pa_cons (pv 1) pa_nil))) pa_nil)))) pa_nil)) (by rfl))
      (pss_cons (ps_set (i := 4) nd rfl (.inl rfl) (pe_op op_add pe_int (pe_call GD hr (by rfl) gD kD bD .nil pass0 (pa_cons (pv 0)
          (pa_cons (pe_callB (call_min2 rfl) (by rfl) mn (by decide +kernel) (pa_cons pe_int (pa_cons (pe_op op_fdiv (pv 1) (pv 3)) pa_nil))) pa_nil)))))
      (pss_cons (ps_if (pt_cmpR op_eq (pv 2) pe_int (nomark _)) (pss_one (ps_par (i := 4) (j := 3) (by rfl) nd rfl rfl (by decide) rfl rfl
          (pa_cons (pe_op op_add pe_int (pe_call GD hr (by rfl) gD kD bD .nil pass0 (pa_cons (pv 0) (pa_cons pe_int pa_nil))))
            (pa_cons (pe_op op_add pe_int (pe_call GD hr (by rfl) gD kD bD .nil pass0 (pa_cons (pv 0) (pa_cons pe_int pa_nil)))) pa_nil)) (by rfl))) pss_nil)
      (pss_cons (ps_asg (pe_tup (pa_cons (pe_call GD hr (by rfl) gD kD bD .nil pass0 (pa_cons (pv 0) (pa_cons (pe_op op_sub pe_int (pv 4)) pa_nil)))
            (pa_cons (pe_call GD hr (by rfl) gD kD bD .nil pass0 (pa_cons (pv 0) (pa_cons (pe_op op_sub pe_int (pv 3)) pa_nil))) (pa_cons (pe_lst pa_nil) pa_nil))))
          (pg_tup (by rfl) (pgs_cons (pg_name (i := 5) nd rfl (.inr rfl)) (pgs_cons (pg_name (i := 6) nd rfl (.inr rfl)) (pgs_cons (pg_name (i := 7) nd rfl (.inl rfl)) pgs_nil)))))
      (pss_cons (ps_for PassesOwn.never rfl (pi_range1 (by rfl) mr (pa_cons (pv 4) pa_nil)) (pg_name (i := 8) nd rfl (.inr rfl))
          (pss_one (ps_expr (pe_bm PySem.F.plainAttrs_list PySem.F.slot_list_extend PySem.F.type_list_extend mt_extend (pv 7)
            (pa_cons (pe_lc (own := [("_law_side", 11)]) (g := gName 11) (tt := tYes) rfl nd (pi_range1 (by rfl) mr (pa_cons (pv 3) pa_nil)) (blkOk_by (N := nPlan) (sc := defScope sPlan) (by decide +kernel))
              (fun _ _ _ _ _ => pg_name (i := 11) nd rfl (Or.inl rfl)) (fun _ _ _ _ _ => pts_nil) (fun _ _ _ _ _ => pe_tup (pa_cons (pe_op op_add (pv 5) (pv 8)) (pa_cons (pe_op op_add (pv 6) (pv 11)) pa_nil)))) pa_nil)))))
      (pss_cons (ps_if (pt_cmpR op_eq (pv 2) pe_int (nomark _)) (pss_one (ps_set (i := 7) nd rfl (.inl rfl) (pe_orT
          (pe_lc (own := [("_law_spot", 12)]) (g := gName 12) rfl nd (pi_list (pv 7)) (blkOk_by (N := nPlan) (sc := defScope sPlan) (by decide +kernel))
            (fun _ _ _ _ _ => pg_name (i := 12) nd rfl (Or.inl rfl)) (fun _ _ _ _ _ => pts_one (pt_cmpR op_gt (pe_call GD hr (by rfl) gD kD bD .nil pass0 (pa_cons (pv 0) (pa_cons pe_int pa_nil))) pe_int (nomark _))) (fun _ _ _ _ _ => pv 12)) (pe_one (pv 7))))) pss_nil)
      (pss_cons (ps_if (pt_cmpR op_eq (pv 2) pe_int (nomark _)) (pss_one (ps_set (i := 7) nd rfl (.inl rfl) (pe_orT
          (pe_lc (own := [("_law_spot", 12)]) (g := gName 12) rfl nd (pi_list (pv 7)) (blkOk_by (N := nPlan) (sc := defScope sPlan) (by decide +kernel))
            (fun _ _ _ _ _ => pg_name (i := 12) nd rfl (Or.inl rfl)) (fun _ _ _ _ _ => pts_one (pt_cmpR op_gt (pe_call GD hr (by rfl) gD kD bD .nil pass0 (pa_cons (pv 0) (pa_cons pe_int pa_nil))) pe_int (nomark _))) (fun _ _ _ _ _ => pv 12)) (pe_one (pv 7))))) pss_nil)
      (pss_cons (ps_if (pt_cmpR op_eq (pv 2) pe_int (nomark _)) (pss_cons (ps_set (i := 9) nd rfl (.inr rfl) (pe_op op_add (pe_op op_add (pv 5) (pv 6)) (pe_call GD hr (by rfl) gD kD bD .nil pass0 (pa_cons (pv 0) (pa_cons pe_int pa_nil)))))
          (pss_cons (ps_set (i := 10) nd rfl (.inr rfl) (pe_op op_sub (pe_op op_sub (pe_op op_add (pe_op op_add (pe_op op_add (pv 5) (pv 6)) (pv 4)) (pv 3)) pe_int) (pe_call GD hr (by rfl) gD kD bD .nil pass0 (pa_cons (pv 0) (pa_cons pe_int pa_nil)))))
          (pss_one (ps_set (i := 7) nd rfl (.inl rfl) (pe_orT
          (pe_lc (own := [("_law_spot", 12)]) (g := gName 12) rfl nd (pi_list (pv 7)) (blkOk_by (N := nPlan) (sc := defScope sPlan) (by decide +kernel))
            (fun _ _ _ _ _ => pg_name (i := 12) nd rfl (Or.inl rfl)) (fun _ _ _ _ _ => pts_one (pt_chain op_le op_le (pv 9) (pe_callB (id := "sum") (r := rSumT K) (cr_sumT rfl) (by rfl) ms (by decide +kernel) (pa_cons (pv 12) pa_nil)) (pv 10))) (fun _ _ _ _ _ => pv 12)) (pe_one (pv 7))))))) pss_nil)
      (pss_cons (ps_while PassesOwn.never (pt_cmpR op_gt (pe_callB call_len_seq (by rfl) ml PySem.boot_len (pa_cons (pv 7) pa_nil)) (pv 1) (nomark _))
          (pss_one (ps_expr (pe_bm PySem.F.plainAttrs_list PySem.F.slot_list_pop PySem.F.type_list_pop mt_popAt (pv 7)
            (pa_cons (pe_call GD hr (by rfl) gD kD bD .nil pass0 (pa_cons (pv 0) (pa_cons (pe_callB call_len_seq (by rfl) ml PySem.boot_len (pa_cons (pv 7) pa_nil)) pa_nil))) pa_nil)))))
      (pss_one (ps_ret (pe_callTy call_tuple_of (by rfl) mt (by decide +kernel) (pa_cons (pv 7) pa_nil)))))))))))), ?_⟩
    -- mode, wide
    refine ⟨_, rfl, p, 4, rfl, po, by decide, by decide, fun H1 mode k1 po1 _ _ => ?_⟩
    have mb : 0 < (if m < 8 then m else 8 : Int) ∧ (if m < 8 then m else 8 : Int) ≤ 8 ∧ (if m < 8 then m else 8 : Int) ≤ m := by
      by_cases c : m < 8
      · rw [if_pos c]
        omega
      · rw [if_neg c]
        omega
    refine ⟨_, rfl, _, rfl, 8, m, rfl, p, _, rfl, po1, mb.1, by omega, fun H2 w k2 po2 w0 w1 => ?_⟩
    refine ⟨_, _, rfl, rfl, _, _, rfl, ?_⟩
    -- high
    have qd : 1 ≤ m / (1 + w) := by
      have : (1 : Int) * (1 + w) ≤ m := by omega
      exact (Int.le_ediv_iff_mul_le (by omega)).mpr this
    have hb : 0 < (if m / (1 + w) < 8 then m / (1 + w) else 8 : Int) ∧ (if m / (1 + w) < 8 then m / (1 + w) else 8 : Int) ≤ 8 := by
      by_cases c : m / (1 + w) < 8
      · rw [if_pos c]
        omega
      · rw [if_neg c]
        omega
    refine ⟨_, rfl, _, rfl, _, rfl, _, _, rfl, rfl, ⟨by omega, by omega⟩, 8, _, rfl, p, _, rfl, po2, hb.1, by omega, fun H3 h k3 po3 h0 h1 => ?_⟩
    refine ⟨_, _, rfl, rfl, ?_⟩
    refine par_if (p := p) (m := m) (mode := mode) (wide := 1 + w) (high := 1 + h) po3 ⟨by omega, by omega⟩ ⟨by omega, by omega⟩ (fun wide high H4 k4 po4 hw hh => ?_)
    have kx4 : KeepX p H H4 := ((k1.trans k2).trans k3).trans k4
    -- top, left, every
    refine ⟨_, rfl, _, rfl, _, _, rfl, rfl, p, _, rfl, po4, by omega, by omega, fun H5 top k5 po5 t0 t1 => ?_⟩
    refine ⟨_, rfl, _, rfl, _, _, rfl, rfl, p, _, rfl, po5, by omega, by omega, fun H6 left k6 po6 l0 l1 => ?_⟩
    refine ⟨Nat.zero_le _, fun e ne => ⟨(by show 3 ≤ sizeLine; decide), fun T nT => ?_⟩⟩
    have kx6 : KeepX p H H6 := (kx4.trans k5).trans k6
    have s7 := same_new (o := .lst []) ne
    have s8 := same_new (o := .tup [.int top, .int left, .ref e]) nT
    have po8 := (po6.same s7).same s8
    have he8 := s8 _ _ (show upd H6 e (.lst []) e = _ from upd_same)
    refine ⟨T, _, rfl, SqT.of upd_same, rfl, _, _, rfl, _, _, rfl, _, _, rfl, rfl, ?_⟩
    have nep : e ≠ p := Ne.symm (po6.ne ne)
    have heH : H e = none := by
      cases z : H e with
      | none => rfl
      | some o =>
        have := kx6 e o nep z
        rw [ne] at this
        cases this
    -- the rows
    refine ⟨_, rfl, high, rfl, by omega, by omega, for_range (lo := 0) (n := high.toNat) (fun i σ H' => ∃ (y8 : Option V) (xs : List V) (cs : List Cell),
      σ = [some (.ref p), some (.int m), some (.int mode), some (.int wide), some (.int high), some (.int top), some (.int left), some (.ref e), y8, none, none, none, none] ∧
      KeepX p H H' ∧ PoolO (H' p) ∧ H' e = some (.lst xs) ∧ CellsAt K H' xs cs ∧ cs.Pairwise lt2 ∧ (∀ c ∈ cs, top ≤ c.1 ∧ c.1 < top + i ∧ left ≤ c.2 ∧ c.2 < left + wide) ∧ i ≤ cs.length ∧ cs.length ≤ 8 * i) ?_ ?_ ?_⟩
    · refine ⟨none, [], [], rfl, (kx6.trans (.of_same s7)).trans (.of_same s8), po8, he8, .nil, .nil, (fun c hc => nomatch hc), Nat.le_refl _, Nat.le_refl _⟩
    · rintro i σ H' hi ⟨y8, xs, cs, rfl, kx, po', he, hc, pw, bd, c0, c1⟩
      have hi' : (i : Int) < high := by omega
      have hlen := Paired.length hc
      refine ⟨_, rfl, .inl ⟨rfl, _, SqL.of he⟩, _, rfl, wide, rfl, by omega, by omega, fun d nd2 => ?_⟩
      have ned : e ≠ d := ne_of_none he nd2
      have npd : p ≠ d := po'.ne nd2
      refine lc_range (lo := 0) (n := wide.toNat) (fun j H2 => ∃ acc : List V, H2 d = some (.lst acc) ∧ CellsAt K H2 acc (rowCells (top + i) left j) ∧ (∀ b o, b ≠ d → H' b = some o → H2 b = some o)) ?_ ?_ ?_
      · exact ⟨[], upd_same, .nil, fun b o n z => by rw [upd_ne n]; exact z⟩
      · rintro j H2 hj ⟨acc, a1, a2, a3⟩
        refine ⟨rfl, _, rfl, _, rfl, _, _, rfl, rfl, _, rfl, _, rfl, _, _, rfl, rfl, (by show 2 ≤ sizeLine; decide), fun t nt => ?_⟩
        have ndt : d ≠ t := ne_of_none a1 nt
        have st := same_new (o := .tup [.int (top + (0 + (i : Int))), .int (left + (0 + (j : Int)))]) nt
        have hal : acc.length = j := by
          rw [Paired.length a2, rowCells_len]
        refine ⟨acc, st _ _ a1, small64 (by omega), acc ++ [.ref t], upd_same, ?_, fun b o n z => ?_⟩
        · rw [rowCells_succ]
          refine paired_append (cells_kt ((KT.of_same st).trans (KT.upd (st _ _ a1))) a2) (.cons ⟨t, rfl, SqT.of ?_⟩ .nil)
          rw [upd_ne (Ne.symm ndt), upd_same, Int.zero_add, Int.zero_add]
        · rw [upd_ne n]
          exact st _ _ (a3 b o n z)
      · rintro H2 ⟨acc, a1, a2, a3⟩
        have hw' : (wide.toNat : Int) = wide := Int.toNat_of_nonneg (by omega)
        have hal : acc.length = wide.toNat := by
          rw [Paired.length a2, rowCells_len]
        have kt2 : KT K H' H2 := KT.of_same fun b o z => a3 b o (ne_of_none z nd2) z
        have he2 := a3 _ _ ned he
        refine ⟨e, d, xs, acc, rfl, rfl, he2, a1, by
          rw [sizeLine_eq]
          omega, ?_⟩
        refine ⟨_, xs ++ acc, cs ++ rowCells (top + i) left wide.toNat, rfl, ?_, ?_, upd_same, ?_, ?_, ?_, ?_, ?_⟩
        · intro b o n z
          have nbe : b ≠ e := ne_of_none z heH
          rw [upd_ne nbe]
          have z' := kx b o n z
          exact a3 b o (ne_of_none z' nd2) z'
        · rw [upd_ne (Ne.symm nep)]
          obtain ⟨x1, x2, x3, x4, x5⟩ := po'
          exact ⟨x1, x2, x3, a3 _ _ npd x4, x5⟩
        · exact cells_kt (KT.upd he2) (paired_append (cells_kt kt2 hc) a2)
        · rw [List.pairwise_append]
          refine ⟨pw, rowCells_asc _ _ _, fun x hx y hy => ?_⟩
          have b1 := bd x hx
          have b2 := rowCells_mem hy
          exact .inl (by omega)
        · intro c hc'
          rcases List.mem_append.mp hc' with z | z
          · have := bd c z
            omega
          · have := rowCells_mem z
            omega
        · rw [List.length_append, rowCells_len]
          omega
        · rw [List.length_append, rowCells_len]
          omega
    · rintro σ H' ⟨y8, xs, cs, rfl, kx, po', he, hc, pw, bd, c0, c1⟩
      have hh' : (high.toNat : Int) = high := Int.toNat_of_nonneg (by omega)
      have hst : PlSt K p H m mode wide high top left [some (.ref p), some (.int m), some (.int mode), some (.int wide), some (.int high), some (.int top), some (.int left), some (.ref e), y8, none, none, none, none] H' :=
        ⟨⟨e, xs, cs, y8, none, none, rfl, heH, nep, he, hc, ⟨pw, fun c z => by
          have := bd c z
          exact ⟨by omega, by omega, by omega, by omega⟩, fun z => by
          subst z
          have : high.toNat ≤ 0 := c0
          omega⟩, by omega⟩, kx, po'⟩
      refine fil_if hst (fun t c => draw_test hst (by decide) (by decide) t c) (fun σ1 G1 h1' => ?_)
      refine fil_if h1' (fun t c => draw_test h1' (by decide) (by decide) t c) (fun σ2 G2 h2' => ?_)
      refine fil3_if h2' (fun σ3 G3 h3' => ?_)
      -- while len(every) > most
      refine ⟨fun n σ G => ∃ (e : Addr) (xs : List V) (cs : List Cell) (y8 y9 y10 : Option V),
        σ = [some (.ref p), some (.int m), some (.int mode), some (.int wide), some (.int high), some (.int top), some (.int left), some (.ref e), y8, y9, y10, none, none] ∧
        H e = none ∧ e ≠ p ∧ G e = some (.lst xs) ∧ CellsAt K G xs cs ∧ Good cs ∧ cs.length ≤ 64 ∧ KeepX p H G ∧ PoolO (G p) ∧ n = xs.length, ?_, ?_⟩
      · obtain ⟨⟨e, xs, cs, y8, y9, y10, es, he0, hep, he, hc, gd, hl⟩, kx, po⟩ := h3'
        exact ⟨xs.length, e, xs, cs, y8, y9, y10, es, he0, hep, he, hc, gd, hl, kx, po, rfl⟩
      · rintro n σ4 G4 ⟨e4, xs4, cs4, y8, y9, y10, rfl, he0, hep, he4, hc4, gd4, hl4, kx4, po4', rfl⟩
        have hlen := Paired.length hc4
        refine ⟨_, rfl, e4, xs4, rfl, .inl (SqL.of he4), _, rfl, _, _, rfl, rfl, _, rfl, ite2 (fun c => ?_) (fun c => ?_)⟩
        · have c' : m < (xs4.length : Int) := of_decide_eq_true c
          refine ⟨fun σ' G' => ∃ n', n' < xs4.length ∧ ∃ (e : Addr) (xs : List V) (cs : List Cell) (y8 y9 y10 : Option V),
            σ' = [some (.ref p), some (.int m), some (.int mode), some (.int wide), some (.int high), some (.int top), some (.int left), some (.ref e), y8, y9, y10, none, none] ∧
            H e = none ∧ e ≠ p ∧ G' e = some (.lst xs) ∧ CellsAt K G' xs cs ∧ Good cs ∧ cs.length ≤ 64 ∧ KeepX p H G' ∧ PoolO (G' p) ∧ n' = xs.length, fun σ' G' z => z, ?_⟩
          refine ⟨_, rfl, .inl ⟨rfl, _, SqL.of he4⟩, _, rfl, _, rfl, e4, xs4, rfl, .inl (SqL.of he4), p, _, rfl, po4', by omega, by omega, fun G5 r k5 po5 r0 r1 => ?_⟩
          have hr' : ((r.toNat : Nat) : Int) = r := Int.toNat_of_nonneg r0
          have hlt : r.toNat < xs4.length := by omega
          have he5 := k5 _ _ hep he4
          refine ⟨e4, xs4, r, r.toNat, xs4[r.toNat], rfl, rfl, he5, by omega, by omega, ?_, List.getElem?_eq_getElem hlt, ?_⟩
          · unfold seqIndex?
            have e1 : ¬ r < 0 := by omega
            simp only [if_neg e1]
            rw [if_pos]
            simp only [Bool.and_eq_true, decide_eq_true_eq]
            exact ⟨r0, r1⟩
          · have hel : (xs4.eraseIdx r.toNat).length = xs4.length - 1 := List.length_eraseIdx_of_lt hlt
            have hpe := paired_erase r.toNat hc4
            have hsub := List.eraseIdx_sublist cs4 r.toNat
            refine ⟨(xs4.eraseIdx r.toNat).length, by omega, e4, _, cs4.eraseIdx r.toNat, y8, y9, y10, rfl, he0, hep, upd_same, cells_kt ((KT.of_keepX po4' k5).trans (KT.upd he5)) hpe,
              ⟨gd4.asc.sublist hsub, fun c hc => gd4.grid c (hsub.subset hc), fun z => ?_⟩, Nat.le_trans hsub.length_le hl4, ?_, ?_, rfl⟩
            · have q1 := Paired.length hpe
              rw [z, hel] at q1
              have : xs4.length - 1 = 0 := q1
              omega
            · intro b o n z
              rw [upd_ne (ne_of_none z he0)]
              exact k5 _ _ n (kx4 _ _ n z)
            · rw [upd_ne (Ne.symm hep)]
              exact po5
        · have c' : ¬ m < (xs4.length : Int) := fun z => c (decide_eq_true z)
          refine ⟨_, rfl, e4, xs4, rfl, .inl ⟨SqL.of he4, fun l nl => ?_⟩⟩
          have sl := same_new (o := .tup xs4) nl
          refine q _ l cs4 (kx4.trans (.of_same sl)) (po4'.same sl) ⟨xs4, SqT.of upd_same, cells_kt (.of_same sl) hc4⟩ gd4 (by omega) ?_
          cases z : H l with
          | none => rfl
          | some o =>
            have := kx4 l o (Ne.symm (po4'.ne nl)) z
            rw [nl] at this
            cases this
end
end KS
namespace KS
open PySem PySem.Spec PyProof.Rows L2
section
variable {P : Program} {w : World} {K : PySem.W.Frag} {mg : Str → Option Value} {base : Heap}
theorem ok_planT {f fD : Addr} {fd fdD : FuncData} (F : Fun K "_law_plan" "_law_plan" sPlan f fd) (GD : FnOk P w K mg base CX0 1 fD fdD ["_law_pool_here", "_law_most"] spDraw)
    (bD : Binds K fdD ["_law_pool_here", "_law_most"] []) (gD : mg "_law_draw" = some (.ref fD)) (kD : PySem.W.keepIn K (.ref fD) = true)
    (mn : mg "min" = none) (mr : mg "range" = none) (ml : mg "len" = none) (mt : mg "tuple" = none) (ms : mg "sum" = none) :
    FnOk P w K mg base CX0 2 f fd ["_law_pool_here", "_law_most"] (spPlanT K) := by
  refine F.ok scPlan (fun vs H Q E h => ?_) (fun cdv A outer s H vs Q E hr h => ?_)
  · obtain ⟨p, m, rfl, _⟩ := h
    rfl
  · obtain ⟨p, m, rfl, po, m0, m1, q⟩ := h
    have nd := scPlan.nd
    refine ⟨_, pss_cons (ps_par (i := 2) (j := 3) (by rfl) nd rfl rfl (by decide) rfl rfl
        (pa_cons (pe_call GD hr (by rfl) gD kD bD .nil pass0 (pa_cons (pv 0) (pa_cons pe_int pa_nil)))
          (pa_cons (pe_op op_add pe_int (pe_call GD hr (by rfl) gD kD bD .nil pass0 (pa_cons (pv 0) (pa_cons (pe_callB (call_min2 rfl) (by rfl) mn (by decide +kernel) (pa_cons pe_int (pa_cons (pv 1) pa_nil))) pa_nil)))) pa_nil)) (by rfl))
      (pss_cons (ps_set (i := 4) nd rfl (.inl rfl) (pe_op op_add pe_int (pe_call GD hr (by rfl) gD kD bD .nil pass0 (pa_cons (pv 0)
          (pa_cons (pe_callB (call_min2 rfl) (by rfl) mn (by decide +kernel) (pa_cons pe_int (pa_cons (pe_op op_fdiv (pv 1) (pv 3)) pa_nil))) pa_nil)))))
      (pss_cons (ps_if (pt_cmpR op_eq (pv 2) pe_int (nomark _)) (pss_one (ps_par (i := 4) (j := 3) (by rfl) nd rfl rfl (by decide) rfl rfl
          (pa_cons (pe_op op_add pe_int (pe_call GD hr (by rfl) gD kD bD .nil pass0 (pa_cons (pv 0) (pa_cons pe_int pa_nil))))
            (pa_cons (pe_op op_add pe_int (pe_call GD hr (by rfl) gD kD bD .nil pass0 (pa_cons (pv 0) (pa_cons pe_int pa_nil)))) pa_nil)) (by rfl))) pss_nil)
      (pss_cons (ps_asg (pe_tup (pa_cons (pe_call GD hr (by rfl) gD kD bD .nil pass0 (pa_cons (pv 0) (pa_cons (pe_op op_sub pe_int (pv 4)) pa_nil)))
            (pa_cons (pe_call GD hr (by rfl) gD kD bD .nil pass0 (pa_cons (pv 0) (pa_cons (pe_op op_sub pe_int (pv 3)) pa_nil))) (pa_cons (pe_lst pa_nil) pa_nil))))
          (pg_tup (by rfl) (pgs_cons (pg_name (i := 5) nd rfl (.inr rfl)) (pgs_cons (pg_name (i := 6) nd rfl (.inr rfl)) (pgs_cons (pg_name (i := 7) nd rfl (.inl rfl)) pgs_nil)))))
      (pss_cons (ps_for PassesOwn.never rfl (pi_range1 (by rfl) mr (pa_cons (pv 4) pa_nil)) (pg_name (i := 8) nd rfl (.inr rfl))
          (pss_one (ps_expr (pe_bm PySem.F.plainAttrs_list PySem.F.slot_list_extend PySem.F.type_list_extend mt_extend (pv 7)
            (pa_cons (pe_lc (own := [("_law_side", 11)]) (g := gName 11) (tt := tYes) rfl nd (pi_range1 (by rfl) mr (pa_cons (pv 3) pa_nil)) (blkOk_by (N := nPlan) (sc := defScope sPlan) (by decide +kernel))
              (fun _ _ _ _ _ => pg_name (i := 11) nd rfl (Or.inl rfl)) (fun _ _ _ _ _ => pts_nil) (fun _ _ _ _ _ => pe_tup (pa_cons (pe_op op_add (pv 5) (pv 8)) (pa_cons (pe_op op_add (pv 6) (pv 11)) pa_nil)))) pa_nil)))))
      (pss_cons (ps_if (pt_cmpR op_eq (pv 2) pe_int (nomark _)) (pss_one (ps_set (i := 7) nd rfl (.inl rfl) (pe_orT
          (pe_lc (own := [("_law_spot", 12)]) (g := gName 12) rfl nd (pi_list (pv 7)) (blkOk_by (N := nPlan) (sc := defScope sPlan) (by decide +kernel))
            (fun _ _ _ _ _ => pg_name (i := 12) nd rfl (Or.inl rfl)) (fun _ _ _ _ _ => pts_one (pt_cmpR op_gt (pe_call GD hr (by rfl) gD kD bD .nil pass0 (pa_cons (pv 0) (pa_cons pe_int pa_nil))) pe_int (nomark _))) (fun _ _ _ _ _ => pv 12)) (pe_one (pv 7))))) pss_nil)
      (pss_cons (ps_if (pt_cmpR op_eq (pv 2) pe_int (nomark _)) (pss_one (ps_set (i := 7) nd rfl (.inl rfl) (pe_orT
          (pe_lc (own := [("_law_spot", 12)]) (g := gName 12) rfl nd (pi_list (pv 7)) (blkOk_by (N := nPlan) (sc := defScope sPlan) (by decide +kernel))
            (fun _ _ _ _ _ => pg_name (i := 12) nd rfl (Or.inl rfl)) (fun _ _ _ _ _ => pts_one (pt_cmpR op_gt (pe_call GD hr (by rfl) gD kD bD .nil pass0 (pa_cons (pv 0) (pa_cons pe_int pa_nil))) pe_int (nomark _))) (fun _ _ _ _ _ => pv 12)) (pe_one (pv 7))))) pss_nil)
      (pss_cons (ps_if (pt_cmpR op_eq (pv 2) pe_int (nomark _)) (pss_cons (ps_set (i := 9) nd rfl (.inr rfl) (pe_op op_add (pe_op op_add (pv 5) (pv 6)) (pe_call GD hr (by rfl) gD kD bD .nil pass0 (pa_cons (pv 0) (pa_cons pe_int pa_nil)))))
          (pss_cons (ps_set (i := 10) nd rfl (.inr rfl) (pe_op op_sub (pe_op op_sub (pe_op op_add (pe_op op_add (pe_op op_add (pv 5) (pv 6)) (pv 4)) (pv 3)) pe_int) (pe_call GD hr (by rfl) gD kD bD .nil pass0 (pa_cons (pv 0) (pa_cons pe_int pa_nil)))))
          (pss_one (ps_set (i := 7) nd rfl (.inl rfl) (pe_orT
          (pe_lc (own := [("_law_spot", 12)]) (g := gName 12) rfl nd (pi_list (pv 7)) (blkOk_by (N := nPlan) (sc := defScope sPlan) (by decide +kernel))
            (fun _ _ _ _ _ => pg_name (i := 12) nd rfl (Or.inl rfl)) (fun _ _ _ _ _ => pts_one (pt_chain op_le op_le (pv 9) (pe_callB (id := "sum") (r := rSumT K) (cr_sumT rfl) (by rfl) ms (by decide +kernel) (pa_cons (pv 12) pa_nil)) (pv 10))) (fun _ _ _ _ _ => pv 12)) (pe_one (pv 7))))))) pss_nil)
      (pss_cons (ps_while PassesOwn.never (pt_cmpR op_gt (pe_callB call_len_seq (by rfl) ml PySem.boot_len (pa_cons (pv 7) pa_nil)) (pv 1) (nomark _))
          (pss_one (ps_expr (pe_bm PySem.F.plainAttrs_list PySem.F.slot_list_pop PySem.F.type_list_pop mt_popAt (pv 7)
            (pa_cons (pe_call GD hr (by rfl) gD kD bD .nil pass0 (pa_cons (pv 0) (pa_cons (pe_callB call_len_seq (by rfl) ml PySem.boot_len (pa_cons (pv 7) pa_nil)) pa_nil))) pa_nil)))))
      (pss_one (ps_ret (pe_callTy call_tuple_of (by rfl) mt (by decide +kernel) (pa_cons (pv 7) pa_nil)))))))))))), ?_⟩
    -- mode, wide
    refine ⟨_, rfl, p, 4, rfl, po, by decide, by decide, fun H1 mode k1 po1 _ _ => ?_⟩
    have mb : 0 < (if m < 8 then m else 8 : Int) ∧ (if m < 8 then m else 8 : Int) ≤ 8 ∧ (if m < 8 then m else 8 : Int) ≤ m := by
      by_cases c : m < 8
      · rw [if_pos c]
        omega
      · rw [if_neg c]
        omega
    refine ⟨_, rfl, _, rfl, 8, m, rfl, p, _, rfl, po1, mb.1, by omega, fun H2 w k2 po2 w0 w1 => ?_⟩
    refine ⟨_, _, rfl, rfl, _, _, rfl, ?_⟩
    -- high
    have qd : 1 ≤ m / (1 + w) := by
      have : (1 : Int) * (1 + w) ≤ m := by omega
      exact (Int.le_ediv_iff_mul_le (by omega)).mpr this
    have hb : 0 < (if m / (1 + w) < 8 then m / (1 + w) else 8 : Int) ∧ (if m / (1 + w) < 8 then m / (1 + w) else 8 : Int) ≤ 8 := by
      by_cases c : m / (1 + w) < 8
      · rw [if_pos c]
        omega
      · rw [if_neg c]
        omega
    refine ⟨_, rfl, _, rfl, _, rfl, _, _, rfl, rfl, ⟨by omega, by omega⟩, 8, _, rfl, p, _, rfl, po2, hb.1, by omega, fun H3 h k3 po3 h0 h1 => ?_⟩
    refine ⟨_, _, rfl, rfl, ?_⟩
    refine par_if (p := p) (m := m) (mode := mode) (wide := 1 + w) (high := 1 + h) po3 ⟨by omega, by omega⟩ ⟨by omega, by omega⟩ (fun wide high H4 k4 po4 hw hh => ?_)
    have kx4 : KeepX p H H4 := ((k1.trans k2).trans k3).trans k4
    -- top, left, every
    refine ⟨_, rfl, _, rfl, _, _, rfl, rfl, p, _, rfl, po4, by omega, by omega, fun H5 top k5 po5 t0 t1 => ?_⟩
    refine ⟨_, rfl, _, rfl, _, _, rfl, rfl, p, _, rfl, po5, by omega, by omega, fun H6 left k6 po6 l0 l1 => ?_⟩
    refine ⟨Nat.zero_le _, fun e ne => ⟨(by show 3 ≤ sizeLine; decide), fun T nT => ?_⟩⟩
    have kx6 : KeepX p H H6 := (kx4.trans k5).trans k6
    have s7 := same_new (o := .lst []) ne
    have s8 := same_new (o := .tup [.int top, .int left, .ref e]) nT
    have po8 := (po6.same s7).same s8
    have he8 := s8 _ _ (show upd H6 e (.lst []) e = _ from upd_same)
    refine ⟨T, _, rfl, SqT.of upd_same, rfl, _, _, rfl, _, _, rfl, _, _, rfl, rfl, ?_⟩
    have nep : e ≠ p := Ne.symm (po6.ne ne)
    have heH : H e = none := by
      cases z : H e with
      | none => rfl
      | some o =>
        have := kx6 e o nep z
        rw [ne] at this
        cases this
    -- the rows
    refine ⟨_, rfl, high, rfl, by omega, by omega, for_range (lo := 0) (n := high.toNat) (fun i σ H' => ∃ (y8 : Option V) (xs : List V) (cs : List Cell),
      σ = [some (.ref p), some (.int m), some (.int mode), some (.int wide), some (.int high), some (.int top), some (.int left), some (.ref e), y8, none, none, none, none] ∧
      KeepX p H H' ∧ PoolO (H' p) ∧ H' e = some (.lst xs) ∧ CellsT H' xs cs ∧ cs.Pairwise lt2 ∧ (∀ c ∈ cs, top ≤ c.1 ∧ c.1 < top + i ∧ left ≤ c.2 ∧ c.2 < left + wide) ∧ i ≤ cs.length ∧ cs.length ≤ 8 * i) ?_ ?_ ?_⟩
    · refine ⟨none, [], [], rfl, (kx6.trans (.of_same s7)).trans (.of_same s8), po8, he8, .nil, .nil, (fun c hc => nomatch hc), Nat.le_refl _, Nat.le_refl _⟩
    · rintro i σ H' hi ⟨y8, xs, cs, rfl, kx, po', he, hc, pw, bd, c0, c1⟩
      have hi' : (i : Int) < high := by omega
      have hlen := Paired.length hc
      refine ⟨_, rfl, .inl ⟨rfl, _, SqL.of he⟩, _, rfl, wide, rfl, by omega, by omega, fun d nd2 => ?_⟩
      have ned : e ≠ d := ne_of_none he nd2
      have npd : p ≠ d := po'.ne nd2
      refine lc_range (lo := 0) (n := wide.toNat) (fun j H2 => ∃ acc : List V, H2 d = some (.lst acc) ∧ CellsT H2 acc (rowCells (top + i) left j) ∧ (∀ b o, b ≠ d → H' b = some o → H2 b = some o)) ?_ ?_ ?_
      · exact ⟨[], upd_same, .nil, fun b o n z => by rw [upd_ne n]; exact z⟩
      · rintro j H2 hj ⟨acc, a1, a2, a3⟩
        refine ⟨rfl, _, rfl, _, rfl, _, _, rfl, rfl, _, rfl, _, rfl, _, _, rfl, rfl, (by show 2 ≤ sizeLine; decide), fun t nt => ?_⟩
        have ndt : d ≠ t := ne_of_none a1 nt
        have st := same_new (o := .tup [.int (top + (0 + (i : Int))), .int (left + (0 + (j : Int)))]) nt
        have hal : acc.length = j := by
          rw [Paired.length a2, rowCells_len]
        refine ⟨acc, st _ _ a1, small64 (by omega), acc ++ [.ref t], upd_same, ?_, fun b o n z => ?_⟩
        · rw [rowCells_succ]
          refine paired_append (cellsT_kt ((KTt.of_same st).trans (KTt.upd (st _ _ a1))) a2) (.cons ⟨t, rfl, ?_⟩ .nil)
          rw [upd_ne (Ne.symm ndt), upd_same, Int.zero_add, Int.zero_add]
        · rw [upd_ne n]
          exact st _ _ (a3 b o n z)
      · rintro H2 ⟨acc, a1, a2, a3⟩
        have hw' : (wide.toNat : Int) = wide := Int.toNat_of_nonneg (by omega)
        have hal : acc.length = wide.toNat := by
          rw [Paired.length a2, rowCells_len]
        have kt2 : KTt H' H2 := KTt.of_same fun b o z => a3 b o (ne_of_none z nd2) z
        have he2 := a3 _ _ ned he
        refine ⟨e, d, xs, acc, rfl, rfl, he2, a1, by
          rw [sizeLine_eq]
          omega, ?_⟩
        refine ⟨_, xs ++ acc, cs ++ rowCells (top + i) left wide.toNat, rfl, ?_, ?_, upd_same, ?_, ?_, ?_, ?_, ?_⟩
        · intro b o n z
          have nbe : b ≠ e := ne_of_none z heH
          rw [upd_ne nbe]
          have z' := kx b o n z
          exact a3 b o (ne_of_none z' nd2) z'
        · rw [upd_ne (Ne.symm nep)]
          obtain ⟨x1, x2, x3, x4, x5⟩ := po'
          exact ⟨x1, x2, x3, a3 _ _ npd x4, x5⟩
        · exact cellsT_kt (KTt.upd he2) (paired_append (cellsT_kt kt2 hc) a2)
        · rw [List.pairwise_append]
          refine ⟨pw, rowCells_asc _ _ _, fun x hx y hy => ?_⟩
          have b1 := bd x hx
          have b2 := rowCells_mem hy
          exact .inl (by omega)
        · intro c hc'
          rcases List.mem_append.mp hc' with z | z
          · have := bd c z
            omega
          · have := rowCells_mem z
            omega
        · rw [List.length_append, rowCells_len]
          omega
        · rw [List.length_append, rowCells_len]
          omega
    · rintro σ H' ⟨y8, xs, cs, rfl, kx, po', he, hc, pw, bd, c0, c1⟩
      have hh' : (high.toNat : Int) = high := Int.toNat_of_nonneg (by omega)
      have hst : PlStT K p H m mode wide high top left [some (.ref p), some (.int m), some (.int mode), some (.int wide), some (.int high), some (.int top), some (.int left), some (.ref e), y8, none, none, none, none] H' :=
        ⟨⟨e, xs, cs, y8, none, none, rfl, heH, nep, he, hc, ⟨pw, fun c z => by
          have := bd c z
          exact ⟨by omega, by omega, by omega, by omega⟩, fun z => by
          subst z
          have : high.toNat ≤ 0 := c0
          omega⟩, by omega⟩, kx, po'⟩
      refine filT_if hst (fun t c => drawT_test hst (by decide) (by decide) t c) (fun σ1 G1 h1' => ?_)
      refine filT_if h1' (fun t c => drawT_test h1' (by decide) (by decide) t c) (fun σ2 G2 h2' => ?_)
      refine filT3_if h2' (fun σ3 G3 h3' => ?_)
      -- while len(every) > most
      refine ⟨fun n σ G => ∃ (e : Addr) (xs : List V) (cs : List Cell) (y8 y9 y10 : Option V),
        σ = [some (.ref p), some (.int m), some (.int mode), some (.int wide), some (.int high), some (.int top), some (.int left), some (.ref e), y8, y9, y10, none, none] ∧
        H e = none ∧ e ≠ p ∧ G e = some (.lst xs) ∧ CellsT G xs cs ∧ Good cs ∧ cs.length ≤ 64 ∧ KeepX p H G ∧ PoolO (G p) ∧ n = xs.length, ?_, ?_⟩
      · obtain ⟨⟨e, xs, cs, y8, y9, y10, es, he0, hep, he, hc, gd, hl⟩, kx, po⟩ := h3'
        exact ⟨xs.length, e, xs, cs, y8, y9, y10, es, he0, hep, he, hc, gd, hl, kx, po, rfl⟩
      · rintro n σ4 G4 ⟨e4, xs4, cs4, y8, y9, y10, rfl, he0, hep, he4, hc4, gd4, hl4, kx4, po4', rfl⟩
        have hlen := Paired.length hc4
        refine ⟨_, rfl, e4, xs4, rfl, .inl (SqL.of he4), _, rfl, _, _, rfl, rfl, _, rfl, ite2 (fun c => ?_) (fun c => ?_)⟩
        · have c' : m < (xs4.length : Int) := of_decide_eq_true c
          refine ⟨fun σ' G' => ∃ n', n' < xs4.length ∧ ∃ (e : Addr) (xs : List V) (cs : List Cell) (y8 y9 y10 : Option V),
            σ' = [some (.ref p), some (.int m), some (.int mode), some (.int wide), some (.int high), some (.int top), some (.int left), some (.ref e), y8, y9, y10, none, none] ∧
            H e = none ∧ e ≠ p ∧ G' e = some (.lst xs) ∧ CellsT G' xs cs ∧ Good cs ∧ cs.length ≤ 64 ∧ KeepX p H G' ∧ PoolO (G' p) ∧ n' = xs.length, fun σ' G' z => z, ?_⟩
          refine ⟨_, rfl, .inl ⟨rfl, _, SqL.of he4⟩, _, rfl, _, rfl, e4, xs4, rfl, .inl (SqL.of he4), p, _, rfl, po4', by omega, by omega, fun G5 r k5 po5 r0 r1 => ?_⟩
          have hr' : ((r.toNat : Nat) : Int) = r := Int.toNat_of_nonneg r0
          have hlt : r.toNat < xs4.length := by omega
          have he5 := k5 _ _ hep he4
          refine ⟨e4, xs4, r, r.toNat, xs4[r.toNat], rfl, rfl, he5, by omega, by omega, ?_, List.getElem?_eq_getElem hlt, ?_⟩
          · unfold seqIndex?
            have e1 : ¬ r < 0 := by omega
            simp only [if_neg e1]
            rw [if_pos]
            simp only [Bool.and_eq_true, decide_eq_true_eq]
            exact ⟨r0, r1⟩
          · have hel : (xs4.eraseIdx r.toNat).length = xs4.length - 1 := List.length_eraseIdx_of_lt hlt
            have hpe := paired_erase r.toNat hc4
            have hsub := List.eraseIdx_sublist cs4 r.toNat
            refine ⟨(xs4.eraseIdx r.toNat).length, by omega, e4, _, cs4.eraseIdx r.toNat, y8, y9, y10, rfl, he0, hep, upd_same, cellsT_kt ((KTt.of_keepX po4' k5).trans (KTt.upd he5)) hpe,
              ⟨gd4.asc.sublist hsub, fun c hc => gd4.grid c (hsub.subset hc), fun z => ?_⟩, Nat.le_trans hsub.length_le hl4, ?_, ?_, rfl⟩
            · have q1 := Paired.length hpe
              rw [z, hel] at q1
              have : xs4.length - 1 = 0 := q1
              omega
            · intro b o n z
              rw [upd_ne (ne_of_none z he0)]
              exact k5 _ _ n (kx4 _ _ n z)
            · rw [upd_ne (Ne.symm hep)]
              exact po5
        · have c' : ¬ m < (xs4.length : Int) := fun z => c (decide_eq_true z)
          refine ⟨_, rfl, e4, xs4, rfl, .inl ⟨SqL.of he4, fun l nl => ?_⟩⟩
          have sl := same_new (o := .tup xs4) nl
          refine q _ l cs4 (kx4.trans (.of_same sl)) (po4'.same sl) ⟨xs4, SqT.of upd_same, cellsT_kt (.of_same sl) hc4⟩ gd4 (by omega) ?_
          cases z : H l with
          | none => rfl
          | some o =>
            have := kx4 l o (Ne.symm (po4'.ne nl)) z
            rw [nl] at this
            cases this
end
end KS
namespace KS
open PySem PySem.Spec PyProof.Rows L2
/-! ### sorted(t), t a tuple of whole numbers -/
def rSortedTI (K : PySem.W.Frag) : List V → Hp → VK → Prop := fun vs H Q => ∃ (a : Addr) (ns : List Int), vs = [V.ref a] ∧ SqT K H a (ns.map V.int) ∧
  ∀ (ns' : List Int) (p : Addr) (H' : Hp), ns'.Perm ns → ns'.Pairwise (· ≤ ·) → H p = none → H' = upd H p (.lst (ns'.map V.int)) → Q (.ref p) H'
theorem cr_sortedTI {X : Cx} : CallR X (.builtin "sorted") (rSortedTI X.K) := by
  intro pins s σ H vs us Q I r h
  obtain ⟨a, ns, rfl, ht, q⟩ := h
  obtain ⟨its, rv, ⟨o, ho, hc, n, hd⟩, hz⟩ := I.tuple ht
  rw [Vals.ref1 r]
  have hi := rv.ints
  have hl := rv.length
  have hzz : its.length ≤ sizeLine := by rw [← hl]; exact hz
  refine Calls.call_function_entry kind_sorted plain_sorted entry_sorted (args_sorted1 _) ?_
  unfold Builtin.«sorted»
  refine wpAny_bind (m := checkCount "sorted" 1 1 _) (wpAny_pure ?_)
  refine wpAny_bind (wpAny_collect_seq a (T := "tuple") (.inr rfl) ho hc hd (fun h1 hk => ?_) (by rw [List.size_toArray]; exact hzz))
  rw [List.toList_toArray]
  have I1 : Inv X pins σ H { s with heap := h1 } := I.kept (t' := s.toks) hk
  refine wpAny_bind (wpAny_newList ?_ hzz)
  have hoL : (h1.push (seqObj "list" its.toArray 0)).get? h1.objs.size = some (seqObj "list" its.toArray 0) := Heap.get?_push_size _ rfl
  show wpAny _ _ _ _ _ { s with heap := h1.push (seqObj "list" its.toArray 0) }
  refine wpAny_bind (wpAny_holding (wpAny_call_entry slot_list_sort ⟨_, hoL, rfl⟩ entry_list_sort (SrtO.list_sort_ord (s := { s with heap := h1.push (seqObj "list" its.toArray 0) }) SrtO.swo_int hoL hzz (fun h2 => SrtO.ints_sortable hi h2) fun out g1 g2 => ⟨_, rfl, ?_⟩) (args_list_sort _)))
  obtain ⟨k1, k2, k3⟩ := SrtO.ints_out hi g1 g2
  obtain ⟨ep, he⟩ := sortedHeap_at (vs := its) (out := out.toArray) hoL
  have hlen : ((out.map SrtO.iv).map V.int).length ≤ sizeLine := by
    rw [List.length_map, k2.length_eq]
    rw [List.length_map] at hz
    exact hz
  refine wpAny_pure ⟨_, rfl, .ref h1.objs.size, upd H h1.objs.size (.lst ((out.map SrtO.iv).map V.int)), I1.laid (t' := s.toks) (fun b u e => ?_) (Nat.le_refl _) ⟨hlen, out, ep, vals_of_ints k1, he⟩, rfl, q _ _ _ k2 k3 (I1.hok.fresh (Nat.le_refl _)) rfl⟩
  have hb : b < h1.objs.size := Heap.lt_size e
  rw [sortedHeap_old (Nat.ne_of_lt hb) (by rw [size_push']; exact Nat.lt_succ_of_lt hb)]
  exact Heap.get?_push_of_some _ e
/-! ### ranks -/
def rkI (vs : List Int) (v : Int) : Int := 1 + ((vs.filter fun u => decide (u < v)).length : Int)
def rks (vs : List Int) : List Int := vs.map (rkI vs)
theorem rkI_perm {vs us : List Int} (p : vs.Perm us) : rkI vs = rkI us := by
  funext v
  unfold rkI
  rw [(p.filter _).length_eq]
theorem rkI_mono {vs : List Int} {v w : Int} (h : v ≤ w) : rkI vs v ≤ rkI vs w := by
  unfold rkI
  have : (vs.filter fun u => decide (u < v)).length ≤ (vs.filter fun u => decide (u < w)).length := by
    rw [← List.countP_eq_length_filter, ← List.countP_eq_length_filter]
    exact List.countP_mono_left fun u _ hu => decide_eq_true (by have := of_decide_eq_true hu; omega)
  omega
theorem filter_lt_len : ∀ {vs : List Int} {v w : Int}, v < w → v ∈ vs → (vs.filter fun u => decide (u < v)).length < (vs.filter fun u => decide (u < w)).length
  | [], _, _, _, m => by cases m
  | u :: us, v, w, h, m => by
    have le : (us.filter fun u => decide (u < v)).length ≤ (us.filter fun u => decide (u < w)).length := by
      rw [← List.countP_eq_length_filter, ← List.countP_eq_length_filter]
      exact List.countP_mono_left fun u _ hu => decide_eq_true (by have := of_decide_eq_true hu; omega)
    by_cases e : u = v
    · subst e
      rw [List.filter_cons_of_neg (by simp), List.filter_cons_of_pos (by simpa using h), List.length_cons]
      omega
    · have m' : v ∈ us := by
        rcases List.mem_cons.mp m with z | z
        · exact absurd z.symm e
        · exact z
      have ih := filter_lt_len h m'
      by_cases c1 : u < v
      · rw [List.filter_cons_of_pos (by simpa using c1), List.filter_cons_of_pos (by simp; omega), List.length_cons, List.length_cons]
        omega
      · rw [List.filter_cons_of_neg (by simpa using c1)]
        by_cases c2 : u < w
        · rw [List.filter_cons_of_pos (by simpa using c2), List.length_cons]
          omega
        · rw [List.filter_cons_of_neg (by simpa using c2)]
          exact ih
theorem rkI_lt {vs : List Int} {v w : Int} (h : v < w) (m : v ∈ vs) : rkI vs v < rkI vs w := by
  have := filter_lt_len h m
  unfold rkI
  omega
theorem rkI_inj {vs : List Int} {v w : Int} (hv : v ∈ vs) (hw : w ∈ vs) (e : rkI vs v = rkI vs w) : v = w := by
  rcases Int.lt_trichotomy v w with c | c | c
  · have := rkI_lt c hv
    omega
  · exact c
  · have := rkI_lt c hw
    omega
theorem rkI_bd {vs : List Int} {v : Int} (hv : v ∈ vs) : 1 ≤ rkI vs v ∧ rkI vs v ≤ (vs.length : Int) := by
  have a : (vs.filter fun u => decide (u < v)).length < vs.length := by
    have le := List.length_filter_le (fun u => decide (u < v)) vs
    rcases Nat.lt_or_ge (vs.filter fun u => decide (u < v)).length vs.length with c | c
    · exact c
    · have e : (vs.filter fun u => decide (u < v)).length = vs.length := by omega
      have := List.length_filter_eq_length_iff.mp e v hv
      simp at this
  unfold rkI
  omega
theorem rks9 {n : Nat} {vs : List Int} (h : Vals9 n vs) (hn : n ≤ 24) : Vals9 n (rks vs) := by
  refine ⟨by unfold rks; rw [List.length_map, h.len], ?_, fun v hv => ?_⟩
  · unfold rks
    rw [List.nodup_iff_pairwise_ne, List.pairwise_map]
    have nd := List.nodup_iff_pairwise_ne.mp h.nd
    refine nd.imp_of_mem fun {a b} ha hb q e => q (rkI_inj ha hb e)
  · obtain ⟨u, hu, rfl⟩ := List.mem_map.mp hv
    have := rkI_bd hu
    have := h.len
    omega
/-! ### a rising map goes through a sort -/
theorem sortI_map {f : Int → Int} (hf : ∀ a b, a ≤ b → f a ≤ f b) (l : List Int) : sortI (l.map f) = (sortI l).map f := by
  refine (sortI_eq ((sortI_perm l).map f) ?_).symm
  rw [List.pairwise_map]
  exact (sortI_asc l).imp fun h => hf _ _ h
theorem putZ_map (f : Int → Int) : ∀ (zs : List (Int × Int)) (acc : List Int), (putZ acc zs).map f = putZ (acc.map f) (zs.map fun z => (z.1, f z.2))
  | [], _ => rfl
  | z :: zs, acc => by
    show (putZ (acc.set z.1.toNat z.2) zs).map f = putZ ((acc.map f).set z.1.toNat (f z.2)) (zs.map fun z => (z.1, f z.2))
    rw [putZ_map f zs, List.map_set]
theorem zip_map_r (f : Int → Int) : ∀ (l m : List Int), l.zip (m.map f) = (l.zip m).map fun z => (z.1, f z.2)
  | [], _ => by simp
  | _ :: _, [] => by simp
  | a :: l, b :: m => by
    simp only [List.map_cons, List.zip_cons_cons]
    rw [zip_map_r f l m]
theorem getI_map {f : Int → Int} {vs : List Int} {k : Int} (h : ∃ j : Nat, k = (j : Int) ∧ j < vs.length) : getI (vs.map f) k = f (getI vs k) := by
  obtain ⟨j, rfl, hj⟩ := h
  unfold getI
  rw [List.getD_eq_getElem?_getD, List.getD_eq_getElem?_getD, List.getElem?_map, Int.toNat_natCast, List.getElem?_eq_getElem hj]
  rfl
theorem srtL_map {f : Int → Int} (hf : ∀ a b, a ≤ b → f a ≤ f b) {vs acc l : List Int} (hl : ∀ k ∈ l, ∃ j : Nat, k = (j : Int) ∧ j < vs.length) : srtL (vs.map f) (acc.map f) l = (srtL vs acc l).map f := by
  unfold srtL
  have e : l.map (getI (vs.map f)) = (l.map (getI vs)).map f := by
    rw [List.map_map]
    exact List.map_congr_left fun k hk => getI_map (hl k hk)
  rw [e, sortI_map hf, zip_map_r, putZ_map]
theorem srtTo_map {f : Int → Int} (hf : ∀ a b, a ≤ b → f a ≤ f b) {vs : List Int} : ∀ {ls : List (List Int)} {acc : List Int}, (∀ l ∈ ls, ∀ k ∈ l, ∃ j : Nat, k = (j : Int) ∧ j < vs.length) →
    ls.foldl (srtL (vs.map f)) (acc.map f) = (ls.foldl (srtL vs) acc).map f
  | [], _, _ => rfl
  | l :: ls, acc, h => by
    show ls.foldl (srtL (vs.map f)) (srtL (vs.map f) (acc.map f) l) = _
    rw [srtL_map hf (h l List.mem_cons_self)]
    exact srtTo_map hf fun m hm => h m (List.mem_cons_of_mem _ hm)
theorem srt_map {f : Int → Int} (hf : ∀ a b, a ≤ b → f a ≤ f b) {b : Bool} {cs : List Cell} {vs : List Int} (hv : vs.length = cs.length) : srt b cs (vs.map f) = (srt b cs vs).map f := by
  unfold srt srtTo
  refine srtTo_map hf fun l hl k hk => ?_
  rw [hv]
  exact (lns_mem hl).1 k hk
theorem aft_map {f : Int → Int} (hf : ∀ a b, a ≤ b → f a ≤ f b) {cs : List Cell} : ∀ (w : List Bool) {vs : List Int}, vs.length = cs.length → aft cs w (vs.map f) = (aft cs w vs).map f
  | [], _, _ => rfl
  | b :: w, vs, hv => by
    show aft cs w (srt b cs (vs.map f)) = (aft cs w (srt b cs vs)).map f
    rw [srt_map hf hv]
    exact aft_map hf w (by rw [srt_len]; exact hv)
theorem rks_aft {cs : List Cell} (w : List Bool) {vs : List Int} (hv : vs.length = cs.length) : rks (aft cs w vs) = aft cs w (rks vs) := by
  unfold rks
  rw [aft_map (fun a b h => rkI_mono h) w hv, rkI_perm (aft_perm w hv)]
theorem rks_srt {b : Bool} {cs : List Cell} {vs : List Int} (hv : vs.length = cs.length) : rks (srt b cs vs) = srt b cs (rks vs) := rks_aft [b] hv
theorem map_inj_on {f : Int → Int} : ∀ {l m : List Int}, (∀ a ∈ l, ∀ b ∈ m, f a = f b → a = b) → l.map f = m.map f → l = m
  | [], [], _, _ => rfl
  | [], _ :: _, _, h => by simp at h
  | _ :: _, [], _, h => by simp at h
  | a :: l, b :: m, hi, h => by
    simp only [List.map_cons, List.cons.injEq] at h
    rw [hi a List.mem_cons_self b List.mem_cons_self h.1, map_inj_on (fun x hx y hy => hi x (List.mem_cons_of_mem _ hx) y (List.mem_cons_of_mem _ hy)) h.2]
theorem rises_rks {b : Bool} {cs : List Cell} {vs : List Int} (hv : vs.length = cs.length) : rises b cs (rks vs) = rises b cs vs := by
  have hr : (rks vs).length = cs.length := by
    unfold rks
    rw [List.length_map, hv]
  rw [← fix_rises hr, ← fix_rises hv, ← rks_srt hv]
  by_cases e : srt b cs vs = vs
  · rw [e, decide_eq_true rfl, decide_eq_true rfl]
  · rw [decide_eq_false e]
    refine decide_eq_false fun z => e ?_
    unfold rks at z
    rw [rkI_perm (srt_perm hv)] at z
    exact map_inj_on (fun a ha c hc => rkI_inj ((srt_perm hv).mem_iff.mp ha) hc) z
theorem settled_rks {cs : List Cell} {vs : List Int} (hv : vs.length = cs.length) : settled cs (rks vs) = settled cs vs := by
  unfold settled
  rw [rises_rks hv, rises_rks hv]
theorem rest_rks {cs : List Cell} {b : Bool} {vs : List Int} {n : Nat} (hv : vs.length = cs.length) (h : RestIs cs b vs n) : RestIs cs b (rks vs) n := by
  have e : ∀ m, settled cs (stat cs b (rks vs) m) = settled cs (stat cs b vs m) := fun m => by
    unfold stat
    rw [← rks_aft _ hv, settled_rks (by rw [aft_len, hv])]
  exact ⟨by rw [e]; exact h.end_, fun m hm => by rw [e]; exact h.least m hm⟩
/-- the place of a value in a rising list -/
theorem idx_asc : ∀ {l : List Int} {j : Nat} {v : Int}, l.Pairwise (· < ·) → l[j]? = some v → ((l.filter fun u => decide (u < v)).length) = j
  | [], j, v, _, h => by simp at h
  | a :: l, 0, v, p, h => by
    simp at h
    subst h
    rw [List.filter_cons_of_neg (by simp)]
    have : l.filter (fun u => decide (u < a)) = [] := List.filter_eq_nil_iff.mpr fun x hx => by
      have := (List.pairwise_cons.mp p).1 x hx
      simp
      omega
    rw [this]
    rfl
  | a :: l, j + 1, v, p, h => by
    have h' : l[j]? = some v := by simpa using h
    have ih := idx_asc (List.pairwise_cons.mp p).2 h'
    have := (List.pairwise_cons.mp p).1 v (List.mem_of_getElem? h')
    rw [List.filter_cons_of_pos (by simpa using this), List.length_cons, ih]
/-- a method's call inside a comprehension, where the written part is named by hand -/
theorem pe_bmK {X : Cx} {K : PySem.W.Frag} {o e : Expr} {es : List Expr} {to : TE} {t : TA} {name : Str} {apos cpos : Pos} {T id : String} {r : V → List V → Hp → VK → Prop} (hK : X.K = K) (pa : PlainAttrs T) (slot : Slot T name id)
    (hty : typeOf (.builtin id) = pure (.type "method_descriptor")) (hm : MtR X id r) (ho : PE X o to) (ha : PA X (e :: es) t)
    (hbase : attributeBase o name X.env (eval o X.env) = eval o X.env := by rfl)
    (hfew : ((backTo cpos (starEach (e :: es) X.env)).all (fun x => !x.1) && (backToKw cpos (keywordEach [] X.env)).all (fun x => x.1.isSome) && decide ((e :: es).length + ([] : List Keyword).length + (if ([] : List Keyword).isEmpty then 0 else 1) < 30)) = true := by rfl)
    (hline : (apos.endLine == cpos.line) = true := by rfl) (hs : starEach (e :: es) X.env = (false, eval e X.env) :: starEach es X.env := by rfl) (hplain : (backTo cpos (starEach es X.env)).any (·.1) = false := by rfl) :
    PE X (.Call (.Attribute o name apos) (e :: es) [] cpos) (tBM K T r to t) := by
  subst hK
  exact pe_bm pa slot hty hm ho ha hbase hfew hline hs hplain
theorem pg_tupK {X : Cx} {K : PySem.W.Frag} {es : List Expr} {k n : Nat} {pos : Pos} {t : TGs} (hK : X.K = K) (hc : X.calm = true) (h : PGs X es t) (hn : (assignEach es X.env).length = n := by rfl) (hst : (assignEach es X.env).findIdx? (·.1) = none := by rfl) : PG X (.Tuple es k pos) (gTup K n t) := by
  subst hK
  exact pg_tup hc h hn hst
end KS
namespace KS
open PySem PySem.Spec PyProof.Rows L2
/-- for comprehensions within comprehensions -/
def rLenSeq (K : PySem.W.Frag) : List V → Hp → VK → Prop := fun xs H Q => ∃ p ys, xs = [.ref p] ∧ (SqL K H p ys ∨ SqT K H p ys) ∧ Q (.int ys.length) H
theorem call_lenK {X : Cx} {K : PySem.W.Frag} (hK : X.K = K) : CallR X (.builtin "len") (rLenSeq K) := by
  subst hK
  exact call_len_seq
theorem pi_tupK {X : Cx} {K : PySem.W.Frag} {tg l : Expr} {tl : TE} (hK : X.K = K) (hl : PE X l tl) : PI X tg l (iTup K tl) := by
  subst hK
  exact pi_tup hl
theorem pi_listK {X : Cx} {K : PySem.W.Frag} {tg l : Expr} {tl : TE} (hK : X.K = K) (hl : PE X l tl) : PI X tg l (iList K tl) := by
  subst hK
  exact pi_list hl
end KS
namespace KS
open PySem PySem.Spec PyProof.Rows L2 RZ TL
section
variable {X : Cx}
/-- {k: v for ..} as a value, the keys tuples -/
theorem pe_dcT {kx vx tg iter : Expr} {ifs : List Expr} {scope : Scope} {own : List (Str × Nat)} {pos : Pos} {wi : TI} {g : TG} {tt : TT} {tk tv : TE} (hu : X.A.units < cLine) (hc : X.calm = true) (hN : X.N.Nodup) (hi : PI X tg iter wi) (ok : BlkOk X.N X.env.scope scope own)
    (hg : ∀ (s : Shared) (H : Hp) (C : Addr) (cl : List (Str × Addr)) (fp : List Addr), PG (X.blk s H scope (compEnvC scope cl C X.env) fp) tg g)
    (ht : ∀ (s : Shared) (H : Hp) (C : Addr) (cl : List (Str × Addr)) (fp : List Addr), PTs (X.blk s H scope (compEnvC scope cl C X.env) fp) ifs tt)
    (hk : ∀ (s : Shared) (H : Hp) (C : Addr) (cl : List (Str × Addr)) (fp : List Addr), PE (X.blk s H scope (compEnvC scope cl C X.env) fp) kx tk)
    (hv : ∀ (s : Shared) (H : Hp) (C : Addr) (cl : List (Str × Addr)) (fp : List Addr), PE (X.blk s H scope (compEnvC scope cl C X.env) fp) vx tv)
    (hs : ∀ x, foldedSetIterable iter X.env x = pure x := by intro _; rfl) :
    PE X (.DictComp kx vx [⟨tg, iter, ifs, 0⟩] scope pos) (tDcT wi g tt tk tv (own.map (·.2))) := by
  refine ⟨fun pins s σ H Q I h => ?_⟩
  rw [arm_eval_DictComp]
  refine dcT_core hu hc hN I hi ok hg ht hk hv hs h fun D C s' m H' I' q hn f => ⟨m, hn, fun h'' sb => ?_⟩
  obtain ⟨g0, g1, g2, g3, g4, g5⟩ := f
  exact ⟨.ref D, H', I'.turned (t' := s'.toks) (fun b o hb e => (sb.2 b hb).trans e) g0 g1 g3 g4 g5, rfl, q⟩
end
/-- max of a list of whole numbers, for use anywhere -/
theorem cr_maxK {X : Cx} {K : PySem.W.Frag} (hc : X.calm = true) (hK : X.K = K) : CallR X (.builtin "max") (rMax K) := by
  subst hK
  exact cr_max hc
def rJoinK (K : PySem.W.Frag) : V → List V → Hp → VK → Prop := fun x xs H Q => ∃ a p, ∃ ys : List Str, x = .str a ∧ xs = [.ref p] ∧ (SqL K H p (ys.map V.str) ∨ SqT K H p (ys.map V.str)) ∧ (ys.map (·.length)).sum + ys.length * a.length ≤ 16777216 ∧ Q (.str (Txt.join a ys)) H
theorem mt_joinK {X : Cx} {K : PySem.W.Frag} (hK : X.K = K) : MtR X "str.join" (rJoinK K) := by
  subst hK
  exact mt_join
def spFmtT (K : PySem.W.Frag) : Sp := fun xs H Q _ => ∃ (a t : Addr) (cs : List Cell) (vs : List Int), xs = [.ref a, .ref t] ∧ PlanT K H a cs ∧ Good cs ∧ cs.length ≤ 24 ∧ SqT K H t (vs.map V.int) ∧ Vals9 cs.length vs ∧ ∀ H', Same H H' → Q (.str (page cs vs)) H'
end KS
namespace KS
open PySem PySem.Spec PyProof.Rows L2 RZ TL
abbrev sFmtT : Stmt := topS 40
abbrev nFmtT : List Str := ["plan", "filling", "values", "height", "width", "rows", "cell", "value", "row", "column", "words"]
theorem scFmtT : FnScope nFmtT ["plan", "filling"] (defScope sFmtT) := ⟨rfl, rfl, rfl, by decide +kernel, rfl, by decide +kernel, by decide +kernel⟩
def strV (v : Int) : V := .str (nmS v)
section
variable {P : Program} {w : World} {K : PySem.W.Frag} {mg : Str → Option Value} {base : Heap}
theorem log4 {v : Int} (h1 : 1 ≤ v) (h2 : v ≤ 9999) : v.natAbs.log2 < 1920 := by
  obtain ⟨k, rfl⟩ := Int.eq_ofNat_of_zero_le (show 0 ≤ v by omega)
  have hk : k < 2 ^ 14 := by omega
  rw [Int.natAbs_natCast]
  exact Nat.lt_of_lt_of_le ((Nat.log2_lt (by omega)).mpr hk) (by decide)
theorem take_asc {zs : List (Cell × Int)} (h : Asc zs) {j : Nat} {z : Cell × Int} (e : zs[j]? = some z) : ∀ x ∈ zs.take j, x.1 ≠ z.1 := by
  intro x hx q
  have hl := (List.getElem?_eq_some_iff.mp e).1
  have t1 : zs.take (j + 1) = zs.take j ++ [z] := by
    rw [List.take_add_one, e]
    rfl
  have p : Asc (zs.take (j + 1)) := List.Pairwise.sublist (List.take_sublist _ _) h
  rw [t1] at p
  have := (List.pairwise_append.mp p).2.2 x hx z (List.mem_singleton.mpr rfl)
  rw [q] at this
  exact lt2_irr this
theorem wdAt_get (zs : List (Cell × Int)) (c : Cell) : ((atC zs c).map strV).getD (V.str ".") = V.str (wdAt zs c) := by
  unfold wdAt
  cases atC zs c <;> rfl
theorem ok_fmtT {f fC fF : Addr} {fd fdC fdF : FuncData} (F : Fun K "format_table" "format_table" sFmtT f fd) (GC : FnOk P w K mg base CX0 5 fC fdC ["plan"] (spCheck K)) (bC : Binds K fdC ["plan"] []) (gC : mg "check_plan" = some (.ref fC)) (kC : PySem.W.keepIn K (.ref fC) = true)
    (GF : FnOk P w K mg base CX0 4 fF fdF ["size", "filling"] (spCheckF K)) (bF : Binds K fdF ["size", "filling"] []) (gF : mg "check_filling" = some (.ref fF)) (kF : PySem.W.keepIn K (.ref fF) = true)
    (ml : mg "len" = none) (mz : mg "zip" = none) (mx : mg "max" = none) (mr : mg "range" = none) (mS : mg "str" = none) : FnOk P w K mg base CX0 6 f fd ["plan", "filling"] (spFmtT K) := by
  refine F.ok scFmtT (fun vs H Q E h => ?_) (fun cdv A outer s H vs Q E hr h => ?_)
  · obtain ⟨a, t, cs, vs, rfl, _⟩ := h
    rfl
  · obtain ⟨a, t, cs, vs, rfl, hp, gd, h24, ht, v9, q⟩ := h
    have nd := scFmtT.nd
    have hr4 : Room 4 _ := hr.mono (by decide)
    refine ⟨_, pss_cons (ps_expr (pe_call GC hr (by rfl) gC kC bC .nil pass0 (pa_cons (pv 0) pa_nil)))
      (pss_cons (ps_expr (pe_call GF hr4 (by rfl) gF kF bF .nil pass0 (pa_cons (pe_callB call_len_seq (by rfl) ml PySem.boot_len (pa_cons (pv 0) pa_nil)) (pa_cons (pv 1) pa_nil))))
      (pss_cons (ps_set (i := 2) nd rfl (.inr rfl) (pe_dcT (own := [("cell", 6), ("value", 7)]) (tt := tYes) (Nat.lt_of_le_of_lt (Nat.le_add_right _ _) hr.units) rfl nd (pi_zipA (by rfl) mz (pa_cons (pv 0) (pa_cons (pv 1) pa_nil))) (blkOk_by (N := nFmtT) (sc := defScope sFmtT) (by decide +kernel))
          (fun _ _ _ _ _ => pg_tupK (K := K) (n := 2) rfl (by rfl) (pgs_cons (pg_name (i := 6) nd rfl (Or.inl rfl)) (pgs_cons (pg_name (i := 7) nd rfl (Or.inl rfl)) pgs_nil))) (fun _ _ _ _ _ => pts_nil)
          (fun _ _ _ _ _ => pv 6) (fun _ _ _ _ _ => pe_callTy call_str_int (by rfl) mS (by decide +kernel) (pa_cons (pv 7) pa_nil))))
      (pss_cons (ps_set (i := 3) nd rfl (.inl rfl) (pe_op op_add (pe_callB (id := "max") (r := rMax K) (cr_maxK rfl rfl) (by rfl) mx (by decide +kernel) (pa_cons
          (pe_lc (own := [("row", 8), ("column", 9)]) (tt := tYes) rfl nd (pi_tup (pv 0)) (blkOk_by (N := nFmtT) (sc := defScope sFmtT) (by decide +kernel))
            (fun _ _ _ _ _ => pg_tupK (K := K) (n := 2) rfl (by rfl) (pgs_cons (pg_name (i := 8) nd rfl (Or.inl rfl)) (pgs_cons (pg_name (i := 9) nd rfl (Or.inl rfl)) pgs_nil))) (fun _ _ _ _ _ => pts_nil)
            (fun _ _ _ _ _ => pv 8)) pa_nil)) pe_int))
      (pss_cons (ps_set (i := 4) nd rfl (.inr rfl) (pe_op op_add (pe_callB (id := "max") (r := rMax K) (cr_maxK rfl rfl) (by rfl) mx (by decide +kernel) (pa_cons
          (pe_lc (own := [("row", 8), ("column", 9)]) (tt := tYes) rfl nd (pi_tup (pv 0)) (blkOk_by (N := nFmtT) (sc := defScope sFmtT) (by decide +kernel))
            (fun _ _ _ _ _ => pg_tupK (K := K) (n := 2) rfl (by rfl) (pgs_cons (pg_name (i := 8) nd rfl (Or.inl rfl)) (pgs_cons (pg_name (i := 9) nd rfl (Or.inl rfl)) pgs_nil))) (fun _ _ _ _ _ => pts_nil)
            (fun _ _ _ _ _ => pv 9)) pa_nil)) pe_int))
      (pss_cons (ps_setLc (i := 5) (own := [("row", 8)]) (g := gName 8) (tt := tYes) rfl nd rfl rfl (sw_true rfl rfl rfl (by decide +kernel)) (pi_range1 (by rfl) mr (pa_cons (pv 3) pa_nil)) (blkOk_by (N := nFmtT) (sc := defScope sFmtT) (by decide +kernel))
          (fun _ _ _ _ _ => pg_name (i := 8) nd rfl (Or.inr rfl)) (fun _ _ _ _ _ => pts_nil)
          (fun _ _ _ _ _ => pe_lc (own := [("column", 9)]) (g := gName 9) (tt := tYes) rfl nd (pi_range1 (by rfl) mr (pa_cons (pv 4) pa_nil))
            (blkOk_by (N := nFmtT) (sc := { kind := .function, names := [(".0", .local), ("row", .cell), ("range", .globalImplicit), ("values", .cell), ("width", .cell)], isGenerator := false, isCoroutine := false }) (by decide +kernel))
            (fun _ _ _ _ _ => pg_name (i := 9) nd rfl (Or.inl rfl)) (fun _ _ _ _ _ => pts_nil)
            (fun _ _ _ _ _ => pe_dget2 (Nat.lt_of_le_of_lt (Nat.add_le_add_left (by decide) _) hr.units) (pv 2) (pe_tup (pa_cons (pv 8) (pa_cons (pv 9) pa_nil))) pe_str ⟨rfl, rfl, rfl, rfl⟩)))
      (pss_one (ps_ret (pe_m1 PySem.F.slot_str_join PySem.F.type_str_join mt_join pe_str
        (pe_lc (own := [("words", 10)]) (g := gName 10) (tt := tYes) rfl nd (pi_list (pv 5)) (blkOk_by (N := nFmtT) (sc := defScope sFmtT) (by decide +kernel))
          (fun _ _ _ _ _ => pg_name (i := 10) nd rfl (Or.inl rfl)) (fun _ _ _ _ _ => pts_nil)
          (fun _ _ _ _ _ => pe_m1 (r := rJoinK K) PySem.F.slot_str_join PySem.F.type_str_join (mt_joinK rfl) pe_str (pv 10))))))))))), ?_⟩
    refine ⟨_, rfl, a, cs, rfl, hp.at, gd, h24, fun H1 s1 => ?_⟩
    have hp1 := hp.same s1
    have ht1 := same_seqT s1 ht
    obtain ⟨xs, hx, hc⟩ := hp1
    have hxl : xs.length = cs.length := Paired.length hc
    have hvl := v9.len
    refine ⟨_, rfl, a, _, rfl, .inr hx, _, rfl, cs.length, t, vs, by rw [hxl]; rfl, ht1, v9, h24, fun H2 s2 => ?_⟩
    have hx2 := same_seqT s2 hx
    have ht2 := same_seqT s2 ht1
    have hc2 := cellsT_kt (.of_same s2) hc
    have asc := asc_zip (vs := vs) gd.asc
    -- the dict
    refine ⟨_, rfl, _, rfl, a, t, xs, vs.map V.int, rfl, .inr ⟨hx2, ht2, fun D nD => ?_⟩⟩
    refine dcT_it (walk_zipT (K := K) (a := a) (b := t) (xs := xs) (ys := vs.map V.int) (n := cs.length) hxl (by rw [List.length_map, hvl])) (fun j G => ∃ kvs, G D = some (.dT kvs) ∧ DictT strV ((cs.zip vs).take j) kvs ∧ (∀ b o, b ≠ D → H2 b = some o → G b = some o)) ?_ ?_ ?_ ?_
    · exact ⟨[], upd_same, .nil, fun b o n e => by rw [upd_ne n]; exact e⟩
    · rintro j G _ ⟨kvs, a1, a2, a3⟩
      have sG : Same H2 G := fun b o e => a3 b o (ne_of_none e nD) e
      exact ⟨same_seqT sG hx2, same_seqT sG ht2⟩
    · rintro j x G G1 hj ⟨kvs, a1, a2, a3⟩ ⟨T, y, z, rfl, nT, rfl, ey, ez⟩
      have sG : Same H2 G := fun b o e => a3 b o (ne_of_none e nD) e
      have sT := same_new (o := .tup [y, z]) nT
      obtain ⟨c, ec, b, rfl, hb⟩ := paired_get hc2 ey
      have evj : vs[j]? = some vs[j] := List.getElem?_eq_getElem (by omega)
      have ez : (vs.map V.int)[j]? = some z := ez
      rw [List.getElem?_map, evj] at ez
      cases ez
      have ezip : (cs.zip vs)[j]? = some (c, vs[j]) := by
        rw [List.getElem?_zip_eq_some]
        exact ⟨ec, evj⟩
      have bd := v9.bd vs[j] (List.mem_of_getElem? evj)
      refine ⟨T, _, rfl, SqT.of upd_same, rfl, _, _, rfl, _, _, rfl, rfl, rfl, ?_⟩
      refine ⟨_, rfl, _, rfl, vs[j], rfl, ?_, kvs, keyC c, b, rfl, sT _ _ (sG _ _ hb), sT _ _ a1, ?_, _, upd_same, ?_, fun b' o n e => ?_⟩
      · exact log4 bd.1 bd.2
      · have := a2.1
        rw [List.length_take] at this
        exact small64 (by omega)
      · have e := a2.put (c := c) (v := vs[j]) (take_asc asc ezip)
        rw [List.take_add_one, ezip]
        exact e
      · rw [upd_ne n]
        exact sT _ _ (a3 b' o n e)
    rintro G ⟨kvs, a1, a2, a3⟩
    have sG : Same H2 G := fun b o e => a3 b o (ne_of_none e nD) e
    have zl : (cs.zip vs).length = cs.length := by rw [List.length_zip, hvl, Nat.min_self]
    rw [← zl, List.take_length] at a2
    -- the largest row
    refine ⟨_, rfl, a, rfl, ⟨_, same_seqT sG hx2⟩, fun D1 nD1 => ?_⟩
    refine lc_tup (K := K) (a := a) (xs := xs) (fun j G' => G' D1 = some (.lst (((cs.take j).map (·.1)).map V.int)) ∧ (∀ b o, b ≠ D1 → G b = some o → G' b = some o)) ?_ ?_ ?_ ?_
    · exact ⟨upd_same, fun b o n e => by rw [upd_ne n]; exact e⟩
    · rintro j G' _ ⟨b1, b2⟩
      exact same_seqT (fun b o e => b2 b o (ne_of_none e nD1) e) (same_seqT sG hx2)
    · rintro j x G' hj ⟨b1, b2⟩
      have sG' : Same G G' := fun b o e => b2 b o (ne_of_none e nD1) e
      obtain ⟨c, ec, b, rfl, hb⟩ := paired_get hc2 hj
      have jl := (List.getElem?_eq_some_iff.mp ec).1
      refine ⟨b, _, rfl, SqT.of ((sG.trans sG') _ _ hb), rfl, _, _, rfl, _, _, rfl, rfl, rfl, ?_⟩
      refine ⟨_, rfl, _, b1, ?_, ?_, fun b o n e => ?_⟩
      · rw [List.length_map, List.length_map, List.length_take]
        exact small64 (by omega)
      · rw [upd_same, List.take_add_one, ec, List.map_append, List.map_append]
        rfl
      · rw [upd_ne n]
        exact b2 b o n e
    rintro G1 ⟨b11, b21⟩
    have sG1 : Same G G1 := fun b o e => b21 b o (ne_of_none e nD1) e
    rw [hxl, List.take_length] at b11
    refine ⟨D1, cs.map (·.1), rfl, SqL.of b11, ?_, fun m1 hm hle => ?_⟩
    · rw [List.length_map]
      exact List.length_pos_iff.mpr gd.ne
    have m01 : 0 ≤ m1 := by
      obtain ⟨c, hc', rfl⟩ := List.mem_map.mp hm
      have := gd.grid c hc'
      unfold InGrid at this
      show 0 ≤ c.1
      omega
    have em1 : m1 + 1 = ((hiN cs : Nat) : Int) := by
      have := topI_is hm m01 hle
      unfold hiN
      rw [this]
      omega
    refine ⟨_, _, rfl, rfl, ?_⟩
    dsimp only []
    rw [em1]
    have sA := sG.trans sG1
    -- the largest column
    refine ⟨_, rfl, a, rfl, ⟨_, same_seqT sA hx2⟩, fun D2 nD2 => ?_⟩
    refine lc_tup (K := K) (a := a) (xs := xs) (fun j G' => G' D2 = some (.lst (((cs.take j).map (·.2)).map V.int)) ∧ (∀ b o, b ≠ D2 → G1 b = some o → G' b = some o)) ?_ ?_ ?_ ?_
    · exact ⟨upd_same, fun b o n e => by rw [upd_ne n]; exact e⟩
    · rintro j G' _ ⟨b1, b2⟩
      exact same_seqT (fun b o e => b2 b o (ne_of_none e nD2) e) (same_seqT sA hx2)
    · rintro j x G' hj ⟨b1, b2⟩
      have sG' : Same G1 G' := fun b o e => b2 b o (ne_of_none e nD2) e
      obtain ⟨c, ec, b, rfl, hb⟩ := paired_get hc2 hj
      have jl := (List.getElem?_eq_some_iff.mp ec).1
      refine ⟨b, _, rfl, SqT.of ((sA.trans sG') _ _ hb), rfl, _, _, rfl, _, _, rfl, rfl, rfl, ?_⟩
      refine ⟨_, rfl, _, b1, ?_, ?_, fun b o n e => ?_⟩
      · rw [List.length_map, List.length_map, List.length_take]
        exact small64 (by omega)
      · rw [upd_same, List.take_add_one, ec, List.map_append, List.map_append]
        rfl
      · rw [upd_ne n]
        exact b2 b o n e
    rintro G2 ⟨b12, b22⟩
    have sG2 : Same G1 G2 := fun b o e => b22 b o (ne_of_none e nD2) e
    rw [hxl, List.take_length] at b12
    refine ⟨D2, cs.map (·.2), rfl, SqL.of b12, ?_, fun m2 hm hle => ?_⟩
    · rw [List.length_map]
      exact List.length_pos_iff.mpr gd.ne
    have m02 : 0 ≤ m2 := by
      obtain ⟨c, hc', rfl⟩ := List.mem_map.mp hm
      have := gd.grid c hc'
      unfold InGrid at this
      show 0 ≤ c.2
      omega
    have em2 : m2 + 1 = ((wiN cs : Nat) : Int) := by
      have := topI_is hm m02 hle
      unfold wiN
      rw [this]
      omega
    refine ⟨_, _, rfl, rfl, ?_⟩
    dsimp only []
    rw [em2]
    have sB := sA.trans sG2
    have hw := wiN_le gd
    have hh := hiN_le gd
    have aD := sG2 _ _ (sG1 _ _ a1)
    clear b11 b12 b21 b22
    -- the rows
    refine ⟨_, rfl, ((hiN cs : Nat) : Int), rfl, by omega, by omega, fun DR nR => ?_⟩
    refine lc_range (lo := 0) (n := hiN cs) (fun j J => ∃ gs : List V, J DR = some (.lst gs) ∧ Paired (fun x ws => ∃ t', x = .ref t' ∧ J t' = some (.lst (ws.map V.str)) ∧ t' ≠ DR) gs ((List.range j).map (rowW cs vs)) ∧ (∀ b o, b ≠ DR → G2 b = some o → J b = some o)) ?_ ?_ ?_
    · exact ⟨[], upd_same, .nil, fun b o n e => by rw [upd_ne n]; exact e⟩
    · rintro j J hj ⟨gs, c1, c2, c3⟩
      have sJ : Same G2 J := fun b o e => c3 b o (ne_of_none e nR) e
      refine ⟨rfl, _, rfl, ((wiN cs : Nat) : Int), rfl, by omega, by omega, fun D3 nD3 => ?_⟩
      refine lc_range (lo := 0) (n := wiN cs) (fun k J3 => J3 D3 = some (.lst (((List.range k).map fun z => wdAt (cs.zip vs) ((j : Int), ((z : Nat) : Int))).map V.str)) ∧ (∀ b o, b ≠ D3 → J b = some o → J3 b = some o)) ?_ ?_ ?_
      · exact ⟨upd_same, fun b o n e => by rw [upd_ne n]; exact e⟩
      · rintro k J3 hk ⟨d1, d2⟩
        have sJ3 : Same J J3 := fun b o e => d2 b o (ne_of_none e nD3) e
        have dD := sJ3 _ _ (sJ _ _ aD)
        refine ⟨rfl, _, rfl, D, rfl, .inr ⟨kvs, .inl dD⟩, _, rfl, _, rfl, by show 2 ≤ sizeLine; decide, fun T nT => ?_⟩
        have sT := same_new (o := .tup [.int (0 + (j : Int)), .int (0 + (k : Int))]) nT
        refine ⟨_, DGet.t (k := keyC ((j : Int), (k : Int))) (sT _ _ dD) (by
          rw [upd_same, Int.zero_add, Int.zero_add]
          rfl), ?_⟩
        rw [a2.2, wdAt_get]
        refine ⟨_, sT _ _ d1, ?_, ?_, fun b o n e => ?_⟩
        · rw [List.length_map, List.length_map, List.length_range]
          exact small64 (by omega)
        · rw [upd_same, List.range_succ, List.map_append, List.map_append]
          rfl
        · rw [upd_ne n]
          exact sT _ _ (d2 b o n e)
      · rintro J3 ⟨d1, d2⟩
        have sJ3 : Same J J3 := fun b o e => d2 b o (ne_of_none e nD3) e
        have n3 : D3 ≠ DR := Ne.symm (ne_of_none c1 nD3)
        have hgl := Paired.length c2
        rw [List.length_map, List.length_range] at hgl
        refine ⟨gs, sJ3 _ _ c1, small64 (by omega), gs ++ [.ref D3], upd_same, ?_, fun b o n e => ?_⟩
        · rw [List.range_succ, List.map_append]
          refine paired_append (Paired.mono (fun x ws ⟨t', e1, e2, e3⟩ => ⟨t', e1, ?_, e3⟩) c2) (.cons ⟨D3, rfl, ?_, n3⟩ .nil)
          · rw [upd_ne n3]
            exact d1
          · rw [upd_ne e3]
            exact sJ3 _ _ e2
        · rw [upd_ne n]
          exact sJ3 _ _ (c3 b o n e)
    rintro J ⟨gs, c1, c2, c3⟩
    have sJ : Same G2 J := fun b o e => c3 b o (ne_of_none e nR) e
    have c2 : Paired (fun x ws => ∃ t', x = .ref t' ∧ J t' = some (.lst (ws.map V.str)) ∧ t' ≠ DR) gs ((List.range (hiN cs)).map (rowW cs vs)) := c2
    have hgl := Paired.length c2
    rw [List.length_map, List.length_range] at hgl
    -- joined
    refine ⟨⟨_, rfl⟩, _, rfl, DR, rfl, ⟨_, SqL.of c1⟩, fun D4 nD4 => ?_⟩
    refine lc_list (K := K) (a := DR) (xs := gs) (fun j J4 => J4 D4 = some (.lst ((((List.range (hiN cs)).take j).map fun r => jn (rowW cs vs r)).map V.str)) ∧ (∀ b o, b ≠ D4 → J b = some o → J4 b = some o)) ?_ ?_ ?_ ?_
    · exact ⟨upd_same, fun b o n e => by rw [upd_ne n]; exact e⟩
    · rintro j J4 _ ⟨d1, d2⟩
      exact SqL.of (d2 _ _ (ne_of_none c1 nD4) c1)
    · rintro j x J4 hj ⟨d1, d2⟩
      have sJ4 : Same J J4 := fun b o e => d2 b o (ne_of_none e nD4) e
      obtain ⟨ws, ew, t', rfl, ht', _⟩ := paired_get c2 hj
      rw [List.getElem?_map] at ew
      cases er : (List.range (hiN cs))[j]? with
      | none =>
        rw [er] at ew
        cases ew
      | some r =>
        rw [er] at ew
        cases ew
        have jl := (List.getElem?_eq_some_iff.mp er).1
        rw [List.length_range] at jl
        have wt := row_wt gd v9 r
        refine ⟨rfl, ⟨_, rfl⟩, _, rfl, _, t', rowW cs vs r, rfl, rfl, .inl (SqL.of (sJ4 _ _ ht')), ?_, ?_⟩
        · have e6 : (" " : Str).length = 1 := by decide +kernel
          rw [e6]
          rw [Nat.mul_one]
          exact Nat.le_trans wt (by decide)
        · refine ⟨_, d1, ?_, ?_, fun b o n e => ?_⟩
          · rw [List.length_map, List.length_map, List.length_take, List.length_range]
            exact small64 (by omega)
          · rw [upd_same, List.take_add_one, er, List.map_append, List.map_append]
            rfl
          · rw [upd_ne n]
            exact d2 b o n e
    · rintro J4 ⟨d1, d2⟩
      have sJ4 : Same J J4 := fun b o e => d2 b o (ne_of_none e nD4) e
      have et : (List.range (hiN cs)).take gs.length = List.range (hiN cs) := List.take_of_length_le (by rw [List.length_range]; omega)
      rw [et] at d1
      refine ⟨_, D4, pgR cs vs, rfl, rfl, .inl (SqL.of d1), ?_, ?_⟩
      · have e6 : ("\n" : Str).length = 1 := by decide +kernel
        rw [e6, Nat.mul_one]
        have w1 : wtS (pgR cs vs) ≤ 41 * hiN cs := pg_wt gd v9 (hiN cs)
        exact Nat.le_trans w1 (by omega)
      · exact q _ ((((s1.trans s2).trans sB).trans sJ).trans sJ4)
end
end KS
namespace KS
open PySem PySem.Spec PyProof.Rows L2 RZ TL
def spRdT (K : PySem.W.Frag) : Sp := fun xs H Q _ => ∃ (cs : List Cell) (vs : List Int), xs = [.str (page cs vs)] ∧ Good cs ∧ cs.length ≤ 24 ∧ Vals9 cs.length vs ∧
  ∀ H' T a t, Same H H' → SqT K H' T [.ref a, .ref t] → PlanT K H' a cs → SqT K H' t (vs.map V.int) → Q (.ref T) H'
def spIsPlanT (K : PySem.W.Frag) : Sp := fun vs H Q _ => ∃ (a : Addr) (cs : List Cell), vs = [.ref a] ∧ PlanAt K H a cs ∧ Good cs ∧ cs.length ≤ 24 ∧ ∀ H', Same H H' → Q (.bl true) H'
def spIsFillT (K : PySem.W.Frag) : Sp := fun vs H Q _ => ∃ (a t : Addr) (cs : List Cell) (xs : List Int), vs = [.ref a, .ref t] ∧ PlanAt K H a cs ∧ Good cs ∧ cs.length ≤ 24 ∧ SqT K H t (xs.map V.int) ∧ Vals9 cs.length xs ∧ ∀ H', Same H H' → Q (.bl true) H'
abbrev sRdT : Stmt := topS 41
abbrev nRdT : List Str := ["text", "cells", "values", "row", "line", "column", "word", "value"]
theorem scRdT : FnScope nRdT ["text"] (defScope sRdT) := ⟨rfl, rfl, rfl, by decide +kernel, rfl, by decide +kernel, by decide +kernel⟩
abbrev sParT : Stmt := topS 42
abbrev nParT : List Str := ["text", "plan", "filling"]
theorem scParT : FnScope nParT ["text"] (defScope sParT) := ⟨rfl, rfl, rfl, by decide +kernel, rfl, by decide +kernel, by decide +kernel⟩
abbrev sIsPlan : Stmt := topS 18
theorem scIsPlanT : FnScope ["value"] ["value"] (defScope sIsPlan) := ⟨rfl, rfl, rfl, by decide +kernel, rfl, by decide +kernel, by decide +kernel⟩
abbrev sIsFill : Stmt := topS 22
theorem scIsFillT : FnScope ["plan", "value"] ["plan", "value"] (defScope sIsFill) := ⟨rfl, rfl, rfl, by decide +kernel, rfl, by decide +kernel, by decide +kernel⟩
/-- what is read so far -/
structure Rdn (K : PySem.W.Frag) (H G : Hp) (C W : Addr) (zs : List (Cell × Int)) : Prop where
  sm : Same H G
  nC : H C = none
  nW : H W = none
  ne : C ≠ W
  cells : ∃ xs, G C = some (.lst xs) ∧ CellsT G xs (zs.map (·.1))
  vals : G W = some (.lst ((zs.map (·.2)).map V.int))
theorem Rdn.same {K : PySem.W.Frag} {H G G' : Hp} {C W : Addr} {zs : List (Cell × Int)} (h : Rdn K H G C W zs) (s : Same G G') : Rdn K H G' C W zs := by
  obtain ⟨xs, a, b⟩ := h.cells
  exact ⟨h.sm.trans s, h.nC, h.nW, h.ne, ⟨xs, s _ _ a, cellsT_kt (.of_same s) b⟩, s _ _ h.vals⟩
theorem Rdn.add {K : PySem.W.Frag} {H G : Hp} {C W U : Addr} {zs : List (Cell × Int)} {xs : List V} {i j v : Int} (h : Rdn K H G C W zs) (hc : G C = some (.lst xs)) (hx : CellsT G xs (zs.map (·.1))) (nU : G U = none) :
    Rdn K H (upd (upd (upd G U (.tup [.int i, .int j])) C (.lst (xs ++ [.ref U]))) W (.lst ((zs.map (·.2)).map V.int ++ [.int v]))) C W (zs ++ [((i, j), v)]) := by
  have sU := same_new (o := .tup [.int i, .int j]) nU
  have cU : C ≠ U := ne_of_none hc nU
  have wU : W ≠ U := ne_of_none h.vals nU
  have k1 : KTt (upd G U (.tup [.int i, .int j])) (upd (upd G U (.tup [.int i, .int j])) C (.lst (xs ++ [.ref U]))) := KTt.upd (sU _ _ hc)
  have k2 : KTt (upd (upd G U (.tup [.int i, .int j])) C (.lst (xs ++ [.ref U]))) (upd (upd (upd G U (.tup [.int i, .int j])) C (.lst (xs ++ [.ref U]))) W (.lst ((zs.map (·.2)).map V.int ++ [.int v]))) := by
    refine KTt.upd (ys := (zs.map (·.2)).map V.int) ?_
    rw [upd_ne (Ne.symm h.ne)]
    exact sU _ _ h.vals
  refine ⟨fun b o e => ?_, h.nC, h.nW, h.ne, ⟨xs ++ [.ref U], ?_, ?_⟩, ?_⟩
  · rw [upd_ne (ne_of_none e h.nW), upd_ne (ne_of_none e h.nC)]
    exact sU _ _ (h.sm b o e)
  · rw [upd_ne h.ne, upd_same]
  · rw [List.map_append]
    refine paired_append (cellsT_kt (((KTt.of_same sU).trans k1).trans k2) hx) (.cons ⟨U, rfl, ?_⟩ .nil)
    rw [upd_ne (Ne.symm wU), upd_ne (Ne.symm cU), upd_same]
  · rw [upd_same, List.map_append, List.map_append]
    rfl
theorem pgR_at {cs : List Cell} {vs : List Int} {i : Nat} {z : V} (h : ((pgR cs vs).map V.str)[i]? = some z) : i < hiN cs ∧ z = .str (jn (rowW cs vs i)) := by
  unfold pgR at h
  rw [List.getElem?_map, List.getElem?_map] at h
  rcases Nat.lt_or_ge i (hiN cs) with l | l
  · rw [List.getElem?_range l] at h
    cases h
    exact ⟨l, rfl⟩
  · rw [List.getElem?_eq_none (by rw [List.length_range]; exact l)] at h
    cases h
theorem rowW_at {cs : List Cell} {vs : List Int} {r j : Nat} {z : V} (h : ((rowW cs vs r).map V.str)[j]? = some z) : j < wiN cs ∧ z = .str (wdAt (cs.zip vs) ((r : Int), (j : Int))) := by
  unfold rowW at h
  rw [List.getElem?_map, List.getElem?_map] at h
  rcases Nat.lt_or_ge j (wiN cs) with l | l
  · rw [List.getElem?_range l] at h
    cases h
    exact ⟨l, rfl⟩
  · rw [List.getElem?_eq_none (by rw [List.length_range]; exact l)] at h
    cases h
section
variable {P : Program} {w : World} {K : PySem.W.Frag} {mg : Str → Option Value} {base : Heap}
theorem ok_isPlanT {f fC C : Addr} {fd fdC : FuncData} (F : Fun K "is_plan" "is_plan" sIsPlan f fd) (GC : FnOk P w K mg base CX0 5 fC fdC ["plan"] (spCheck K)) (bC : Binds K fdC ["plan"] []) (gC : mg "check_plan" = some (.ref fC)) (kC : PySem.W.keepIn K (.ref fC) = true)
    (gX : mg "InvalidPlan" = some (.ref C)) : FnOk P w K mg base CX0 6 f fd ["value"] (spIsPlanT K) := by
  refine F.ok scIsPlanT (fun vs H Q E h => ?_) (fun cdv A outer s H vs Q E hr h => ?_)
  · obtain ⟨a, cs, rfl, _⟩ := h
    rfl
  · obtain ⟨a, cs, rfl, hp, gd, hl, q⟩ := h
    refine ⟨_, pss_cons (ps_try_only (tb := fun W => tDrop (tCall (spCheck K) [] E0 (tCons (tVar 0) tNil))) (ts := fun _ _ _ => tRet (tC (.bl false))) (Wout := fun _ _ _ _ => False) rfl rfl ⟨rfl, by decide, Or.inl gX⟩ takes0
        (fun W pn xe tk _ => pss_one (ps_expr (by exact (pe_call GC hr (by rfl) gC kC bC .nil pass0 (by exact (pa_cons (pv 0) pa_nil))))))
        (fun a oe cls d pn _ _ => pss_one (ps_ret pe_bl)))
      (pss_one (ps_ret pe_bl)), ?_⟩
    exact ⟨_, rfl, a, cs, rfl, hp, gd, hl, fun H' s' => q H' s'⟩
theorem ok_isFillT {f fC fF C : Addr} {fd fdC fdF : FuncData} (F : Fun K "is_filling" "is_filling" sIsFill f fd) (GC : FnOk P w K mg base CX0 5 fC fdC ["plan"] (spCheck K)) (bC : Binds K fdC ["plan"] []) (gC : mg "check_plan" = some (.ref fC)) (kC : PySem.W.keepIn K (.ref fC) = true)
    (GF : FnOk P w K mg base CX0 4 fF fdF ["size", "filling"] (spCheckF K)) (bF : Binds K fdF ["size", "filling"] []) (gF : mg "check_filling" = some (.ref fF)) (kF : PySem.W.keepIn K (.ref fF) = true)
    (ml : mg "len" = none) (gX : mg "InvalidFilling" = some (.ref C)) : FnOk P w K mg base CX0 6 f fd ["plan", "value"] (spIsFillT K) := by
  refine F.ok scIsFillT (fun vs H Q E h => ?_) (fun cdv A outer s H vs Q E hr h => ?_)
  · obtain ⟨a, t, cs, xs, rfl, _⟩ := h
    rfl
  · obtain ⟨a, t, cs, xs, rfl, hp, gd, hl, ht, v9, q⟩ := h
    have hr4 : Room 4 _ := hr.mono (by decide)
    refine ⟨_, pss_cons (ps_expr (pe_call GC hr (by rfl) gC kC bC .nil pass0 (pa_cons (pv 0) pa_nil)))
      (pss_cons (ps_try_only (tb := fun W => tDrop (tCall (spCheckF K) [] E0 (tCons (tCB (rLenSeq K) (tCons (tVar 0) tNil)) (tCons (tVar 1) tNil)))) (ts := fun _ _ _ => tRet (tC (.bl false))) (Wout := fun _ _ _ _ => False) rfl rfl ⟨rfl, by decide, Or.inl gX⟩ takes0
        (fun W pn xe tk _ => pss_one (ps_expr (by exact (pe_call GF hr4 (by rfl) gF kF bF .nil pass0 (by exact (pa_cons (pe_callB (id := "len") (r := rLenSeq K) (call_lenK rfl) (by rfl) ml PySem.boot_len (pa_cons (pv 0) pa_nil)) (pa_cons (pv 1) pa_nil)))))))
        (fun a oe cls d pn _ _ => pss_one (ps_ret pe_bl)))
      (pss_one (ps_ret pe_bl))), ?_⟩
    refine ⟨_, rfl, a, cs, rfl, hp, gd, hl, fun H1 s1 => ?_⟩
    obtain ⟨ys, hy, hc⟩ := hp
    have el := Paired.length hc
    exact ⟨_, rfl, a, ys, rfl, .inr (same_seqT s1 hy), _, rfl, cs.length, t, xs, by rw [el]; rfl, same_seqT s1 ht, v9, hl, fun H' s' => q H' (s1.trans s')⟩
theorem ok_rdT {f fN : Addr} {fd fdN : FuncData} {tk : Tok} (F : Fun K "read_table" "read_table" sRdT f fd) (GN : FnOk P w K mg base CX0 1 fN fdN ["text", "digits"] spRdN) (bN : Binds K fdN ["text", "digits"] []) (gN : mg "read_number" = some (.ref fN)) (kN : PySem.W.keepIn K (.ref fN) = true)
    (me : mg "enumerate" = none) (ml : mg "len" = none) (mS : mg "str" = none) (mt : mg "tuple" = none) (mM : mg "MOST_VALUE" = some (.int 9999 tk)) : FnOk P w K mg base CX0 2 f fd ["text"] (spRdT K) := by
  refine F.ok scRdT (fun vs H Q E h => ?_) (fun cdv A outer s H vs Q E hr h => ?_)
  · obtain ⟨cs, vs, rfl, _⟩ := h
    rfl
  · obtain ⟨cs, vs, rfl, gd, h24, v9, q⟩ := h
    have nd := scRdT.nd
    refine ⟨_, pss_cons (ps_set (i := 1) nd rfl (.inl rfl) (pe_lst pa_nil))
      (pss_cons (ps_set (i := 2) nd rfl (.inl rfl) (pe_lst pa_nil))
      (pss_cons (ps_for PassesOwn.never rfl (pi_enum (by rfl) me (pa_cons (pe_split (pv 0) pe_str) pa_nil)) (pg_tup (by rfl) (pgs_cons (pg_name (i := 3) nd rfl (.inl rfl)) (pgs_cons (pg_name (i := 4) nd rfl (.inl rfl)) pgs_nil)))
        (pss_one (ps_for PassesOwn.never rfl (pi_enum (by rfl) me (pa_cons (pe_split (pv 4) pe_str) pa_nil)) (pg_tup (by rfl) (pgs_cons (pg_name (i := 5) nd rfl (.inl rfl)) (pgs_cons (pg_name (i := 6) nd rfl (.inl rfl)) pgs_nil)))
          (pss_cons (ps_set (i := 7) nd rfl (.inl rfl) (pe_call GN hr (by rfl) gN kN bN .nil pass0 (pa_cons (pv 6) (pa_cons (pe_callB call_len_str (by rfl) ml PySem.boot_len (pa_cons (pe_callTy call_str_int (by rfl) mS (by decide +kernel) (pa_cons (pe_glob (v := .int 9999) (by rfl) mM ⟨_, rfl⟩) pa_nil)) pa_nil)) pa_nil))))
          (pss_one (ps_if (pt_cmpR op_notN (pv 7) pe_non (nomark _))
            (pss_cons (ps_expr (pe_bm PySem.F.plainAttrs_list PySem.F.slot_list_append PySem.F.type_list_append mt_append (pv 1) (pa_cons (pe_tup (pa_cons (pv 3) (pa_cons (pv 5) pa_nil))) pa_nil)))
            (pss_one (ps_expr (pe_bm PySem.F.plainAttrs_list PySem.F.slot_list_append PySem.F.type_list_append mt_append (pv 2) (pa_cons (pv 7) pa_nil)))))
            pss_nil))))))
      (pss_one (ps_ret (pe_tup (pa_cons (pe_callTy call_tuple_of (by rfl) mt (by decide +kernel) (pa_cons (pv 1) pa_nil)) (pa_cons (pe_callTy call_tuple_of (by rfl) mt (by decide +kernel) (pa_cons (pv 2) pa_nil)) pa_nil))))))), ?_⟩
    have hw := wiN_le gd
    have hh := hiN_le gd
    have vl := v9.len
    have zl : (cs.zip vs).length = cs.length := by rw [List.length_zip, vl, Nat.min_self]
    have asc := asc_zip (vs := vs) gd.asc
    have vb := zip_vals v9
    have cb : ∀ z ∈ cs.zip vs, InGrid z.1 ∧ z.1.1 < (hiN cs : Int) ∧ z.1.2 < (wiN cs : Int) := fun z hz => ⟨gd.grid _ (zip_cell hz), in_hi (zip_cell hz), in_wi (zip_cell hz)⟩
    have few : ∀ b, (bef (cs.zip vs) b).length ≤ 24 := fun b => Nat.le_trans (bef_len _ b) (by omega)
    refine ⟨by show 0 ≤ sizeLine; decide, fun C nC => ?_⟩
    have sC := same_new (o := .lst []) nC
    have hC : upd H C (.lst []) C = some (.lst []) := upd_same
    refine ⟨by show 0 ≤ sizeLine; decide, fun W nW => ?_⟩
    have sW := same_new (o := .lst []) nW
    have ne := ne_of_none hC nW
    have r0 : Rdn K H (upd (upd H C (.lst [])) W (.lst [])) C W [] := ⟨sC.trans sW, nC, sC.free nW, ne, ⟨[], sW _ _ hC, .nil⟩, upd_same⟩
    generalize upd (upd H C (.lst [])) W (.lst []) = H1 at r0 ⊢
    clear sC hC sW
    refine ⟨_, rfl, ⟨_, rfl⟩, _, _, rfl, rfl, by decide +kernel, by have := page_len gd v9; rw [sizeLine_eq]; omega, fun L nL => ?_⟩
    rw [page_split v9]
    have sL := same_new (o := .lst ((pgR cs vs).map V.str)) nL
    have r1 := r0.same sL
    have hL : upd H1 L (.lst ((pgR cs vs).map V.str)) L = some (.lst ((pgR cs vs).map V.str)) := upd_same
    have CL : C ≠ L := r0.cells.elim fun _ z => ne_of_none z.1 nL
    have WL : W ≠ L := ne_of_none r0.vals nL
    generalize upd H1 L (.lst ((pgR cs vs).map V.str)) = H2 at r1 hL ⊢
    clear r0 sL nL
    refine ⟨L, _, rfl, SqL.of hL, for_it (walk_enum (K := K) (a := L) (xs := (pgR cs vs).map V.str)) (fun i σ G => ∃ y3 y4 y5 y6 y7 : Option V, σ = [some (.str (page cs vs)), some (.ref C), some (.ref W), y3, y4, y5, y6, y7] ∧
      Rdn K H G C W (bef (cs.zip vs) ((i : Int), 0)) ∧ G L = some (.lst ((pgR cs vs).map V.str))) ?_ ?_ ?_ ?_⟩
    · refine ⟨none, none, none, none, none, rfl, ?_, hL⟩
      have := bef_none (zs := cs.zip vs) fun z hz => by
        have := (cb z hz).1
        unfold InGrid at this
        exact ⟨this.1, this.2.2.1⟩
      show Rdn K H H2 C W (bef (cs.zip vs) (0, 0))
      rw [this]
      exact r1
    · rintro i σ G _ ⟨_, _, _, _, _, _, _, h⟩
      exact SqL.of h
    · rintro i x σ G G' hi ⟨y3, y4, y5, y6, y7, rfl, rd, hLG⟩ ⟨T, y, z, rfl, nT, rfl, ey, ez⟩
      cases ey
      obtain ⟨il, rfl⟩ := pgR_at ez
      have sT := same_new (o := .tup [.int (i : Nat), .str (jn (rowW cs vs i))]) nT
      refine ⟨T, _, rfl, SqT.of upd_same, rfl, _, _, rfl, _, _, rfl, rfl, ?_⟩
      have rd := rd.same sT
      have hLG := sT _ _ hLG
      generalize upd G T (.tup [.int (i : Nat), .str (jn (rowW cs vs i))]) = G1 at rd hLG ⊢
      clear sT nT
      refine ⟨_, rfl, ⟨_, rfl⟩, _, _, rfl, rfl, by decide +kernel, by have := row_len gd v9 i; rw [sizeLine_eq]; omega, fun M nM => ?_⟩
      rw [row_split v9]
      have sM := same_new (o := .lst ((rowW cs vs i).map V.str)) nM
      have hM : upd G1 M (.lst ((rowW cs vs i).map V.str)) M = some (.lst ((rowW cs vs i).map V.str)) := upd_same
      have CM : C ≠ M := rd.cells.elim fun _ z => ne_of_none z.1 nM
      have WM : W ≠ M := ne_of_none rd.vals nM
      have rd := rd.same sM
      have hLG := sM _ _ hLG
      generalize upd G1 M (.lst ((rowW cs vs i).map V.str)) = G2 at rd hLG hM ⊢
      clear sM nM
      refine ⟨M, _, rfl, SqL.of hM, for_it (walk_enum (K := K) (a := M) (xs := (rowW cs vs i).map V.str)) (fun j σ J => ∃ y5 y6 y7 : Option V, σ = [some (.str (page cs vs)), some (.ref C), some (.ref W), some (.int (i : Nat)), some (.str (jn (rowW cs vs i))), y5, y6, y7] ∧
        Rdn K H J C W (bef (cs.zip vs) ((i : Int), (j : Int))) ∧ J L = some (.lst ((pgR cs vs).map V.str)) ∧ J M = some (.lst ((rowW cs vs i).map V.str))) ?_ ?_ ?_ ?_⟩
      · exact ⟨y5, y6, y7, rfl, rd, hLG, hM⟩
      · rintro j σ J _ ⟨_, _, _, _, _, _, h⟩
        exact SqL.of h
      · rintro j x σ J J' hj ⟨y5, y6, y7, rfl, rdJ, hLJ, hMJ⟩ ⟨T, y, z, rfl, nT, rfl, ey, ez⟩
        cases ey
        obtain ⟨jl, rfl⟩ := rowW_at ez
        have sT := same_new (o := .tup [.int (j : Nat), .str (wdAt (cs.zip vs) ((i : Int), (j : Int)))]) nT
        refine ⟨T, _, rfl, SqT.of upd_same, rfl, _, _, rfl, _, _, rfl, rfl, ?_⟩
        have rdJ := rdJ.same sT
        have hLJ := sT _ _ hLJ
        have hMJ := sT _ _ hMJ
        generalize upd J T (.tup [.int (j : Nat), .str (wdAt (cs.zip vs) ((i : Int), (j : Int)))]) = J1 at rdJ hLJ hMJ ⊢
        clear sT nT
        have e4 : (nmS 9999).length = 4 := by decide +kernel
        refine ⟨_, rfl, 9999, rfl, by decide +kernel, _, rfl, by show (nmS 9999).length ≤ _; rw [e4]; decide, _, _, rfl, ?_⟩
        have nx := bef_next (cs.zip vs) asc (i : Int) (j : Int)
        have fw := few ((i : Int), (j : Int))
        obtain ⟨xs, hc, hx⟩ := rdJ.cells
        have xl := Paired.length hx
        rw [List.length_map] at xl
        rcases wd_cases (cs.zip vs) ((i : Int), (j : Int)) with ⟨v, ev, wv⟩ | ⟨ev, wv⟩
        · have bd := vb _ (atC_mem ev)
          have b1 : 1 ≤ v := bd.1
          have b2 : v ≤ 9999 := bd.2
          have n4 := nm4 b1 b2
          rw [ev] at nx
          refine .inl ⟨v, by omega, wv, log4 b1 b2, ?_, ?_, ?_⟩
          · rw [wv]
            show ((nmS v).length : Int) ≤ ((nmS 9999).length : Nat)
            rw [e4]
            omega
          · rw [wv]
            omega
          refine ⟨_, rfl, rfl, true, rfl, ?_⟩
          refine ⟨_, rfl, .inl ⟨rfl, _, SqL.of hc⟩, _, rfl, _, rfl, by show 2 ≤ sizeLine; decide, fun U nU => ?_⟩
          have sU := same_new (o := .tup [.int (i : Nat), .int (j : Nat)]) nU
          refine ⟨C, xs, _, rfl, rfl, sU _ _ hc, small64 (by omega), ?_⟩
          have hW' : upd (upd J1 U (.tup [.int (i : Nat), .int (j : Nat)])) C (.lst (xs ++ [.ref U])) W = some (.lst (((bef (cs.zip vs) ((i : Int), (j : Int))).map (·.2)).map V.int)) := by
            rw [upd_ne (Ne.symm rdJ.ne)]
            exact sU _ _ rdJ.vals
          refine ⟨_, rfl, .inl ⟨rfl, _, SqL.of hW'⟩, _, rfl, W, _, _, rfl, rfl, hW', by rw [List.length_map, List.length_map]; exact small64 (by omega), ?_⟩
          refine ⟨_, _, _, rfl, ?_, ?_, ?_⟩
          · show Rdn K H _ C W (bef (cs.zip vs) ((i : Int), (j : Int) + 1))
            rw [nx]
            exact rdJ.add hc hx nU
          · rw [upd_ne (Ne.symm WL), upd_ne (Ne.symm CL)]
            exact sU _ _ hLJ
          · rw [upd_ne (Ne.symm WM), upd_ne (Ne.symm CM)]
            exact sU _ _ hMJ
        · rw [ev, List.append_nil] at nx
          refine .inr ⟨wv, by show (1 : Int) ≤ ((nmS 9999).length : Nat); rw [e4]; decide, ?_⟩
          refine ⟨_, rfl, rfl, false, rfl, ?_⟩
          refine ⟨_, _, _, rfl, ?_, hLJ, hMJ⟩
          show Rdn K H _ C W (bef (cs.zip vs) ((i : Int), (j : Int) + 1))
          rw [nx]
          exact rdJ
      · rintro σ J ⟨z5, z6, z7, rfl, rdJ, hLJ, _⟩
        refine ⟨_, _, _, _, _, rfl, ?_, hLJ⟩
        have e : ((rowW cs vs i).map V.str).length = wiN cs := by
          unfold rowW
          rw [List.length_map, List.length_map, List.length_range]
        rw [e] at rdJ
        have br := bef_row (zs := cs.zip vs) (i := (i : Int)) (w := (wiN cs : Int)) fun z hz => by
          have := (cb z hz).1
          unfold InGrid at this
          exact ⟨this.2.2.1, (cb z hz).2.2⟩
        rw [br] at rdJ
        exact rdJ
    · rintro σ G ⟨y3, y4, y5, y6, y7, rfl, rd, _⟩
      have e : ((pgR cs vs).map V.str).length = hiN cs := by
        unfold pgR
        rw [List.length_map, List.length_map, List.length_range]
      rw [e, bef_all fun z hz => (cb z hz).2.1] at rd
      obtain ⟨xs, hc, hx⟩ := rd.cells
      have e1 : (cs.zip vs).map (·.1) = cs := List.map_fst_zip (by omega)
      have e2 : (cs.zip vs).map (·.2) = vs := List.map_snd_zip (by omega)
      have hv := rd.vals
      rw [e1] at hx
      rw [e2] at hv
      refine ⟨_, rfl, C, xs, rfl, .inl ⟨SqL.of hc, fun A nA => ?_⟩⟩
      have sA := same_new (o := .tup xs) nA
      refine ⟨_, rfl, W, _, rfl, .inl ⟨SqL.of (sA _ _ hv), fun B nB => ?_⟩⟩
      have sB := same_new (o := .tup (vs.map V.int)) nB
      refine ⟨by show 2 ≤ sizeLine; decide, fun T nT => ?_⟩
      have sT := same_new (o := .tup [.ref A, .ref B]) nT
      exact q _ T A B (((rd.sm.trans sA).trans sB).trans sT) (SqT.of upd_same) ⟨xs, same_seqT (sB.trans sT) (SqT.of upd_same), cellsT_kt (.of_same ((sA.trans sB).trans sT)) hx⟩ (same_seqT sT (SqT.of upd_same))
theorem ok_parT {f fR fP fF fT : Addr} {fd fdR fdP fdF fdT : FuncData} (F : Fun K "parse_table" "parse_table" sParT f fd) (GR : FnOk P w K mg base CX0 2 fR fdR ["text"] (spRdT K)) (bR : Binds K fdR ["text"] []) (gR : mg "read_table" = some (.ref fR)) (kR : PySem.W.keepIn K (.ref fR) = true)
    (GP : FnOk P w K mg base CX0 6 fP fdP ["value"] (spIsPlanT K)) (bP : Binds K fdP ["value"] []) (gP : mg "is_plan" = some (.ref fP)) (kP : PySem.W.keepIn K (.ref fP) = true)
    (GF : FnOk P w K mg base CX0 6 fF fdF ["plan", "value"] (spIsFillT K)) (bF : Binds K fdF ["plan", "value"] []) (gF : mg "is_filling" = some (.ref fF)) (kF : PySem.W.keepIn K (.ref fF) = true)
    (GT : FnOk P w K mg base CX0 6 fT fdT ["plan", "filling"] (spFmtT K)) (bT : Binds K fdT ["plan", "filling"] []) (gT : mg "format_table" = some (.ref fT)) (kT : PySem.W.keepIn K (.ref fT) = true)
    (mi : mg "isinstance" = none) (mS : mg "str" = none) : FnOk P w K mg base CX0 7 f fd ["text"] (spRdT K) := by
  refine F.ok scParT (fun vs H Q E h => ?_) (fun cdv A outer s H vs Q E hr h => ?_)
  · obtain ⟨cs, vs, rfl, _⟩ := h
    rfl
  · obtain ⟨cs, vs, rfl, gd, h24, v9, q⟩ := h
    have nd := scParT.nd
    have hr2 : Room 2 _ := hr.mono (by omega)
    refine ⟨_, pss_cons (ps_if (pt_not (pt_val (pe_callB call_isi (by rfl) mi (by decide +kernel) (pa_cons (pv 0) (pa_cons (pe_bltn (v := .ty "str") (by rfl) mS (by decide +kernel) rfl) pa_nil))))) (pss_one ps_never) pss_nil)
      (pss_cons (ps_asg (pe_call GR hr2 (by rfl) gR kR bR .nil pass0 (pa_cons (pv 0) pa_nil)) (pg_tup (by rfl) (pgs_cons (pg_name (i := 1) nd rfl (.inl rfl)) (pgs_cons (pg_name (i := 2) nd rfl (.inl rfl)) pgs_nil))))
      (pss_cons (ps_if (PW.pt (pw_or (pt_not (pt_val (pe_call GP hr (by rfl) gP kP bP .nil pass0 (pa_cons (pv 1) pa_nil)))) (pw_or (pt_not (pt_val (pe_call GF hr (by rfl) gF kF bF .nil pass0 (pa_cons (pv 1) (pa_cons (pv 2) pa_nil)))))
          (pw_or1 (pt_cmpR op_ne (pe_call GT hr (by rfl) gT kT bT .nil pass0 (pa_cons (pv 1) (pa_cons (pv 2) pa_nil))) (pv 0) (nomark _)))))) (pss_one ps_never) pss_nil)
      (pss_one (ps_ret (pe_tup (pa_cons (pv 1) (pa_cons (pv 2) pa_nil))))))), ?_⟩
    refine ⟨_, rfl, _, _, _, _, true, rfl, .ty "str", .base (.str _), kit_ty (by decide +kernel), true, rfl, ?_⟩
    refine ⟨_, rfl, cs, vs, rfl, gd, h24, v9, fun H1 T a t s1 hT hp ht => ?_⟩
    refine ⟨T, _, rfl, hT, rfl, _, _, rfl, _, _, rfl, rfl, ?_⟩
    refine ⟨_, rfl, a, cs, rfl, hp.at, gd, h24, fun H2 s2 => ⟨true, rfl, ?_⟩⟩
    refine ⟨_, rfl, _, rfl, a, t, cs, vs, rfl, (hp.same s2).at, gd, h24, same_seqT s2 ht, v9, fun H3 s3 => ⟨true, rfl, ?_⟩⟩
    have s23 := s2.trans s3
    refine ⟨_, rfl, _, rfl, a, t, cs, vs, rfl, hp.same s23, gd, h24, same_seqT s23 ht, v9, fun H4 s4 => ⟨_, rfl, rfl, false, ?_, ?_⟩⟩
    · exact congrArg (fun b => V.bl (!b)) (decide_eq_true rfl)
    have s24 := s23.trans s4
    refine ⟨_, rfl, _, rfl, by show 2 ≤ sizeLine; decide, fun U nU => ?_⟩
    have sU := same_new (o := .tup [.ref a, .ref t]) nU
    exact q _ U a t ((s1.trans s24).trans sU) (SqT.of upd_same) ((hp.same s24).same sU) (same_seqT (s24.trans sU) ht)
end
end KS
namespace KS
open PySem PySem.Spec PyProof.Rows L2 RZ TL
abbrev sTabR : Stmt := topS 56
abbrev nTabR : List Str := ["_law_pool_here", "_law_spots", "_law_some", "_law_turned", "_law_tables", "_law_table", "_law_pages", "_law_k", "_law_told", "_law_grid", "_law_back", "_law_spot", "_law_one", "_law_j", "_law_strip", "_law_page", "_law_side"]
theorem scTabR : FnScope nTabR ["_law_pool_here"] (defScope sTabR) := ⟨rfl, rfl, rfl, by decide +kernel, rfl, by decide +kernel, by decide +kernel⟩
section
variable {P : Program} {w : World} {K : PySem.W.Frag} {mg : Str → Option Value} {base : Heap}
theorem ok_tabR {f fL fD fV fP fN fF fA : Addr} {fd fdL fdD fdV fdP fdN fdF fdA : FuncData} (F : Fun K "_law_tables_right" "_law_tables_right" sTabR f fd)
    (GL : FnOk P w K mg base CX0 2 fL fdL ["_law_pool_here", "_law_most"] (spPlanT K)) (bL : Binds K fdL ["_law_pool_here", "_law_most"] []) (gL : mg "_law_plan" = some (.ref fL)) (kL : PySem.W.keepIn K (.ref fL) = true)
    (GD : FnOk P w K mg base CX0 1 fD fdD ["_law_pool_here", "_law_most"] spDraw) (bD : Binds K fdD ["_law_pool_here", "_law_most"] []) (gD : mg "_law_draw" = some (.ref fD)) (kD : PySem.W.keepIn K (.ref fD) = true)
    (GV : FnOk P w K mg base CX0 2 fV fdV ["_law_pool_here", "_law_size"] (spValues K)) (bV : Binds K fdV ["_law_pool_here", "_law_size"] []) (gV : mg "_law_values" = some (.ref fV)) (kV : PySem.W.keepIn K (.ref fV) = true)
    (GP : FnOk P w K mg base CX0 1 fP fdP ["_law_pairs"] (spPaired K)) (bP : Binds K fdP ["_law_pairs"] []) (gP : mg "_law_paired" = some (.ref fP)) (kP : PySem.W.keepIn K (.ref fP) = true)
    (GN : FnOk P w K mg base CX0 2 fN fdN ["_law_pool_here", "_law_spots", "_law_some"] (spNear K)) (bN : Binds K fdN ["_law_pool_here", "_law_spots", "_law_some"] []) (gN : mg "_law_near" = some (.ref fN)) (kN : PySem.W.keepIn K (.ref fN) = true)
    (GF : FnOk P w K mg base CX0 6 fF fdF ["plan", "filling"] (spFmtT K)) (bF : Binds K fdF ["plan", "filling"] []) (gF : mg "format_table" = some (.ref fF)) (kF : PySem.W.keepIn K (.ref fF) = true)
    (GA : FnOk P w K mg base CX0 7 fA fdA ["text"] (spRdT K)) (bA : Binds K fdA ["text"] []) (gA : mg "parse_table" = some (.ref fA)) (kA : PySem.W.keepIn K (.ref fA) = true)
    (ml : mg "len" = none) (mz : mg "zip" = none) (ms : mg "set" = none) (me : mg "enumerate" = none) (mR : mg "repr" = none) (my : mg "any" = none) (mr : mg "range" = none) : FnG P w K mg base 13 f fd ["_law_pool_here"] spRightP := by
  refine okG F scTabR (fun vs H Q E h => ?_) (fun cdv A outer s H vs Q E hr hgd h => ?_)
  · obtain ⟨p, rfl, _⟩ := h
    rfl
  · obtain ⟨p, rfl, po, q⟩ := h
    have nd := scTabR.nd
    have hr1 : Room 1 _ := hr.mono (by omega)
    have hr2 : Room 2 _ := hr.mono (by omega)
    have hr6 : Room 6 _ := hr.mono (by omega)
    have hr7 : Room 7 _ := hr.mono (by omega)
    have hu : (A.deeper (envOfC "_law_tables_right" (defScope sTabR) s.heap.objs.size f cdv)).units + 100 < cLine := by
      have := hr.un
      omega
    refine ⟨_, pss_cons (ps_set (i := 1) nd rfl (.inl rfl) (pe_call GL hr2 (by rfl) gL kL bL .nil pass0 (pa_cons (pv 0) (pa_cons (pe_ifExp (pt_cmpR op_eq (pe_call GD hr1 (by rfl) gD kD bD .nil pass0 (pa_cons (pv 0) (pa_cons pe_int pa_nil))) pe_int (nomark _)) pe_int pe_int) pa_nil))))
      (pss_cons (ps_set (i := 2) nd rfl (.inl rfl) (pe_call GV hr2 (by rfl) gV kV bV .nil pass0 (pa_cons (pv 0) (pa_cons (pe_callB call_len_seq (by rfl) ml PySem.boot_len (pa_cons (pv 1) pa_nil)) pa_nil))))
      (pss_cons (ps_set (i := 3) nd rfl (.inl rfl) (pe_call GP hr1 (by rfl) gP kP bP .nil pass0 (pa_cons
          (pe_lc (own := [("_law_spot", 11), ("_law_one", 12)]) (tt := tYes) rfl nd (pi_zipA (by rfl) mz (pa_cons (pv 1) (pa_cons (pv 2) pa_nil))) (blkOk_by (N := nTabR) (sc := defScope sTabR) (by decide +kernel))
            (fun _ _ _ _ _ => pg_tupK (K := K) (n := 2) rfl (by rfl) (pgs_cons (pg_name (i := 11) nd rfl (Or.inl rfl)) (pgs_cons (pg_name (i := 12) nd rfl (Or.inl rfl)) pgs_nil))) (fun _ _ _ _ _ => pts_nil)
            (fun _ _ _ _ _ => pe_tup (pa_cons (pe_tup (pa_cons (pe_ix (r := rIxT K) ix_tup (pv 11) pe_int (fun _ _ => rfl)) (pa_cons (pe_ix (r := rIxT K) ix_tup (pv 11) pe_int (fun _ _ => rfl)) pa_nil))) (pa_cons (pv 12) pa_nil)))) pa_nil)))
      (pss_cons (ps_set (i := 4) nd rfl (.inr rfl) (pe_lst (pa_cons (pe_tup (pa_cons (pv 1) (pa_cons (pv 2) pa_nil))) (pa_cons (pe_call GN hr2 (by rfl) gN kN bN .nil pass0 (pa_cons (pv 0) (pa_cons (pv 1) (pa_cons (pv 2) pa_nil)))) (pa_cons (pv 3) pa_nil)))))
      (pss_cons (ps_set (i := 4) nd rfl (.inr rfl) (pe_lc (own := [("_law_table", 5)]) (g := gName 5) rfl nd (pi_list (pv 4)) (blkOk_by (N := nTabR) (sc := defScope sTabR) (by decide +kernel))
          (fun _ _ _ _ _ => pg_name (i := 5) nd rfl (Or.inl rfl)) (fun _ _ _ _ _ => pts_one (pt_cmpR op_eq (pe_lenSetTK (K := K) rfl (by rfl) ml (by rfl) ms (pe_ix (r := rIxT K) ix_tup (pv 5) pe_int (fun _ _ => rfl))) (pe_callB (id := "len") (r := rLenSeq K) (call_lenK rfl) (by rfl) ml PySem.boot_len (pa_cons (pe_ix (r := rIxT K) ix_tup (pv 5) pe_int (fun _ _ => rfl)) pa_nil)) (nomark _)))
          (fun _ _ _ _ _ => pv 5)))
      (pss_cons (ps_set (i := 6) nd rfl (.inr rfl) (pe_lc (own := [("_law_table", 5)]) (g := gName 5) (tt := tYes) rfl nd (pi_list (pv 4)) (blkOk_by (N := nTabR) (sc := defScope sTabR) (by decide +kernel))
          (fun _ _ _ _ _ => pg_name (i := 5) nd rfl (Or.inl rfl)) (fun _ _ _ _ _ => pts_nil)
          (fun _ _ _ _ _ => pe_call GF hr6 (by rfl) gF kF bF .nil pass0 (pa_cons (pe_ix (r := rIxT K) ix_tup (pv 5) pe_int (fun _ _ => rfl)) (pa_cons (pe_ix (r := rIxT K) ix_tup (pv 5) pe_int (fun _ _ => rfl)) pa_nil)))))
      (pss_cons (ps_for PassesOwn.never rfl (pi_enum (by rfl) me (pa_cons (pv 4) pa_nil)) (pg_tup (by rfl) (pgs_cons (pg_name (i := 7) nd rfl (.inr rfl)) (pgs_cons (pg_name (i := 5) nd rfl (.inr rfl)) pgs_nil)))
        (pss_cons (ps_set (i := 8) nd rfl (.inl rfl) (pe_call GA hr7 (by rfl) gA kA bA .nil pass0 (pa_cons (pe_ix ix_list (pv 6) (pv 7) (fun _ _ => rfl)) pa_nil)))
        (pss_cons (ps_if (PW.pt (pw_or (pt_cmpR op_ne (pe_callB (call_reprD hgd hu) (by rfl) mR (by decide +kernel) (pa_cons (pv 8) pa_nil)) (pe_callB (call_reprD hgd hu) (by rfl) mR (by decide +kernel) (pa_cons (pv 5) pa_nil)) (nomark _))
          (pw_or1 (pt_cmpR op_ne (pe_call GF hr6 (by rfl) gF kF bF .nil pass0 (pa_cons (pe_ix ix_tup (pv 8) pe_int (fun _ _ => rfl)) (pa_cons (pe_ix ix_tup (pv 8) pe_int (fun _ _ => rfl)) pa_nil))) (pe_ix ix_list (pv 6) (pv 7) (fun _ _ => rfl)) (nomark _))))) (pss_one ps_never) pss_nil)
        (pss_one (ps_if (pt_val (pe_callB (cr_any rfl) (by rfl) my (by decide +kernel) (pa_cons
          (pe_lc (own := [("_law_j", 13)]) (g := gName 13) (tt := tYes) rfl nd (pi_range1 (by rfl) mr (pa_cons (pe_callB call_len_seq (by rfl) ml PySem.boot_len (pa_cons (pv 4) pa_nil)) pa_nil)) (blkOk_by (N := nTabR) (sc := defScope sTabR) (by decide +kernel))
            (fun _ _ _ _ _ => pg_name (i := 13) nd rfl (Or.inl rfl)) (fun _ _ _ _ _ => pts_nil)
            (fun _ _ _ _ _ => pe_cmpR op_ne (pe_cmpR op_eq (pe_ix (r := rIxL K) ix_list (pv 6) (pv 7) (fun _ _ => rfl)) (pe_ix (r := rIxL K) ix_list (pv 6) (pv 13) (fun _ _ => rfl)) (nomark _)) (pe_cmpR (r := rEqD K) (op_eqD hr.units) (pv 5) (pe_ix (r := rIxL K) ix_list (pv 4) (pv 13) (fun _ _ => rfl)) (nomark _)) (nomark _))) pa_nil))) (pss_one ps_never) pss_nil)))))
      (pss_cons (ps_asg (pe_lc (own := [("_law_page", 15)]) (g := gName 15) (tt := tYes) rfl nd (pi_list (pe_lst (pa_cons (pe_ix ix_list (pv 6) pe_int (fun _ _ => rfl)) (pa_cons (pe_ix ix_list (pv 6) (pe_un un_neg pe_int) (fun _ _ => rfl)) pa_nil)))) (blkOk_by (N := nTabR) (sc := defScope sTabR) (by decide +kernel))
            (fun _ _ _ _ _ => pg_name (i := 15) nd rfl (Or.inl rfl)) (fun _ _ _ _ _ => pts_nil)
            (fun _ _ _ _ _ => pe_lc (own := [("_law_strip", 14)]) (g := gName 14) (tt := tYes) rfl nd (pi_listK (K := K) rfl (pe_split (pv 15) pe_str)) (blkOk_by (N := nTabR) (sc := { kind := .function, names := [(".0", .local), ("_law_page", .local)], isGenerator := false, isCoroutine := false }) (by decide +kernel))
              (fun _ _ _ _ _ => pg_name (i := 14) nd rfl (Or.inl rfl)) (fun _ _ _ _ _ => pts_nil) (fun _ _ _ _ _ => pe_split (pv 14) pe_str)))
          (pg_lst (by rfl) (pgs_cons (pg_name (i := 9) nd rfl (.inr rfl)) (pgs_cons (pg_name (i := 10) nd rfl (.inl rfl)) pgs_nil))))
      (pss_one (ps_ret (pe_cmpR (op_eqD hr.units) (pv 10)
          (pe_lc (own := [("_law_side", 16)]) (g := gName 16) (tt := tYes) rfl nd (pi_range1 (by rfl) mr (pa_cons (pe_callB call_len_seq (by rfl) ml PySem.boot_len (pa_cons (pe_ix ix_list (pv 9) pe_int (fun _ _ => rfl)) pa_nil)) pa_nil)) (blkOk_by (N := nTabR) (sc := defScope sTabR) (by decide +kernel))
            (fun _ _ _ _ _ => pg_name (i := 16) nd rfl (Or.inr rfl)) (fun _ _ _ _ _ => pts_nil)
            (fun _ _ _ _ _ => pe_lc (own := [("_law_strip", 14)]) (g := gName 14) (tt := tYes) rfl nd (pi_listK (K := K) rfl (pv 9)) (blkOk_by (N := nTabR) (sc := { kind := .function, names := [(".0", .local), ("_law_side", .cell), ("_law_grid", .cell)], isGenerator := false, isCoroutine := false }) (by decide +kernel))
              (fun _ _ _ _ _ => pg_name (i := 14) nd rfl (Or.inl rfl)) (fun _ _ _ _ _ => pts_nil) (fun _ _ _ _ _ => pe_ix (r := rIxL K) ix_list (pv 14) (pv 16) (fun _ _ => rfl)))) (nomark _))))))))))), ?_⟩
    refine ⟨_, rfl, _, rfl, p, 8, rfl, po, by decide, by decide, fun H1 r k1 po1 r0 r1 => ?_⟩
    refine ⟨rfl, _, rfl, ite2 (fun e => ?_) (fun e => ?_)⟩
    all_goals
      refine ⟨p, _, rfl, po1, by decide, by decide, fun H2 a cs k2 po2 hpl gd hcl _ => ?_⟩
      have hl : cs.length ≤ 24 := by omega
      clear hcl e
      obtain ⟨xs, hx, hc⟩ := id hpl
      have hlen := Paired.length hc
      have n1 : 1 ≤ cs.length := by
        cases cs with
        | nil => exact absurd rfl gd.ne
        | cons c cs => exact Nat.succ_le_succ (Nat.zero_le _)
      refine ⟨_, rfl, _, rfl, a, xs, rfl, .inr hx, p, xs.length, rfl, po2, by omega, by omega, fun H3 t vs k3 po3 ht v9 _ => ?_⟩
      rw [hlen] at v9
      have vl := v9.len
      have hp3 := hpl.keepX po2 k3
      have kx3 := (k1.trans k2).trans k3
      clear hpl hx hc k1 k2 k3 po2 po1
      obtain ⟨xs, hx, hc⟩ := id hp3
      have hlen := Paired.length hc
      have asc := asc_zip (vs := vs) gd.asc
      have e1 : (cs.zip vs).map (·.1) = cs := by rw [← List.unzip_fst, List.unzip_zip v9.len.symm]
      have zl : (cs.zip vs).length = cs.length := by rw [List.length_zip, vl]; exact Nat.min_self _
      -- turned
      refine ⟨_, rfl, _, rfl, a, t, xs, vs.map V.int, rfl, .inr ⟨hx, ht, fun D nD => ?_⟩⟩
      refine lc_it (walk_zipT (K := K) (a := a) (b := t) (xs := xs) (ys := vs.map V.int) (n := cs.length) hlen (by rw [List.length_map, vl])) (fun j G => ∃ acc, G D = some (.lst acc) ∧ PrsT G acc (((cs.zip vs).map swC).take j) ∧ (∀ b o, b ≠ D → H3 b = some o → G b = some o)) ?_ ?_ ?_ ?_
      · exact ⟨[], upd_same, .nil, fun b o n e => by rw [upd_ne n]; exact e⟩
      · rintro j G _ ⟨acc, a1, a2, a3⟩
        have sG : Same H3 G := fun b o e => a3 b o (ne_of_none e nD) e
        exact ⟨same_seqT sG hx, same_seqT sG ht⟩
      · rintro j x G G1 hj ⟨acc, a1, a2, a3⟩ ⟨T, y, z, rfl, nT, rfl, ey, ez⟩
        have sG : Same H3 G := fun b o e => a3 b o (ne_of_none e nD) e
        have sT := same_new (o := .tup [y, z]) nT
        obtain ⟨c, ec, b, rfl, hb⟩ := paired_get hc ey
        have evj : vs[j]? = some vs[j] := List.getElem?_eq_getElem (by omega)
        have ez : (vs.map V.int)[j]? = some z := ez
        rw [List.getElem?_map, evj] at ez
        cases ez
        have ezip : (cs.zip vs)[j]? = some (c, vs[j]) := by
          rw [List.getElem?_zip_eq_some]
          exact ⟨ec, evj⟩
        have al : acc.length ≤ 24 := by
          rw [Paired.length a2, List.length_take, List.length_map, zl]
          omega
        have hb1 := sT _ _ (sG _ _ hb)
        have hD1 := sT _ _ a1
        refine ⟨T, _, rfl, SqT.of upd_same, rfl, _, _, rfl, _, _, rfl, rfl, rfl, ?_⟩
        refine ⟨_, rfl, b, _, 1, .int c.2, rfl, rfl, SqT.of hb1, rfl, _, rfl, b, _, 0, .int c.1, rfl, rfl, SqT.of hb1, rfl, by show 2 ≤ sizeLine; decide, fun Z nZ => ?_⟩
        have sZ := same_new (o := .tup [.int c.2, .int c.1]) nZ
        have hZ : upd (upd G T (.tup [.ref b, .int vs[j]])) Z (.tup [.int c.2, .int c.1]) Z = some (.tup [.int c.2, .int c.1]) := upd_same
        refine ⟨_, rfl, by show 2 ≤ sizeLine; decide, fun Y nY => ?_⟩
        have sY := same_new (o := .tup [.ref Z, .int vs[j]]) nY
        have hD2 := sY _ _ (sZ _ _ hD1)
        refine ⟨acc, hD2, small64 (by omega), acc ++ [.ref Y], upd_same, ?_, fun b' o n e => ?_⟩
        · rw [List.take_add_one, List.getElem?_map, ezip]
          exact PrsT.ktt (KTt.upd hD2) (paired_append (PrsT.ktt (KTt.of_same ((sT.trans sZ).trans sY)) a2) (.cons ⟨Y, Z, rfl, upd_same, sY _ _ hZ⟩ .nil))
        · rw [upd_ne n]
          exact sY _ _ (sZ _ _ (sT _ _ (a3 b' o n e)))
      rintro H4 ⟨acc, a1, a2, a3⟩
      have s4 : Same H3 H4 := fun b o e => a3 b o (ne_of_none e nD) e
      rw [List.take_of_length_le (by rw [List.length_map, zl]; exact Nat.le_refl _)] at a2
      refine ⟨D, acc, (cs.zip vs).map swC, rfl, a1, a2, sw_nd (by rw [e1]; exact nodup_of_asc gd.asc), by rw [List.length_map, zl]; exact hl, fun H5 T3 a3' t3 zs3 s5 pm3 asc3 hT3 hp3' ht3 => ?_⟩
      obtain ⟨gd3, l3, v93⟩ := turn_good gd v9 pm3 asc3
      have s45 := s4.trans s5
      have hp5 := hp3.same s45
      have ht5 := same_seqT s45 ht
      have po5 := po3.same s45
      have kx5 := kx3.trans (KeepX.of_same (p := p) s45)
      have tb3 : TbT K H5 (.ref T3) (zs3.map (·.1), zs3.map (·.2)) := ⟨T3, a3', t3, rfl, SqT.of hT3, hp3', SqT.of ht3⟩
      clear a1 a2 a3 s4 s5 hT3 hp3' ht3 nD s45
      -- the three tables
      refine ⟨_, rfl, _, rfl, by show 2 ≤ sizeLine; decide, fun T1 nT1 => ?_⟩
      have sT1 := same_new (o := .tup [.ref a, .ref t]) nT1
      have tb1 : TbT K (upd H5 T1 (.tup [.ref a, .ref t])) (.ref T1) (cs, vs) := ⟨T1, a, t, rfl, SqT.of upd_same, hp5.same sT1, same_seqT sT1 ht5⟩
      have tb3 := tb3.same sT1
      have po6 := po5.same sT1
      have kx6 := kx5.trans (KeepX.of_same (p := p) sT1)
      refine ⟨_, rfl, _, rfl, _, rfl, p, a, t, cs, vs, rfl, po6, hp5.same sT1, gd, hl, same_seqT sT1 ht5, v9, fun H7 T2 a2 t2 cs2 vs2 k7 po7 hT2 hp2 gd2 hl2 ht2 len2 bd2 => ?_⟩
      have tb1 := tb1.keepX po6 k7
      have tb3 := tb3.keepX po6 k7
      have tb2 : TbT K H7 (.ref T2) (cs2, vs2) := ⟨T2, a2, t2, rfl, SqT.of hT2, hp2, ht2⟩
      have kx7 := kx6.trans k7
      refine ⟨_, rfl, by show 3 ≤ sizeLine; decide, fun M nM => ?_⟩
      have sM := same_new (o := .lst [.ref T1, .ref T2, .ref T3]) nM
      have hM : upd H7 M (.lst [.ref T1, .ref T2, .ref T3]) M = some (.lst [.ref T1, .ref T2, .ref T3]) := upd_same
      have tbs : TbsT K (upd H7 M (.lst [.ref T1, .ref T2, .ref T3])) [.ref T1, .ref T2, .ref T3] [(cs, vs), (cs2, vs2), (zs3.map (·.1), zs3.map (·.2))] := .cons (tb1.same sM) (.cons (tb2.same sM) (.cons (tb3.same sM) .nil))
      have po8 := po7.same sM
      have kx8 := kx7.trans (KeepX.of_same (p := p) sM)
      generalize upd H7 M (.lst [.ref T1, .ref T2, .ref T3]) = H8 at hM tbs po8 kx8
      clear tb1 tb2 tb3 sM kx7 kx6 kx5 kx3 po7 po6 po5 k7 hp5 ht5 hp2 ht2 hT2 sT1 nT1 hp3 hx hc ht
      have okTs : ∀ u ∈ [((cs, vs) : Tb), (cs2, vs2), (zs3.map (·.1), zs3.map (·.2))], okU u := by
        intro u hu'
        rcases (by simpa using hu' : u = (cs, vs) ∨ u = (cs2, vs2) ∨ u = (zs3.map (·.1), zs3.map (·.2))) with z | z | z
        · rw [z]
          exact ⟨gd, hl, vl, v9.bd⟩
        · rw [z]
          exact ⟨gd2, hl2, len2, bd2⟩
        · rw [z]
          exact ⟨gd3, by show (zs3.map (·.1)).length ≤ 24; omega, v93.len, v93.bd⟩
      have first : ndU (cs, vs) = true := decide_eq_true v9.nd
      have third : ndU (zs3.map (·.1), zs3.map (·.2)) = true := decide_eq_true v93.nd
      generalize hTs : [((cs, vs) : Tb), (cs2, vs2), (zs3.map (·.1), zs3.map (·.2))] = Ts at tbs okTs
      have tl3 : Ts.length = 3 := by rw [← hTs]; rfl
      -- those without a value twice
      refine ⟨_, rfl, M, rfl, ⟨_, SqL.of hM⟩, fun D2 nD2 => ?_⟩
      have nMD : M ≠ D2 := ne_of_none hM nD2
      refine lc_list (K := K) (a := M) (xs := [.ref T1, .ref T2, .ref T3]) (fun j G => ∃ acc, G D2 = some (.lst acc) ∧ TbsT K G acc ((Ts.take j).filter ndU) ∧ (∀ b o, b ≠ D2 → H8 b = some o → G b = some o)) ?_ ?_ ?_ ?_
      · exact ⟨[], upd_same, .nil, fun b o n e => by rw [upd_ne n]; exact e⟩
      · rintro j G _ ⟨acc, a1, a2, a3⟩
        exact SqL.of (a3 _ _ nMD hM)
      · rintro j x G hj ⟨acc, a1, a2, a3⟩
        have sG : Same H8 G := fun b o e => a3 b o (ne_of_none e nD2) e
        obtain ⟨u, huj, tb⟩ := paired_get tbs hj
        obtain ⟨T, b, s', rfl, hT, hb, hs'⟩ := id tb
        have ou := okTs u (List.mem_of_getElem? huj)
        have o24 := ou.2.1
        have oln := ou.2.2.1
        have hT' := same_seqT sG hT
        have hs2 := same_seqT sG hs'
        have al : acc.length ≤ 3 := by
          rw [Paired.length a2]
          refine Nat.le_trans (List.length_filter_le _ _) ?_
          rw [List.length_take]
          omega
        refine ⟨rfl, _, rfl, T, _, 1, .ref s', rfl, rfl, hT', rfl, s', u.2, rfl, hs2, by omega, fun c ck cl => ?_⟩
        refine ⟨_, rfl, T, _, 1, .ref s', rfl, rfl, hT', rfl, s', _, rfl, .inr hs2, rfl, _, rfl, ?_⟩
        rw [List.length_map]
        rw [List.take_add_one, huj, List.filter_append]
        by_cases nd' : u.2.Nodup
        · have en : ndU u = true := decide_eq_true nd'
          have ec : decide (V.int ((c : Nat) : Int) = V.int ((u.2.length : Nat) : Int)) = true := decide_eq_true (by rw [ck.mpr nd'])
          rw [ec]
          refine iteT ⟨_, rfl, acc, a1, small64 (by omega), acc ++ [.ref T], upd_same, ?_, fun b' o n e => by rw [upd_ne n]; exact a3 b' o n e⟩
          have ef : List.filter ndU (some u).toList = [u] := by
            show List.filter ndU [u] = [u]
            rw [List.filter_cons, if_pos en, List.filter_nil]
          rw [ef]
          exact paired_append (TbsT.upd a1 a2) (.cons ((tb.same sG).upd a1) .nil)
        · have en : ¬ ndU u = true := fun z => nd' (of_decide_eq_true z)
          have ec : decide (V.int ((c : Nat) : Int) = V.int ((u.2.length : Nat) : Int)) = false := decide_eq_false fun z => nd' (ck.mp (by have := V.int.inj z; omega))
          rw [ec]
          refine iteF ⟨acc, a1, ?_, a3⟩
          have ef : List.filter ndU (some u).toList = [] := by
            show List.filter ndU [u] = []
            rw [List.filter_cons, if_neg en, List.filter_nil]
          rw [ef, List.append_nil]
          exact a2
      rintro H9 ⟨ws, a1, a2, a3⟩
      have s9 : Same H8 H9 := fun b o e => a3 b o (ne_of_none e nD2) e
      rw [List.take_of_length_le (by rw [tl3]; exact Nat.le_refl _)] at a2
      have po9 := po8.same s9
      have kx9 := kx8.trans (KeepX.of_same (p := p) s9)
      obtain ⟨u0, uL, u3⟩ := filt3 (y := (cs2, vs2)) first third
      rw [hTs] at u0 uL u3
      have okUs : ∀ u ∈ Ts.filter ndU, okV u := fun u hu' => by
        obtain ⟨m1, m2⟩ := List.mem_filter.mp hu'
        exact (okTs u m1).v m2
      generalize Ts.filter ndU = Us at a2 u0 uL u3 okUs
      have wl := Paired.length a2
      clear okTs hTs tbs tl3 nMD nD2 a3 s9 po8 kx8
      -- the texts
      refine ⟨_, rfl, D2, rfl, ⟨_, SqL.of a1⟩, fun D3 nD3 => ?_⟩
      have nD23 : D2 ≠ D3 := ne_of_none a1 nD3
      refine lc_list (K := K) (a := D2) (xs := ws) (fun j G => G D3 = some (.lst (((Us.take j).map pgU).map V.str)) ∧ (∀ b o, b ≠ D3 → H9 b = some o → G b = some o)) ?_ ?_ ?_ ?_
      · exact ⟨upd_same, fun b o n e => by rw [upd_ne n]; exact e⟩
      · rintro j G _ ⟨_, b2⟩
        exact SqL.of (b2 _ _ nD23 a1)
      · rintro j x G hj ⟨b1, b2⟩
        have sG : Same H9 G := fun b o e => b2 b o (ne_of_none e nD3) e
        obtain ⟨u, huj, tb⟩ := paired_get a2 hj
        obtain ⟨T, b, s', rfl, hT, hb, hs'⟩ := tb.same sG
        obtain ⟨ug, ul, u9⟩ := okUs u (List.mem_of_getElem? huj)
        refine ⟨rfl, _, rfl, T, _, 0, .ref b, rfl, rfl, hT, rfl, _, rfl, T, _, 1, .ref s', rfl, rfl, hT, rfl, b, s', u.1, u.2, rfl, hb, ug, ul, hs', u9, fun G1 s1 => ?_⟩
        refine ⟨_, s1 _ _ b1, ?_, ?_, fun b' o n e => ?_⟩
        · rw [List.length_map, List.length_map, List.length_take]
          exact small64 (by omega)
        · rw [upd_same, List.take_add_one, huj, List.map_append, List.map_append]
          rfl
        · rw [upd_ne n]
          exact s1 _ _ (b2 b' o n e)
      rintro G9 ⟨b1, b2⟩
      have s10 : Same H9 G9 := fun b o e => b2 b o (ne_of_none e nD3) e
      rw [wl, List.take_length] at b1
      have hD2 := s10 _ _ a1
      have tb9 := TbsT.same s10 a2
      have po10 := po9.same s10
      have kx10 := kx9.trans (KeepX.of_same (p := p) s10)
      have hD3 : SqL K G9 D3 ((Us.map pgU).map V.str) := SqL.of b1
      have atD : ∀ {i : Nat} {u : Tb}, Us[i]? = some u → atI ((Us.map pgU).map V.str) (i : Int) = some (.str (pgU u)) := fun {i u} e => atI_nat (by rw [List.getElem?_map, List.getElem?_map, e]; rfl)
      clear a1 a2 b2 s10 nD23 nD3 po9 kx9
      -- each of them
      refine ⟨_, rfl, D2, ws, rfl, SqL.of hD2, ?_⟩
      refine for_it (walk_enum (K := K) (a := D2) (xs := ws)) (fun i σ J => ∃ y5 y7 y8 : Option V, σ = [some (.ref p), some (.ref a), some (.ref t), some (.ref T3), some (.ref D2), y5, some (.ref D3), y7, y8, none, none, none, none, none, none, none, none] ∧ Same G9 J) ?_ ?_ ?_ ?_
      · exact ⟨_, _, _, rfl, Same.refl _⟩
      · rintro i σ J _ ⟨_, _, _, _, sj⟩
        exact sj.seq (SqL.of hD2)
      · rintro i v σ J J' hi ⟨y5, y7, y8, rfl, sj⟩ ⟨T, k, x, rfl, nT, rfl, ek, ex⟩
        cases ek
        have ex : ws[i]? = some x := ex
        obtain ⟨u, huj, tb⟩ := paired_get tb9 ex
        obtain ⟨Tu, b, s', rfl, hT, hb, hs'⟩ := id tb
        have ou := okUs u (List.mem_of_getElem? huj)
        obtain ⟨ug, ul, u9⟩ := id ou
        obtain ⟨sh, dp⟩ := tabU9 ou
        have sT := same_new (o := .tup [.int (i : Nat), .ref Tu]) nT
        have s2 := sj.trans sT
        refine ⟨T, _, rfl, SqT.of upd_same, rfl, _, _, rfl, _, _, rfl, rfl, ?_⟩
        refine ⟨_, rfl, _, rfl, D3, _, _, _, rfl, rfl, s2.seq hD3, atD huj, u.1, u.2, rfl, ug, ul, u9, fun J2 Tn an tn j2 q1 q2 q3 => ?_⟩
        have tbn : TbT K J2 (.ref Tn) u := ⟨Tn, an, tn, rfl, q1, q2, q3⟩
        refine ⟨_, rfl, Tn, tabD u.1 u.2, rfl, tbn.dp, sh.show_, sh.nod, sh.len (by decide), dp, ?_⟩
        refine ⟨_, rfl, Tu, tabD u.1 u.2, rfl, (tb.same (s2.trans j2)).dp, sh.show_, sh.nod, sh.len (by decide), dp, rfl, false, ?_, ?_⟩
        · rw [decide_eq_true rfl]
          rfl
        refine ⟨_, rfl, Tn, _, 0, .ref an, rfl, rfl, q1, rfl, _, rfl, Tn, _, 1, .ref tn, rfl, rfl, q1, rfl, an, tn, u.1, u.2, rfl, q2, ug, ul, q3, u9, fun J3 j3 => ?_⟩
        have s3 := (s2.trans j2).trans j3
        refine ⟨_, rfl, _, rfl, D3, _, _, _, rfl, rfl, s3.seq hD3, atD huj, rfl, false, ?_, ?_⟩
        · show V.bl (!decide (V.str (pgU u) = V.str (pgU u))) = _
          rw [decide_eq_true rfl]
          rfl
        refine ⟨_, rfl, D2, ws, rfl, .inl (s3.seq (SqL.of hD2)), _, rfl, by omega, by omega, fun D4 nD4 => ?_⟩
        have ew : (ws.length : Int).toNat = ws.length := Int.toNat_natCast _
        rw [ew]
        refine lc_range (lo := 0) (n := ws.length) (fun j L => L D4 = some (.lst ((List.replicate j false).map V.bl)) ∧ (∀ b o, b ≠ D4 → J3 b = some o → L b = some o)) ?_ ?_ ?_
        · exact ⟨upd_same, fun b o n e => by rw [upd_ne n]; exact e⟩
        · rintro j L hj ⟨c1, c2⟩
          have sL : Same J3 L := fun b o e => c2 b o (ne_of_none e nD4) e
          have s5 := s3.trans sL
          obtain ⟨v', ev⟩ : ∃ v', ws[j]? = some v' := ⟨ws[j]'(by omega), List.getElem?_eq_getElem (by omega)⟩
          obtain ⟨u', hu', tb'⟩ := paired_get tb9 ev
          have ou' := okUs u' (List.mem_of_getElem? hu')
          have ej : (0 : Int) + (j : Int) = (j : Int) := Int.zero_add _
          refine ⟨rfl, _, rfl, _, rfl, D3, _, _, _, rfl, rfl, s5.seq hD3, atD huj, _, rfl, _, rfl, D3, _, _, .str (pgU u'), rfl, rfl, s5.seq hD3, ?_, rfl, ?_⟩
          · show atI _ ((0 : Int) + (j : Int)) = _
            rw [ej]
            exact atD hu'
          refine ⟨_, rfl, _, rfl, _, rfl, D2, ws, _, v', rfl, rfl, s5.seq (SqL.of hD2), ?_, _, _, (tb.same s5).dp, (tb'.same s5).dp, tab_shaped u, tab_shaped u', ?_⟩
          · show atI ws ((0 : Int) + (j : Int)) = _
            rw [ej]
            exact atI_nat ev
          refine ⟨rfl, _, c1, ?_, ?_, fun b o n e => ?_⟩
          · rw [List.length_map, List.length_replicate]
            exact small64 (by omega)
          · rw [upd_same, List.replicate_succ', List.map_append, tab_eqv, pg_eq ou ou']
            have : ∀ z : Bool, V.bl (!decide (V.bl z = V.bl z)) = V.bl false := fun z => by rw [decide_eq_true rfl]; rfl
            rw [this]
            rfl
          · rw [upd_ne n]
            exact c2 b o n e
        · rintro L ⟨c1, c2⟩
          have sL : Same J3 L := fun b o e => c2 b o (ne_of_none e nD4) e
          refine ⟨D4, _, rfl, SqL.of c1, ?_⟩
          rw [show (List.replicate ws.length false).any id = false by simp]
          refine ⟨false, rfl, ?_⟩
          exact ⟨_, _, _, rfl, s3.trans sL⟩
      · rintro σ J ⟨y5, y7, y8, rfl, sj⟩
        have hD3 := sj.seq hD3
        have poJ := po10.same sj
        have kxJ := kx10.trans (KeepX.of_same (p := p) sj)
        have ouA := okUs _ (List.mem_of_getElem? u0)
        have ouZ := okUs _ (List.mem_of_getLast? uL)
        have lastP : ((Us.map pgU).map V.str).getLast? = some (.str (pgU (zs3.map (·.1), zs3.map (·.2)))) := by
          rw [List.getLast?_map, List.getLast?_map, uL]
          rfl
        have tg := turn_grid gd v9 pm3 asc3
        clear tb9 hD2 okUs atD kx10 po10 sj
        -- grid, back
        refine ⟨_, rfl, D3, _, 0, .str (pgU (cs, vs)), rfl, rfl, hD3, ?_, ?_⟩
        · exact atI_nat (j := 0) (by rw [List.getElem?_map, List.getElem?_map, u0]; rfl)
        refine ⟨_, rfl, 1, rfl, D3, _, _, _, rfl, rfl, hD3, atI_end lastP, by show 2 ≤ sizeLine; decide, fun M2 nM2 => ?_⟩
        have sM2 := same_new (o := .lst [.str (pgU (cs, vs)), .str (pgU (zs3.map (·.1), zs3.map (·.2)))]) nM2
        have hM2 : upd J M2 (.lst [.str (pgU (cs, vs)), .str (pgU (zs3.map (·.1), zs3.map (·.2)))]) M2 = some (.lst ([((cs, vs) : Tb), (zs3.map (·.1), zs3.map (·.2))].map fun u => V.str (pgU u))) := upd_same
        have okT : ∀ u ∈ [((cs, vs) : Tb), (zs3.map (·.1), zs3.map (·.2))], okV u := by
          intro u hu'
          rcases (by simpa using hu' : u = (cs, vs) ∨ u = (zs3.map (·.1), zs3.map (·.2))) with z | z
          · rw [z]
            exact ouA
          · rw [z]
            exact ouZ
        have poK := poJ.same sM2
        have kxK := kxJ.trans (KeepX.of_same (p := p) sM2)
        generalize upd J M2 (.lst [.str (pgU (cs, vs)), .str (pgU (zs3.map (·.1), zs3.map (·.2)))]) = J1 at hM2 poK kxK
        clear sM2 poJ kxJ
        refine ⟨M2, rfl, ⟨_, SqL.of hM2⟩, fun D5 nD5 => ?_⟩
        have nM5 : M2 ≠ D5 := ne_of_none hM2 nD5
        refine lc_list (K := K) (a := M2) (xs := [((cs, vs) : Tb), (zs3.map (·.1), zs3.map (·.2))].map fun u => V.str (pgU u)) (fun j G => ∃ acc, G D5 = some (.lst acc) ∧ Paired (GridN G D5) acc (([((cs, vs) : Tb), (zs3.map (·.1), zs3.map (·.2))].take j).map fun u => gridW u.1 u.2) ∧ (∀ b o, b ≠ D5 → J1 b = some o → G b = some o)) ?_ ?_ ?_ ?_
        · exact ⟨[], upd_same, .nil, fun b o n e => by rw [upd_ne n]; exact e⟩
        · rintro j G _ ⟨acc, c1, c2, c3⟩
          exact SqL.of (c3 _ _ nM5 hM2)
        · rintro j x G hj ⟨acc, c1, c2, c3⟩
          obtain ⟨u, huj, rfl⟩ : ∃ u, [((cs, vs) : Tb), (zs3.map (·.1), zs3.map (·.2))][j]? = some u ∧ x = V.str (pgU u) := by
            rw [List.getElem?_map] at hj
            cases ev : [((cs, vs) : Tb), (zs3.map (·.1), zs3.map (·.2))][j]? with
            | none =>
              rw [ev] at hj
              cases hj
            | some u =>
              rw [ev] at hj
              cases hj
              exact ⟨u, rfl, rfl⟩
          obtain ⟨ug, ul, u9⟩ := okT u (List.mem_of_getElem? huj)
          have al : acc.length ≤ 2 := by
            rw [Paired.length c2, List.length_map, List.length_take]
            exact Nat.min_le_right _ _
          have eps : Txt.split (pgU u) "\n" = pgR u.1 u.2 := page_split u9
          refine ⟨rfl, _, rfl, ⟨_, rfl⟩, _, _, rfl, rfl, by decide +kernel, by have := page_len ug u9; rw [sizeLine_eq]; show (page u.1 u.2).length + 2 ≤ _; omega, fun L nL => ?_⟩
          rw [eps]
          have sL := same_new (o := .lst ((pgR u.1 u.2).map V.str)) nL
          have hL : upd G L (.lst ((pgR u.1 u.2).map V.str)) L = some (.lst ((pgR u.1 u.2).map V.str)) := upd_same
          have c1' := sL _ _ c1
          have c2' : Paired (GridN (upd G L (.lst ((pgR u.1 u.2).map V.str))) D5) acc (([((cs, vs) : Tb), (zs3.map (·.1), zs3.map (·.2))].take j).map fun u => gridW u.1 u.2) := Paired.mono (fun _ _ q => q.same sL) c2
          have c3' : ∀ b o, b ≠ D5 → J1 b = some o → upd G L (.lst ((pgR u.1 u.2).map V.str)) b = some o := fun b o n e => sL _ _ (c3 b o n e)
          generalize upd G L (.lst ((pgR u.1 u.2).map V.str)) = G1 at hL c1' c2' c3'
          refine ⟨L, rfl, ⟨_, SqL.of hL⟩, fun D6 nD6 => ?_⟩
          have nL6 : L ≠ D6 := ne_of_none hL nD6
          have n56 : D5 ≠ D6 := ne_of_none c1' nD6
          have h8 := hiN_le ug
          refine lc_list (K := K) (a := L) (xs := (pgR u.1 u.2).map V.str) (fun j2 G2 => ∃ acc2, G2 D6 = some (.lst acc2) ∧ Paired (StrsN G2 D6 D5) acc2 ((gridW u.1 u.2).take j2) ∧ (∀ b o, b ≠ D6 → G1 b = some o → G2 b = some o)) ?_ ?_ ?_ ?_
          · exact ⟨[], upd_same, .nil, fun b o n e => by rw [upd_ne n]; exact e⟩
          · rintro j2 G2 _ ⟨acc2, d1, d2, d3⟩
            exact SqL.of (d3 _ _ nL6 hL)
          · rintro j2 x G2 hj2 ⟨acc2, d1, d2, d3⟩
            obtain ⟨il, rfl⟩ := pgR_at hj2
            have al2 : acc2.length ≤ 8 := by
              rw [Paired.length d2, List.length_take]
              omega
            refine ⟨rfl, _, rfl, ⟨_, rfl⟩, _, _, rfl, rfl, by decide +kernel, by have := row_len ug u9 j2; rw [sizeLine_eq]; omega, fun R nR => ?_⟩
            rw [row_split u9]
            have sR := same_new (o := .lst ((rowW u.1 u.2 j2).map V.str)) nR
            have hR : upd G2 R (.lst ((rowW u.1 u.2 j2).map V.str)) R = some (.lst ((rowW u.1 u.2 j2).map V.str)) := upd_same
            have nR6 : R ≠ D6 := Ne.symm (ne_of_none d1 nR)
            have nR5 : R ≠ D5 := Ne.symm (ne_of_none (d3 _ _ n56 c1') nR)
            refine ⟨acc2, sR _ _ d1, small64 (by omega), acc2 ++ [.ref R], upd_same, ?_, fun b o n e => by rw [upd_ne n]; exact sR _ _ (d3 b o n e)⟩
            have eg : (gridW u.1 u.2)[j2]? = some (rowW u.1 u.2 j2) := by
              unfold gridW
              rw [List.getElem?_map, List.getElem?_range il]
              rfl
            rw [List.take_add_one, eg]
            refine paired_append (Paired.mono (fun _ _ q => ⟨StrsL.upd q.2.1 (q.1.same sR), q.2⟩) d2) (.cons ⟨⟨R, rfl, by rw [upd_ne nR6]; exact hR⟩, fun z => nR6 (V.ref.inj z), fun z => nR5 (V.ref.inj z)⟩ .nil)
          · rintro G2 ⟨acc2, d1, d2, d3⟩
            have sG2 : Same G1 G2 := fun b o e => d3 b o (ne_of_none e nD6) e
            have el : ((pgR u.1 u.2).map V.str).length = (gridW u.1 u.2).length := by
              unfold pgR gridW
              rw [List.length_map, List.length_map, List.length_map]
            rw [el, List.take_length] at d2
            refine ⟨acc, sG2 _ _ c1', small64 (by omega), acc ++ [.ref D6], upd_same, ?_, fun b o n e => by rw [upd_ne n]; exact sG2 _ _ (c3' b o n e)⟩
            rw [List.take_add_one, huj, List.map_append]
            refine paired_append (Paired.mono (fun _ _ q => (q.same sG2).upd) c2') (.cons ⟨D6, acc2, rfl, Ne.symm n56, by rw [upd_ne (Ne.symm n56)]; exact d1, Paired.mono (fun _ _ q => ⟨StrsL.upd q.2.2 q.1, q.2.2, q.2.2⟩) d2⟩ .nil)
        · rintro G ⟨acc, c1, c2, c3⟩
          have sG : Same J1 G := fun b o e => c3 b o (ne_of_none e nD5) e
          have c2 : Paired (GridN G D5) acc [gridW cs vs, gridW (zs3.map (·.1)) (zs3.map (·.2))] := c2
          have poG := poK.same sG
          have kxG := kxK.trans (KeepX.of_same (p := p) sG)
          have okg := gridW_ok ouZ.2.2
          rw [tg] at c2 okg
          generalize hg : ((List.range (wiN cs)).map fun j => (List.range (hiN cs)).map fun r => wdAt (cs.zip vs) (((r : Nat) : Int), ((j : Nat) : Int))) = g at c2 okg
          cases c2 with
          | cons q1 c2 =>
            cases c2 with
            | cons q2 c2 =>
              cases c2
              obtain ⟨La, xa, rfl, na, ha, pa⟩ := q1
              obtain ⟨Lz, xz, rfl, nz, hz, pz⟩ := q2
              refine ⟨D5, _, rfl, SqL.of c1, rfl, _, _, rfl, _, _, rfl, rfl, ?_⟩
              have xl : xa.length = hiN cs := by
                rw [Paired.length pa]
                unfold gridW
                rw [List.length_map, List.length_range]
              have h8 := hiN_le gd
              have w8 := wiN_le gd
              have h1 : 1 ≤ hiN cs := by unfold hiN; omega
              have ga : ∀ {i : Nat} {x : V}, xa[i]? = some x → ∃ R, x = .ref R ∧ G R = some (.lst ((rowW cs vs i).map V.str)) := by
                intro i x hx
                obtain ⟨l, hl, ⟨R, e, h⟩, _⟩ := paired_get pa hx
                have il := (List.getElem?_eq_some_iff.mp hx).1
                have eg : (gridW cs vs)[i]? = some (rowW cs vs i) := by
                  unfold gridW
                  rw [List.getElem?_map, List.getElem?_range (by omega)]
                  rfl
                rw [eg] at hl
                cases hl
                exact ⟨R, e, h⟩
              obtain ⟨x0, e0⟩ : ∃ x0, xa[0]? = some x0 := ⟨xa[0]'(by omega), List.getElem?_eq_getElem (by omega)⟩
              obtain ⟨R0, rfl, hR0⟩ := ga e0
              have rl : ((rowW cs vs 0).map V.str).length = wiN cs := by
                unfold rowW
                rw [List.length_map, List.length_map, List.length_range]
              refine ⟨_, rfl, _, rfl, La, xa, 0, .ref R0, rfl, rfl, SqL.of ha, atI_nat (j := 0) e0, R0, _, rfl, .inl (SqL.of hR0), _, rfl, by omega, by omega, fun D7 nD7 => ?_⟩
              have ew : ((((rowW cs vs 0).map V.str).length : Nat) : Int).toNat = wiN cs := by rw [rl]; exact Int.toNat_natCast _
              rw [ew]
              have gl : g.length = wiN cs := by rw [← hg, List.length_map, List.length_range]
              refine lc_range (lo := 0) (n := wiN cs) (fun j G2 => ∃ acc2, G2 D7 = some (.lst acc2) ∧ Paired (StrsN G2 D7 D7) acc2 (g.take j) ∧ (∀ b o, b ≠ D7 → G b = some o → G2 b = some o)) ?_ ?_ ?_
              · exact ⟨[], upd_same, .nil, fun b o n e => by rw [upd_ne n]; exact e⟩
              · rintro j G2 hj ⟨acc2, d1, d2, d3⟩
                have s2 : Same G G2 := fun b o e => d3 b o (ne_of_none e nD7) e
                have al2 : acc2.length ≤ 8 := by
                  rw [Paired.length d2, List.length_take]
                  omega
                have ej : (0 : Int) + (j : Int) = (j : Int) := Int.zero_add _
                rw [ej]
                refine ⟨rfl, _, rfl, La, rfl, ⟨_, SqL.of (s2 _ _ ha)⟩, fun D8 nD8 => ?_⟩
                have n78 : D7 ≠ D8 := ne_of_none d1 nD8
                have nL8 : La ≠ D8 := ne_of_none (s2 _ _ ha) nD8
                refine lc_list (K := K) (a := La) (xs := xa) (fun i G3 => G3 D8 = some (.lst (((List.range i).map fun r => wdAt (cs.zip vs) (((r : Nat) : Int), ((j : Nat) : Int))).map V.str)) ∧ (∀ b o, b ≠ D8 → G2 b = some o → G3 b = some o)) ?_ ?_ ?_ ?_
                · exact ⟨upd_same, fun b o n e => by rw [upd_ne n]; exact e⟩
                · rintro i G3 _ ⟨_, f3⟩
                  exact SqL.of (f3 _ _ nL8 (s2 _ _ ha))
                · rintro i x G3 hi ⟨f1, f3⟩
                  have il := (List.getElem?_eq_some_iff.mp hi).1
                  obtain ⟨R, rfl, hR⟩ := ga hi
                  have s3 : Same G2 G3 := fun b o e => f3 b o (ne_of_none e nD8) e
                  have ea : atI ((rowW cs vs i).map V.str) ((j : Nat) : Int) = some (.str (wdAt (cs.zip vs) (((i : Nat) : Int), ((j : Nat) : Int)))) := by
                    refine atI_nat ?_
                    unfold rowW
                    rw [List.getElem?_map, List.getElem?_map, List.getElem?_range hj]
                    rfl
                  refine ⟨rfl, _, rfl, _, rfl, R, _, _, _, rfl, rfl, SqL.of (s3 _ _ (s2 _ _ hR)), ea, _, f1, ?_, ?_, fun b o n e => ?_⟩
                  · rw [List.length_map, List.length_map, List.length_range]
                    exact small64 (by omega)
                  · rw [upd_same, List.range_succ, List.map_append, List.map_append]
                    rfl
                  · rw [upd_ne n]
                    exact f3 b o n e
                · rintro G3 ⟨f1, f3⟩
                  have s3 : Same G2 G3 := fun b o e => f3 b o (ne_of_none e nD8) e
                  rw [xl] at f1
                  have egj : g[j]? = some ((List.range (hiN cs)).map fun r => wdAt (cs.zip vs) (((r : Nat) : Int), ((j : Nat) : Int))) := by
                    rw [← hg, List.getElem?_map, List.getElem?_range hj]
                    rfl
                  refine ⟨acc2, s3 _ _ d1, small64 (by omega), acc2 ++ [.ref D8], upd_same, ?_, fun b o n e => by rw [upd_ne n]; exact s3 _ _ (d3 b o n e)⟩
                  rw [List.take_add_one, egj]
                  have n87 : V.ref D8 ≠ V.ref D7 := fun z => n78 (V.ref.inj z).symm
                  exact paired_append (Paired.mono (fun _ _ q => ⟨StrsL.upd q.2.1 (q.1.same s3), q.2⟩) d2) (.cons ⟨⟨D8, rfl, by rw [upd_ne (Ne.symm n78)]; exact f1⟩, n87, n87⟩ .nil)
              · rintro G2 ⟨acc2, d1, d2, d3⟩
                have s2 : Same G G2 := fun b o e => d3 b o (ne_of_none e nD7) e
                rw [← gl, List.take_length] at d2
                refine ⟨gridD g, gridD g, .lst (SqL.of (s2 _ _ hz)) (dp_grid (Paired.mono (fun _ _ q => q.1.same s2) pz)), .lst (SqL.of d1) (dp_grid (Paired.mono (fun _ _ q => q.1) d2)), grid_shaped okg, grid_shaped okg, ?_⟩
                rw [grid_refl]
                exact q _ (kxG.trans (.of_same s2)) (poG.same s2)
end
end KS
namespace KS
open PySem PySem.Spec PyProof.Rows L2 RZ TL
abbrev sLaw : Stmt := topS 57
abbrev nLaw27 : List Str := ["_law_script", "_law_k", "_law_pool_here"]
theorem scLaw27 : FnScope nLaw27 ["_law_script"] (defScope sLaw) := ⟨rfl, rfl, rfl, by decide +kernel, rfl, by decide +kernel, by decide +kernel⟩
section
variable {P : Program} {w : World} {K : PySem.W.Frag} {mg : Str → Option Value} {base : Heap}
theorem ok_law27 {f fC fP fR fB : Addr} {fd fdC fdP fdR fdB : FuncData} (F : Fun K "law" "law" sLaw f fd)
    (GC : FnOk P w K mg base CX0 1 fC fdC ["_law_script", "_law_k"] (spCell K)) (bC : Binds K fdC ["_law_script", "_law_k"] []) (gC : mg "_law_cell" = some (.ref fC)) (kC : PySem.W.keepIn K (.ref fC) = true)
    (GP : FnOk P w K mg base CX0 1 fP fdP ["_law_number"] spPool) (bP : Binds K fdP ["_law_number"] []) (gP : mg "_law_pool" = some (.ref fP)) (kP : PySem.W.keepIn K (.ref fP) = true)
    (GR : FnG P w K mg base 13 fR fdR ["_law_pool_here"] spRightP) (bR : Binds K fdR ["_law_pool_here"] []) (gR : mg "_law_programs_right" = some (.ref fR)) (kR : PySem.W.keepIn K (.ref fR) = true)
    (GB : FnG P w K mg base 13 fB fdB ["_law_pool_here"] spRightP) (bB : Binds K fdB ["_law_pool_here"] []) (gB : mg "_law_tables_right" = some (.ref fB)) (kB : PySem.W.keepIn K (.ref fB) = true)
    (mr : mg "range" = none) (mx : mg "max" = none) (mn : mg "min" = none) (ml : mg "len" = none) : FnG P w K mg base 14 f fd ["_law_script"] (spLaw K) := by
  refine okG F scLaw27 (fun vs H Q E h => ?_) (fun cdv A outer s H vs Q E hr hgd h => ?_)
  · obtain ⟨a, ns, rfl, _⟩ := h
    rfl
  · obtain ⟨a, ns, rfl, hS, hl, q⟩ := h
    have nd := scLaw27.nd
    have hr1 : Room 1 _ := hr.mono (by omega)
    refine ⟨_, pss_cons (ps_for PassesOwn.never rfl (pi_range1 (by rfl) mr (pa_cons (pe_callB (call_max2 rfl) (by rfl) mx (by decide +kernel) (pa_cons pe_int (pa_cons (pe_callB (call_min2 rfl) (by rfl) mn (by decide +kernel)
          (pa_cons (pe_callB call_len_seq (by rfl) ml PySem.boot_len (pa_cons (pv 0) pa_nil)) (pa_cons pe_int pa_nil))) pa_nil))) pa_nil)) (pg_name (i := 1) nd rfl (.inl rfl))
        (pss_cons (ps_set (i := 2) nd rfl (.inl rfl) (pe_call GP hr1 (by rfl) gP kP bP .nil pass0 (pa_cons (pe_call GC hr1 (by rfl) gC kC bC .nil pass0 (pa_cons (pv 0) (pa_cons (pv 1) pa_nil))) pa_nil)))
        (pss_one (ps_if (PW.pt (pw_or (pt_not (pt_val (pe_callG GR hr hgd (by rfl) gR kR bR (pa_cons (pv 2) pa_nil)))) (pw_or (pt_not (pt_val (pe_callG GB hr hgd (by rfl) gB kB bB (pa_cons (pv 2) pa_nil)))) (pw_or1 (pt_not (pt_val (pe_callG GB hr hgd (by rfl) gB kB bB (pa_cons (pv 2) pa_nil)))))))) (pss_one (ps_ret pe_bl)) pss_nil))))
      (pss_one (ps_ret pe_bl)), ?_⟩
    refine ⟨_, rfl, a, _, rfl, .inl hS, _, _, rfl, _, _, rfl, _, rfl, ?_, ?_, ?_⟩
    · split <;> split <;> omega
    · split <;> split <;> omega
    generalize hN : (if (if (5 : Int) < ((ns.map V.int).length : Int) then (5 : Int) else ((ns.map V.int).length : Int)) > 2 then (if (5 : Int) < ((ns.map V.int).length : Int) then (5 : Int) else ((ns.map V.int).length : Int)) else 2) = N
    have hNb : 0 ≤ N ∧ N ≤ 5 := by
      rw [← hN]
      split <;> split <;> omega
    refine for_range (lo := 0) (n := N.toNat) (fun i σ G => ∃ y1 y2 : Option V, σ = [some (.ref a), y1, y2] ∧ Same H G) ?_ ?_ ?_
    · exact ⟨none, none, rfl, Same.refl _⟩
    · rintro i σ G hi ⟨y1, y2, rfl, sG⟩
      refine ⟨_, rfl, _, rfl, a, ns, i, by
        show [V.ref a, V.int (0 + (i : Int))] = _
        rw [Int.zero_add], sG.seq hS, by omega, fun H1 n s1 => ⟨n, rfl, fun H2 p s2 np po => ?_⟩⟩
      refine ⟨_, rfl, p, rfl, po, fun H3 kx po3 => ?_⟩
      refine ⟨_, rfl, ?_⟩
      refine ⟨_, rfl, p, rfl, po3, fun H4 kx4 po4 => ⟨_, rfl, ?_⟩⟩
      refine ⟨_, rfl, p, rfl, po4, fun H5 kx5 po5 => ⟨_, rfl, ?_⟩⟩
      refine iteF ?_
      refine ⟨_, _, rfl, fun b o e => ?_⟩
      have e1 := s1 _ _ (sG _ _ e)
      have nb : b ≠ p := ne_of_none e1 np
      exact kx5 _ _ nb (kx4 _ _ nb (kx _ _ nb (s2 _ _ e1)))
    · rintro σ G ⟨y1, y2, rfl, sG⟩
      exact q G
end
end KS
namespace KS
open PySem PySem.Spec PyProof.Rows L2
-- topS
theorem all_mk {l : PySem.W.OpenLaw} {w : World} {K : PySem.W.Frag} {h : Heap} {mg : Str → Option Value} {fa f0 f1 f2 f3 f4 f5 f6 f7 f8 f9 f10 f11 f12 f13 f14 f15 f16 f17 f18 f19 f20 f21 f22 f23 f24 f25 f26 f27 f28 f29 f30 f31 f32 f33 f34 f35 f36 f37 : Addr} (X : K.In h) (G : h.Ns mainGlobals mg) (hfa : mg "law" = some (.ref fa))
    {od0 an0 od1 an1 od2 an2 od3 an3 od4 an4 od5 an5 od6 an6 od7 an7 od8 an8 od9 an9 od10 an10 od11 an11 od12 an12 od13 an13 od14 an14 od15 an15 od16 an16 od17 an17 od18 an18 od19 an19 od20 an20 od21 an21 od22 an22 od23 an23 od24 an24 od25 an25 od26 an26 od27 an27 od28 an28 od29 an29 od30 an30 od31 an31 od32 an32 od33 an33 od34 an34 od35 an35 od36 an36 od37 an37 : Option Addr} {sl0 sl1 sl2 sl3 sl4 sl5 sl6 sl7 sl8 sl9 sl10 sl11 sl12 sl13 sl14 sl15 sl16 sl17 sl18 sl19 sl20 sl21 sl22 sl23 sl24 sl25 sl26 sl27 sl28 sl29 sl30 sl31 sl32 sl33 sl34 sl35 sl36 sl37 : Array (Option Value)}
    {oc0 kV0 dc0 pm0 cd0 ct0 oc1 kV1 dc1 pm1 cd1 ct1 oc2 kV2 dc2 pm2 cd2 ct2 oc3 kV3 dc3 pm3 cd3 ct3 oc4 kV4 dc4 pm4 cd4 ct4 oc5 kV5 dc5 pm5 cd5 ct5 oc6 kV6 dc6 pm6 cd6 ct6 oc7 kV7 dc7 pm7 cd7 ct7 oc8 kV8 dc8 pm8 cd8 ct8 oc9 kV9 dc9 pm9 cd9 ct9 oc10 kV10 dc10 pm10 cd10 ct10 oc11 kV11 dc11 pm11 cd11 ct11 oc12 kV12 dc12 pm12 cd12 ct12 oc13 kV13 dc13 pm13 cd13 ct13 oc14 kV14 dc14 pm14 cd14 ct14 oc15 kV15 dc15 pm15 cd15 ct15 oc16 kV16 dc16 pm16 cd16 ct16 oc17 kV17 dc17 pm17 cd17 ct17 oc18 kV18 dc18 pm18 cd18 ct18 oc19 kV19 dc19 pm19 cd19 ct19 oc20 kV20 dc20 pm20 cd20 ct20 oc21 kV21 dc21 pm21 cd21 ct21 oc22 kV22 dc22 pm22 cd22 ct22 oc23 kV23 dc23 pm23 cd23 ct23 oc24 kV24 dc24 pm24 cd24 ct24 oc25 kV25 dc25 pm25 cd25 ct25 oc26 kV26 dc26 pm26 cd26 ct26 oc27 kV27 dc27 pm27 cd27 ct27 oc28 kV28 dc28 pm28 cd28 ct28 oc29 kV29 dc29 pm29 cd29 ct29 oc30 kV30 dc30 pm30 cd30 ct30 oc31 kV31 dc31 pm31 cd31 ct31 oc32 kV32 dc32 pm32 cd32 ct32 oc33 kV33 dc33 pm33 cd33 ct33 oc34 kV34 dc34 pm34 cd34 ct34 oc35 kV35 dc35 pm35 cd35 ct35 oc36 kV36 dc36 pm36 cd36 ct36 oc37 kV37 dc37 pm37 cd37 ct37 : Value} {tk0 tk1 tk2 tk3 tk4 tk5 tk6 : Tok}
    (a0 : PySem.W.nsIn K mainGlobals "is_whole" = some (some (.ref f0)))
    (l0 : K.lookup f0 = some ⟨oc0, od0, .func (PySem.W.fnOf "is_whole" "is_whole" (defArgs sWhole) (defBody sWhole) (defScope sWhole) .none kV0 dc0 pm0 an0 cd0 ct0), sl0⟩)
    (c0 : PySem.W.codeIn K cd0 "is_whole" = true) (k0 : PySem.W.keepIn K (.ref f0) = true)
    (a1 : PySem.W.nsIn K mainGlobals "is_between" = some (some (.ref f1)))
    (l1 : K.lookup f1 = some ⟨oc1, od1, .func (PySem.W.fnOf "is_between" "is_between" (defArgs sBetween) (defBody sBetween) (defScope sBetween) .none kV1 dc1 pm1 an1 cd1 ct1), sl1⟩)
    (c1 : PySem.W.codeIn K cd1 "is_between" = true) (k1 : PySem.W.keepIn K (.ref f1) = true)
    (a2 : PySem.W.nsIn K mainGlobals "is_place" = some (some (.ref f2)))
    (l2 : K.lookup f2 = some ⟨oc2, od2, .func (PySem.W.fnOf "is_place" "is_place" (defArgs sPlace) (defBody sPlace) (defScope sPlace) .none kV2 dc2 pm2 an2 cd2 ct2), sl2⟩)
    (c2 : PySem.W.codeIn K cd2 "is_place" = true) (k2 : PySem.W.keepIn K (.ref f2) = true)
    (a3 : PySem.W.nsIn K mainGlobals "is_cell" = some (some (.ref f3)))
    (l3 : K.lookup f3 = some ⟨oc3, od3, .func (PySem.W.fnOf "is_cell" "is_cell" (defArgs sIsCell) (defBody sIsCell) (defScope sIsCell) .none kV3 dc3 pm3 an3 cd3 ct3), sl3⟩)
    (c3 : PySem.W.codeIn K cd3 "is_cell" = true) (k3 : PySem.W.keepIn K (.ref f3) = true)
    (a4 : PySem.W.nsIn K mainGlobals "check_plan" = some (some (.ref f4)))
    (l4 : K.lookup f4 = some ⟨oc4, od4, .func (PySem.W.fnOf "check_plan" "check_plan" (defArgs sCheck) (defBody sCheck) (defScope sCheck) .none kV4 dc4 pm4 an4 cd4 ct4), sl4⟩)
    (c4 : PySem.W.codeIn K cd4 "check_plan" = true) (k4 : PySem.W.keepIn K (.ref f4) = true)
    (a5 : PySem.W.nsIn K mainGlobals "is_plan" = some (some (.ref f5)))
    (l5 : K.lookup f5 = some ⟨oc5, od5, .func (PySem.W.fnOf "is_plan" "is_plan" (defArgs sIsPlan) (defBody sIsPlan) (defScope sIsPlan) .none kV5 dc5 pm5 an5 cd5 ct5), sl5⟩)
    (c5 : PySem.W.codeIn K cd5 "is_plan" = true) (k5 : PySem.W.keepIn K (.ref f5) = true)
    (a6 : PySem.W.nsIn K mainGlobals "first_fault" = some (some (.ref f6)))
    (l6 : K.lookup f6 = some ⟨oc6, od6, .func (PySem.W.fnOf "first_fault" "first_fault" (defArgs sFF) (defBody sFF) (defScope sFF) .none kV6 dc6 pm6 an6 cd6 ct6), sl6⟩)
    (c6 : PySem.W.codeIn K cd6 "first_fault" = true) (k6 : PySem.W.keepIn K (.ref f6) = true)
    (a7 : PySem.W.nsIn K mainGlobals "check_filling" = some (some (.ref f7)))
    (l7 : K.lookup f7 = some ⟨oc7, od7, .func (PySem.W.fnOf "check_filling" "check_filling" (defArgs sCheckF) (defBody sCheckF) (defScope sCheckF) .none kV7 dc7 pm7 an7 cd7 ct7), sl7⟩)
    (c7 : PySem.W.codeIn K cd7 "check_filling" = true) (k7 : PySem.W.keepIn K (.ref f7) = true)
    (a8 : PySem.W.nsIn K mainGlobals "is_filling" = some (some (.ref f8)))
    (l8 : K.lookup f8 = some ⟨oc8, od8, .func (PySem.W.fnOf "is_filling" "is_filling" (defArgs sIsFill) (defBody sIsFill) (defScope sIsFill) .none kV8 dc8 pm8 an8 cd8 ct8), sl8⟩)
    (c8 : PySem.W.codeIn K cd8 "is_filling" = true) (k8 : PySem.W.keepIn K (.ref f8) = true)
    (a9 : PySem.W.nsIn K mainGlobals "check_letters" = some (some (.ref f9)))
    (l9 : K.lookup f9 = some ⟨oc9, od9, .func (PySem.W.fnOf "check_letters" "check_letters" (defArgs sCheckL) (defBody sCheckL) (defScope sCheckL) .none kV9 dc9 pm9 an9 cd9 ct9), sl9⟩)
    (c9 : PySem.W.codeIn K cd9 "check_letters" = true) (k9 : PySem.W.keepIn K (.ref f9) = true)
    (a10 : PySem.W.nsIn K mainGlobals "check_word" = some (some (.ref f10)))
    (l10 : K.lookup f10 = some ⟨oc10, od10, .func (PySem.W.fnOf "check_word" "check_word" (defArgs sCheckW) (defBody sCheckW) (defScope sCheckW) .none kV10 dc10 pm10 an10 cd10 ct10), sl10⟩)
    (c10 : PySem.W.codeIn K cd10 "check_word" = true) (k10 : PySem.W.keepIn K (.ref f10) = true)
    (a11 : PySem.W.nsIn K mainGlobals "is_word" = some (some (.ref f11)))
    (l11 : K.lookup f11 = some ⟨oc11, od11, .func (PySem.W.fnOf "is_word" "is_word" (defArgs sIsWord) (defBody sIsWord) (defScope sIsWord) .none kV11 dc11 pm11 an11 cd11 ct11), sl11⟩)
    (c11 : PySem.W.codeIn K cd11 "is_word" = true) (k11 : PySem.W.keepIn K (.ref f11) = true)
    (a12 : PySem.W.nsIn K mainGlobals "is_repeat" = some (some (.ref f12)))
    (l12 : K.lookup f12 = some ⟨oc12, od12, .func (PySem.W.fnOf "is_repeat" "is_repeat" (defArgs sIsRep) (defBody sIsRep) (defScope sIsRep) .none kV12 dc12 pm12 an12 cd12 ct12), sl12⟩)
    (c12 : PySem.W.codeIn K cd12 "is_repeat" = true) (k12 : PySem.W.keepIn K (.ref f12) = true)
    (a13 : PySem.W.nsIn K mainGlobals "count_steps" = some (some (.ref f13)))
    (l13 : K.lookup f13 = some ⟨oc13, od13, .func (PySem.W.fnOf "count_steps" "count_steps" (defArgs sCS) (defBody sCS) (defScope sCS) .none kV13 dc13 pm13 an13 cd13 ct13), sl13⟩)
    (c13 : PySem.W.codeIn K cd13 "count_steps" = true) (k13 : PySem.W.keepIn K (.ref f13) = true)
    (a14 : PySem.W.nsIn K mainGlobals "check_program" = some (some (.ref f14)))
    (l14 : K.lookup f14 = some ⟨oc14, od14, .func (PySem.W.fnOf "check_program" "check_program" (defArgs sCP) (defBody sCP) (defScope sCP) .none kV14 dc14 pm14 an14 cd14 ct14), sl14⟩)
    (c14 : PySem.W.codeIn K cd14 "check_program" = true) (k14 : PySem.W.keepIn K (.ref f14) = true)
    (a15 : PySem.W.nsIn K mainGlobals "is_program" = some (some (.ref f15)))
    (l15 : K.lookup f15 = some ⟨oc15, od15, .func (PySem.W.fnOf "is_program" "is_program" (defArgs sIsProg) (defBody sIsProg) (defScope sIsProg) .none kV15 dc15 pm15 an15 cd15 ct15), sl15⟩)
    (c15 : PySem.W.codeIn K cd15 "is_program" = true) (k15 : PySem.W.keepIn K (.ref f15) = true)
    (a16 : PySem.W.nsIn K mainGlobals "read_number" = some (some (.ref f16)))
    (l16 : K.lookup f16 = some ⟨oc16, od16, .func (PySem.W.fnOf "read_number" "read_number" (defArgs sRdN) (defBody sRdN) (defScope sRdN) .none kV16 dc16 pm16 an16 cd16 ct16), sl16⟩)
    (c16 : PySem.W.codeIn K cd16 "read_number" = true) (k16 : PySem.W.keepIn K (.ref f16) = true)
    (a17 : PySem.W.nsIn K mainGlobals "written_step" = some (some (.ref f17)))
    (l17 : K.lookup f17 = some ⟨oc17, od17, .func (PySem.W.fnOf "written_step" "written_step" (defArgs sWrS) (defBody sWrS) (defScope sWrS) .none kV17 dc17 pm17 an17 cd17 ct17), sl17⟩)
    (c17 : PySem.W.codeIn K cd17 "written_step" = true) (k17 : PySem.W.keepIn K (.ref f17) = true)
    (a18 : PySem.W.nsIn K mainGlobals "read_program" = some (some (.ref f18)))
    (l18 : K.lookup f18 = some ⟨oc18, od18, .func (PySem.W.fnOf "read_program" "read_program" (defArgs sRdP) (defBody sRdP) (defScope sRdP) .none kV18 dc18 pm18 an18 cd18 ct18), sl18⟩)
    (c18 : PySem.W.codeIn K cd18 "read_program" = true) (k18 : PySem.W.keepIn K (.ref f18) = true)
    (a19 : PySem.W.nsIn K mainGlobals "format_program" = some (some (.ref f19)))
    (l19 : K.lookup f19 = some ⟨oc19, od19, .func (PySem.W.fnOf "format_program" "format_program" (defArgs sFmtP) (defBody sFmtP) (defScope sFmtP) .none kV19 dc19 pm19 an19 cd19 ct19), sl19⟩)
    (c19 : PySem.W.codeIn K cd19 "format_program" = true) (k19 : PySem.W.keepIn K (.ref f19) = true)
    (a20 : PySem.W.nsIn K mainGlobals "parse_program" = some (some (.ref f20)))
    (l20 : K.lookup f20 = some ⟨oc20, od20, .func (PySem.W.fnOf "parse_program" "parse_program" (defArgs sParP) (defBody sParP) (defScope sParP) .none kV20 dc20 pm20 an20 cd20 ct20), sl20⟩)
    (c20 : PySem.W.codeIn K cd20 "parse_program" = true) (k20 : PySem.W.keepIn K (.ref f20) = true)
    (a21 : PySem.W.nsIn K mainGlobals "format_table" = some (some (.ref f21)))
    (l21 : K.lookup f21 = some ⟨oc21, od21, .func (PySem.W.fnOf "format_table" "format_table" (defArgs sFmtT) (defBody sFmtT) (defScope sFmtT) .none kV21 dc21 pm21 an21 cd21 ct21), sl21⟩)
    (c21 : PySem.W.codeIn K cd21 "format_table" = true) (k21 : PySem.W.keepIn K (.ref f21) = true)
    (a22 : PySem.W.nsIn K mainGlobals "read_table" = some (some (.ref f22)))
    (l22 : K.lookup f22 = some ⟨oc22, od22, .func (PySem.W.fnOf "read_table" "read_table" (defArgs sRdT) (defBody sRdT) (defScope sRdT) .none kV22 dc22 pm22 an22 cd22 ct22), sl22⟩)
    (c22 : PySem.W.codeIn K cd22 "read_table" = true) (k22 : PySem.W.keepIn K (.ref f22) = true)
    (a23 : PySem.W.nsIn K mainGlobals "parse_table" = some (some (.ref f23)))
    (l23 : K.lookup f23 = some ⟨oc23, od23, .func (PySem.W.fnOf "parse_table" "parse_table" (defArgs sParT) (defBody sParT) (defScope sParT) .none kV23 dc23 pm23 an23 cd23 ct23), sl23⟩)
    (c23 : PySem.W.codeIn K cd23 "parse_table" = true) (k23 : PySem.W.keepIn K (.ref f23) = true)
    (a24 : PySem.W.nsIn K mainGlobals "_law_cell" = some (some (.ref f24)))
    (l24 : K.lookup f24 = some ⟨oc24, od24, .func (PySem.W.fnOf "_law_cell" "_law_cell" (defArgs sCell) (defBody sCell) (defScope sCell) .none kV24 dc24 pm24 an24 cd24 ct24), sl24⟩)
    (c24 : PySem.W.codeIn K cd24 "_law_cell" = true) (k24 : PySem.W.keepIn K (.ref f24) = true)
    (a25 : PySem.W.nsIn K mainGlobals "_law_pool" = some (some (.ref f25)))
    (l25 : K.lookup f25 = some ⟨oc25, od25, .func (PySem.W.fnOf "_law_pool" "_law_pool" (defArgs sPool) (defBody sPool) (defScope sPool) .none kV25 dc25 pm25 an25 cd25 ct25), sl25⟩)
    (c25 : PySem.W.codeIn K cd25 "_law_pool" = true) (k25 : PySem.W.keepIn K (.ref f25) = true)
    (a26 : PySem.W.nsIn K mainGlobals "_law_draw" = some (some (.ref f26)))
    (l26 : K.lookup f26 = some ⟨oc26, od26, .func (PySem.W.fnOf "_law_draw" "_law_draw" (defArgs sDraw) (defBody sDraw) (defScope sDraw) .none kV26 dc26 pm26 an26 cd26 ct26), sl26⟩)
    (c26 : PySem.W.codeIn K cd26 "_law_draw" = true) (k26 : PySem.W.keepIn K (.ref f26) = true)
    (a27 : PySem.W.nsIn K mainGlobals "_law_plan" = some (some (.ref f27)))
    (l27 : K.lookup f27 = some ⟨oc27, od27, .func (PySem.W.fnOf "_law_plan" "_law_plan" (defArgs sPlan) (defBody sPlan) (defScope sPlan) .none kV27 dc27 pm27 an27 cd27 ct27), sl27⟩)
    (c27 : PySem.W.codeIn K cd27 "_law_plan" = true) (k27 : PySem.W.keepIn K (.ref f27) = true)
    (a28 : PySem.W.nsIn K mainGlobals "_law_values" = some (some (.ref f28)))
    (l28 : K.lookup f28 = some ⟨oc28, od28, .func (PySem.W.fnOf "_law_values" "_law_values" (defArgs sValues) (defBody sValues) (defScope sValues) .none kV28 dc28 pm28 an28 cd28 ct28), sl28⟩)
    (c28 : PySem.W.codeIn K cd28 "_law_values" = true) (k28 : PySem.W.keepIn K (.ref f28) = true)
    (a29 : PySem.W.nsIn K mainGlobals "_law_word" = some (some (.ref f29)))
    (l29 : K.lookup f29 = some ⟨oc29, od29, .func (PySem.W.fnOf "_law_word" "_law_word" (defArgs sWord) (defBody sWord) (defScope sWord) .none kV29 dc29 pm29 an29 cd29 ct29), sl29⟩)
    (c29 : PySem.W.codeIn K cd29 "_law_word" = true) (k29 : PySem.W.keepIn K (.ref f29) = true)
    (a30 : PySem.W.nsIn K mainGlobals "_law_times" = some (some (.ref f30)))
    (l30 : K.lookup f30 = some ⟨oc30, od30, .func (PySem.W.fnOf "_law_times" "_law_times" (defArgs sTimes) (defBody sTimes) (defScope sTimes) .none kV30 dc30 pm30 an30 cd30 ct30), sl30⟩)
    (c30 : PySem.W.codeIn K cd30 "_law_times" = true) (k30 : PySem.W.keepIn K (.ref f30) = true)
    (a31 : PySem.W.nsIn K mainGlobals "_law_steps" = some (some (.ref f31)))
    (l31 : K.lookup f31 = some ⟨oc31, od31, .func (PySem.W.fnOf "_law_steps" "_law_steps" (defArgs sLSteps) (defBody sLSteps) (defScope sLSteps) .none kV31 dc31 pm31 an31 cd31 ct31), sl31⟩)
    (c31 : PySem.W.codeIn K cd31 "_law_steps" = true) (k31 : PySem.W.keepIn K (.ref f31) = true)
    (a32 : PySem.W.nsIn K mainGlobals "_law_program" = some (some (.ref f32)))
    (l32 : K.lookup f32 = some ⟨oc32, od32, .func (PySem.W.fnOf "_law_program" "_law_program" (defArgs sLProg) (defBody sLProg) (defScope sLProg) .none kV32 dc32 pm32 an32 cd32 ct32), sl32⟩)
    (c32 : PySem.W.codeIn K cd32 "_law_program" = true) (k32 : PySem.W.keepIn K (.ref f32) = true)
    (a33 : PySem.W.nsIn K mainGlobals "_law_programs_right" = some (some (.ref f33)))
    (l33 : K.lookup f33 = some ⟨oc33, od33, .func (PySem.W.fnOf "_law_programs_right" "_law_programs_right" (defArgs sPrR) (defBody sPrR) (defScope sPrR) .none kV33 dc33 pm33 an33 cd33 ct33), sl33⟩)
    (c33 : PySem.W.codeIn K cd33 "_law_programs_right" = true) (k33 : PySem.W.keepIn K (.ref f33) = true)
    (a34 : PySem.W.nsIn K mainGlobals "_law_paired" = some (some (.ref f34)))
    (l34 : K.lookup f34 = some ⟨oc34, od34, .func (PySem.W.fnOf "_law_paired" "_law_paired" (defArgs sPaired) (defBody sPaired) (defScope sPaired) .none kV34 dc34 pm34 an34 cd34 ct34), sl34⟩)
    (c34 : PySem.W.codeIn K cd34 "_law_paired" = true) (k34 : PySem.W.keepIn K (.ref f34) = true)
    (a35 : PySem.W.nsIn K mainGlobals "_law_near" = some (some (.ref f35)))
    (l35 : K.lookup f35 = some ⟨oc35, od35, .func (PySem.W.fnOf "_law_near" "_law_near" (defArgs sNear) (defBody sNear) (defScope sNear) .none kV35 dc35 pm35 an35 cd35 ct35), sl35⟩)
    (c35 : PySem.W.codeIn K cd35 "_law_near" = true) (k35 : PySem.W.keepIn K (.ref f35) = true)
    (a36 : PySem.W.nsIn K mainGlobals "_law_tables_right" = some (some (.ref f36)))
    (l36 : K.lookup f36 = some ⟨oc36, od36, .func (PySem.W.fnOf "_law_tables_right" "_law_tables_right" (defArgs sTabR) (defBody sTabR) (defScope sTabR) .none kV36 dc36 pm36 an36 cd36 ct36), sl36⟩)
    (c36 : PySem.W.codeIn K cd36 "_law_tables_right" = true) (k36 : PySem.W.keepIn K (.ref f36) = true)
    (a37 : PySem.W.nsIn K mainGlobals "law" = some (some (.ref f37)))
    (l37 : K.lookup f37 = some ⟨oc37, od37, .func (PySem.W.fnOf "law" "law" (defArgs sLaw) (defBody sLaw) (defScope sLaw) .none kV37 dc37 pm37 an37 cd37 ct37), sl37⟩)
    (c37 : PySem.W.codeIn K cd37 "law" = true) (k37 : PySem.W.keepIn K (.ref f37) = true)
    (z0 : PySem.W.nsIn K mainGlobals "isinstance" = some none)
    (z1 : PySem.W.nsIn K mainGlobals "int" = some none)
    (z2 : PySem.W.nsIn K mainGlobals "bool" = some none)
    (z3 : PySem.W.nsIn K mainGlobals "tuple" = some none)
    (z4 : PySem.W.nsIn K mainGlobals "len" = some none)
    (z5 : PySem.W.nsIn K mainGlobals "enumerate" = some none)
    (z6 : PySem.W.nsIn K mainGlobals "str" = some none)
    (z7 : PySem.W.nsIn K mainGlobals "zip" = some none)
    (z8 : PySem.W.nsIn K mainGlobals "max" = some none)
    (z9 : PySem.W.nsIn K mainGlobals "range" = some none)
    (z10 : PySem.W.nsIn K mainGlobals "abs" = some none)
    (z11 : PySem.W.nsIn K mainGlobals "divmod" = some none)
    (z12 : PySem.W.nsIn K mainGlobals "min" = some none)
    (z13 : PySem.W.nsIn K mainGlobals "sum" = some none)
    (z14 : PySem.W.nsIn K mainGlobals "list" = some none)
    (z15 : PySem.W.nsIn K mainGlobals "repr" = some none)
    (z16 : PySem.W.nsIn K mainGlobals "any" = some none)
    (z17 : PySem.W.nsIn K mainGlobals "sorted" = some none)
    (z18 : PySem.W.nsIn K mainGlobals "set" = some none)
    (w0 : PySem.W.nsIn K mainGlobals "MOST_INDEX" = some (some (.int 7 tk0)))
    (w1 : PySem.W.nsIn K mainGlobals "MOST_CELLS" = some (some (.int 24 tk1)))
    (w2 : PySem.W.nsIn K mainGlobals "MOST_VALUE" = some (some (.int 9999 tk2)))
    (w3 : PySem.W.nsIn K mainGlobals "MOST_LETTERS" = some (some (.int 400 tk3)))
    (w4 : PySem.W.nsIn K mainGlobals "MOST_TIMES" = some (some (.int 1000000000000000000000000000000 tk4)))
    (w5 : PySem.W.nsIn K mainGlobals "MOST_NESTED" = some (some (.int 5 tk5)))
    (w6 : PySem.W.nsIn K mainGlobals "MOST_STEPS" = some (some (.int 60 tk6)))
    {C0 : Addr} (aC0 : PySem.W.nsIn K mainGlobals "InvalidWord" = some (some (.ref C0)))
    {C1 : Addr} (aC1 : PySem.W.nsIn K mainGlobals "InvalidProgram" = some (some (.ref C1)))
    {C2 : Addr} (aC2 : PySem.W.nsIn K mainGlobals "InvalidPlan" = some (some (.ref C2)))
    {C3 : Addr} (aC3 : PySem.W.nsIn K mainGlobals "InvalidFilling" = some (some (.ref C3)))
    : ∃ fd : FuncData, (∀ (s : Shared) (v : Value), BindsTo s fd ⟨[v], []⟩ [("_law_script", v)]) ∧ ∀ base : Heap, K.In base → base.Ns mainGlobals mg → FnG l.prog w K mg base 14 fa fd ["_law_script"] (spLaw K) := by
  have e := hfa.symm.trans (PySem.W.mg_of X G a37)
  cases e
  have F0 := fun_mk (st := sWhole) l0 c0 k0
  have m0 := PySem.W.mg_of X G a0
  have F1 := fun_mk (st := sBetween) l1 c1 k1
  have m1 := PySem.W.mg_of X G a1
  have F2 := fun_mk (st := sPlace) l2 c2 k2
  have m2 := PySem.W.mg_of X G a2
  have F3 := fun_mk (st := sIsCell) l3 c3 k3
  have m3 := PySem.W.mg_of X G a3
  have F4 := fun_mk (st := sCheck) l4 c4 k4
  have m4 := PySem.W.mg_of X G a4
  have F5 := fun_mk (st := sIsPlan) l5 c5 k5
  have m5 := PySem.W.mg_of X G a5
  have F6 := fun_mk (st := sFF) l6 c6 k6
  have m6 := PySem.W.mg_of X G a6
  have F7 := fun_mk (st := sCheckF) l7 c7 k7
  have m7 := PySem.W.mg_of X G a7
  have F8 := fun_mk (st := sIsFill) l8 c8 k8
  have m8 := PySem.W.mg_of X G a8
  have F9 := fun_mk (st := sCheckL) l9 c9 k9
  have m9 := PySem.W.mg_of X G a9
  have F10 := fun_mk (st := sCheckW) l10 c10 k10
  have m10 := PySem.W.mg_of X G a10
  have F11 := fun_mk (st := sIsWord) l11 c11 k11
  have m11 := PySem.W.mg_of X G a11
  have F12 := fun_mk (st := sIsRep) l12 c12 k12
  have m12 := PySem.W.mg_of X G a12
  have F13 := fun_mk (st := sCS) l13 c13 k13
  have m13 := PySem.W.mg_of X G a13
  have F14 := fun_mk (st := sCP) l14 c14 k14
  have m14 := PySem.W.mg_of X G a14
  have F15 := fun_mk (st := sIsProg) l15 c15 k15
  have m15 := PySem.W.mg_of X G a15
  have F16 := fun_mk (st := sRdN) l16 c16 k16
  have m16 := PySem.W.mg_of X G a16
  have F17 := fun_mk (st := sWrS) l17 c17 k17
  have m17 := PySem.W.mg_of X G a17
  have F18 := fun_mk (st := sRdP) l18 c18 k18
  have m18 := PySem.W.mg_of X G a18
  have F19 := fun_mk (st := sFmtP) l19 c19 k19
  have m19 := PySem.W.mg_of X G a19
  have F20 := fun_mk (st := sParP) l20 c20 k20
  have m20 := PySem.W.mg_of X G a20
  have F21 := fun_mk (st := sFmtT) l21 c21 k21
  have m21 := PySem.W.mg_of X G a21
  have F22 := fun_mk (st := sRdT) l22 c22 k22
  have m22 := PySem.W.mg_of X G a22
  have F23 := fun_mk (st := sParT) l23 c23 k23
  have m23 := PySem.W.mg_of X G a23
  have F24 := fun_mk (st := sCell) l24 c24 k24
  have m24 := PySem.W.mg_of X G a24
  have F25 := fun_mk (st := sPool) l25 c25 k25
  have m25 := PySem.W.mg_of X G a25
  have F26 := fun_mk (st := sDraw) l26 c26 k26
  have m26 := PySem.W.mg_of X G a26
  have F27 := fun_mk (st := sPlan) l27 c27 k27
  have m27 := PySem.W.mg_of X G a27
  have F28 := fun_mk (st := sValues) l28 c28 k28
  have m28 := PySem.W.mg_of X G a28
  have F29 := fun_mk (st := sWord) l29 c29 k29
  have m29 := PySem.W.mg_of X G a29
  have F30 := fun_mk (st := sTimes) l30 c30 k30
  have m30 := PySem.W.mg_of X G a30
  have F31 := fun_mk (st := sLSteps) l31 c31 k31
  have m31 := PySem.W.mg_of X G a31
  have F32 := fun_mk (st := sLProg) l32 c32 k32
  have m32 := PySem.W.mg_of X G a32
  have F33 := fun_mk (st := sPrR) l33 c33 k33
  have m33 := PySem.W.mg_of X G a33
  have F34 := fun_mk (st := sPaired) l34 c34 k34
  have m34 := PySem.W.mg_of X G a34
  have F35 := fun_mk (st := sNear) l35 c35 k35
  have m35 := PySem.W.mg_of X G a35
  have F36 := fun_mk (st := sTabR) l36 c36 k36
  have m36 := PySem.W.mg_of X G a36
  have F37 := fun_mk (st := sLaw) l37 c37 k37
  have m37 := PySem.W.mg_of X G a37
  have n_isinstance := PySem.W.mg_none_of X G z0
  have n_int := PySem.W.mg_none_of X G z1
  have n_bool := PySem.W.mg_none_of X G z2
  have n_tuple := PySem.W.mg_none_of X G z3
  have n_len := PySem.W.mg_none_of X G z4
  have n_enumerate := PySem.W.mg_none_of X G z5
  have n_str := PySem.W.mg_none_of X G z6
  have n_zip := PySem.W.mg_none_of X G z7
  have n_max := PySem.W.mg_none_of X G z8
  have n_range := PySem.W.mg_none_of X G z9
  have n_abs := PySem.W.mg_none_of X G z10
  have n_divmod := PySem.W.mg_none_of X G z11
  have n_min := PySem.W.mg_none_of X G z12
  have n_sum := PySem.W.mg_none_of X G z13
  have n_list := PySem.W.mg_none_of X G z14
  have n_repr := PySem.W.mg_none_of X G z15
  have n_any := PySem.W.mg_none_of X G z16
  have n_sorted := PySem.W.mg_none_of X G z17
  have n_set := PySem.W.mg_none_of X G z18
  have c_MOST_INDEX := PySem.W.mg_of X G w0
  have c_MOST_CELLS := PySem.W.mg_of X G w1
  have c_MOST_VALUE := PySem.W.mg_of X G w2
  have c_MOST_LETTERS := PySem.W.mg_of X G w3
  have c_MOST_TIMES := PySem.W.mg_of X G w4
  have c_MOST_NESTED := PySem.W.mg_of X G w5
  have c_MOST_STEPS := PySem.W.mg_of X G w6
  have b0 := F0.binds (ps := ["value"]) fun _ _ _ _ _ _ us hl => match us, hl with | [_], _ => rfl
  have b1 := F1.binds (ps := ["value", "least", "most"]) fun _ _ _ _ _ _ us hl => match us, hl with | [_, _, _], _ => rfl
  have b2 := F2.binds (ps := ["value"]) fun _ _ _ _ _ _ us hl => match us, hl with | [_], _ => rfl
  have b3 := F3.binds (ps := ["value"]) fun _ _ _ _ _ _ us hl => match us, hl with | [_], _ => rfl
  have b4 := F4.binds (ps := ["plan"]) fun _ _ _ _ _ _ us hl => match us, hl with | [_], _ => rfl
  have b5 := F5.binds (ps := ["value"]) fun _ _ _ _ _ _ us hl => match us, hl with | [_], _ => rfl
  have b6 := F6.binds (ps := ["values", "most"]) fun _ _ _ _ _ _ us hl => match us, hl with | [_, _], _ => rfl
  have b7 := F7.binds (ps := ["size", "filling"]) fun _ _ _ _ _ _ us hl => match us, hl with | [_, _], _ => rfl
  have b8 := F8.binds (ps := ["plan", "value"]) fun _ _ _ _ _ _ us hl => match us, hl with | [_, _], _ => rfl
  have b9 := F9.binds (ps := ["word", "letters"]) fun _ _ _ _ _ _ us hl => match us, hl with | [_, _], _ => rfl
  have b10 := F10.binds (ps := ["word"]) fun _ _ _ _ _ _ us hl => match us, hl with | [_], _ => rfl
  have b11 := F11.binds (ps := ["value"]) fun _ _ _ _ _ _ us hl => match us, hl with | [_], _ => rfl
  have b12 := F12.binds (ps := ["value"]) fun _ _ _ _ _ _ us hl => match us, hl with | [_], _ => rfl
  have b13 := F13.binds (ps := ["step", "depth", "room"]) fun _ _ _ _ _ _ us hl => match us, hl with | [_, _, _], _ => rfl
  have b14 := F14.binds (ps := ["program"]) fun _ _ _ _ _ _ us hl => match us, hl with | [_], _ => rfl
  have b15 := F15.binds (ps := ["value"]) fun _ _ _ _ _ _ us hl => match us, hl with | [_], _ => rfl
  have b16 := F16.binds (ps := ["text", "digits"]) fun _ _ _ _ _ _ us hl => match us, hl with | [_, _], _ => rfl
  have b17 := F17.binds (ps := ["step"]) fun _ _ _ _ _ _ us hl => match us, hl with | [_], _ => rfl
  have b18 := F18.binds (ps := ["words"]) fun _ _ _ _ _ _ us hl => match us, hl with | [_], _ => rfl
  have b19 := F19.binds (ps := ["program"]) fun _ _ _ _ _ _ us hl => match us, hl with | [_], _ => rfl
  have b20 := F20.binds (ps := ["text"]) fun _ _ _ _ _ _ us hl => match us, hl with | [_], _ => rfl
  have b21 := F21.binds (ps := ["plan", "filling"]) fun _ _ _ _ _ _ us hl => match us, hl with | [_, _], _ => rfl
  have b22 := F22.binds (ps := ["text"]) fun _ _ _ _ _ _ us hl => match us, hl with | [_], _ => rfl
  have b23 := F23.binds (ps := ["text"]) fun _ _ _ _ _ _ us hl => match us, hl with | [_], _ => rfl
  have b24 := F24.binds (ps := ["_law_script", "_law_k"]) fun _ _ _ _ _ _ us hl => match us, hl with | [_, _], _ => rfl
  have b25 := F25.binds (ps := ["_law_number"]) fun _ _ _ _ _ _ us hl => match us, hl with | [_], _ => rfl
  have b26 := F26.binds (ps := ["_law_pool_here", "_law_most"]) fun _ _ _ _ _ _ us hl => match us, hl with | [_, _], _ => rfl
  have b27 := F27.binds (ps := ["_law_pool_here", "_law_most"]) fun _ _ _ _ _ _ us hl => match us, hl with | [_, _], _ => rfl
  have b28 := F28.binds (ps := ["_law_pool_here", "_law_size"]) fun _ _ _ _ _ _ us hl => match us, hl with | [_, _], _ => rfl
  have b29 := F29.binds (ps := ["_law_pool_here", "_law_most"]) fun _ _ _ _ _ _ us hl => match us, hl with | [_, _], _ => rfl
  have b30 := F30.binds (ps := ["_law_pool_here", "_law_small"]) fun _ _ _ _ _ _ us hl => match us, hl with | [_, _], _ => rfl
  have b31 := F31.binds (ps := ["_law_step"]) fun _ _ _ _ _ _ us hl => match us, hl with | [_], _ => rfl
  have b32 := F32.binds (ps := ["_law_pool_here", "_law_deep", "_law_most", "_law_small"]) fun _ _ _ _ _ _ us hl => match us, hl with | [_, _, _, _], _ => rfl
  have b33 := F33.binds (ps := ["_law_pool_here"]) fun _ _ _ _ _ _ us hl => match us, hl with | [_], _ => rfl
  have b34 := F34.binds (ps := ["_law_pairs"]) fun _ _ _ _ _ _ us hl => match us, hl with | [_], _ => rfl
  have b35 := F35.binds (ps := ["_law_pool_here", "_law_spots", "_law_some"]) fun _ _ _ _ _ _ us hl => match us, hl with | [_, _, _], _ => rfl
  have b36 := F36.binds (ps := ["_law_pool_here"]) fun _ _ _ _ _ _ us hl => match us, hl with | [_], _ => rfl
  have gInvalidWord : mg "InvalidWord" = some (.ref C0) := PySem.W.mg_of X G aC0
  have gInvalidProgram : mg "InvalidProgram" = some (.ref C1) := PySem.W.mg_of X G aC1
  have gInvalidPlan : mg "InvalidPlan" = some (.ref C2) := PySem.W.mg_of X G aC2
  have gInvalidFilling : mg "InvalidFilling" = some (.ref C3) := PySem.W.mg_of X G aC3
  refine ⟨PySem.W.fnOf "law" "law" (defArgs sLaw) (defBody sLaw) (defScope sLaw) .none kV37 dc37 pm37 an37 cd37 ct37, fun s v => .of_eq rfl, fun base _ _ => ?_⟩
  have G0 := ok_whole (P := l.prog) (w := w) (mg := mg) (base := base) F0 n_isinstance n_int n_bool
  have G1 := ok_between (P := l.prog) (w := w) (mg := mg) (base := base) F1 G0 b0 m0 k0
  have G2 := ok_place (P := l.prog) (w := w) (mg := mg) (base := base) F2 G1 b1 m1 k1 c_MOST_INDEX
  have G3 := ok_isCell (P := l.prog) (w := w) (mg := mg) (base := base) F3 G2 b2 m2 k2 n_isinstance n_tuple n_len
  have G4 := ok_check (P := l.prog) (w := w) (mg := mg) (base := base) F4 G3 b3 m3 k3 n_isinstance n_tuple n_len n_enumerate c_MOST_CELLS
  have G5 := ok_isPlanT (P := l.prog) (w := w) (mg := mg) (base := base) F5 G4 b4 m4 k4 gInvalidPlan
  have G6 := ok_ff (P := l.prog) (w := w) (mg := mg) (base := base) F6 G1 b1 m1 k1 n_enumerate
  have G7 := ok_checkF (P := l.prog) (w := w) (mg := mg) (base := base) F7 G6 b6 m6 k6 n_isinstance n_tuple n_len c_MOST_VALUE
  have G8 := ok_isFillT (P := l.prog) (w := w) (mg := mg) (base := base) F8 G4 b4 m4 k4 G7 b7 m7 k7 n_len gInvalidFilling
  have G9 := ok_checkL (P := l.prog) (w := w) (mg := mg) (base := base) F9 n_isinstance n_str n_len n_enumerate c_MOST_LETTERS
  have G10 := ok_checkW (P := l.prog) (w := w) (mg := mg) (base := base) F10 G9 b9 m9 k9
  have G11 := ok_isWordG (P := l.prog) (w := w) (mg := mg) (base := base) F11 G10 b10 m10 k10 gInvalidWord
  have G12 := ok_isRep (P := l.prog) (w := w) (mg := mg) (base := base) F12 G1 b1 m1 k1 n_isinstance n_tuple n_len c_MOST_TIMES
  have G13 := ok_countS (P := l.prog) (w := w) (mg := mg) (base := base) F13 b13 m13 k13 G11 b11 m11 k11 G12 b12 m12 k12 n_isinstance n_str c_MOST_NESTED 4
  have G14 := ok_checkP (P := l.prog) (w := w) (mg := mg) (base := base) F14 G13 b13 m13 k13 n_isinstance n_tuple n_enumerate c_MOST_STEPS
  have G15 := ok_isProgG (P := l.prog) (w := w) (mg := mg) (base := base) F15 G14 b14 m14 k14 gInvalidProgram
  have G16 := ok_readN (P := l.prog) (w := w) (mg := mg) (base := base) F16 n_len n_int n_str
  have G17 := ok_wrS (P := l.prog) (w := w) (mg := mg) (base := base) F17 b17 m17 k17 n_isinstance n_str 4
  have G18 := ok_readP (P := l.prog) (w := w) (mg := mg) (base := base) F18 G16 b16 m16 k16 n_len n_tuple n_str c_MOST_TIMES
  have G19 := ok_fmtP (P := l.prog) (w := w) (mg := mg) (base := base) F19 G14 b14 m14 k14 G17 b17 m17 k17
  have G20 := ok_parP (P := l.prog) (w := w) (mg := mg) (base := base) F20 G18 b18 m18 k18 G15 b15 m15 k15 n_isinstance n_str
  have G21 := ok_fmtT (P := l.prog) (w := w) (mg := mg) (base := base) F21 G4 b4 m4 k4 G7 b7 m7 k7 n_len n_zip n_max n_range n_str
  have G22 := ok_rdT (P := l.prog) (w := w) (mg := mg) (base := base) F22 G16 b16 m16 k16 n_enumerate n_len n_str n_tuple c_MOST_VALUE
  have G23 := ok_parT (P := l.prog) (w := w) (mg := mg) (base := base) F23 G22 b22 m22 k22 G5 b5 m5 k5 G8 b8 m8 k8 G21 b21 m21 k21 n_isinstance n_str
  have G24 := ok_cell (P := l.prog) (w := w) (mg := mg) (base := base) F24 n_len
  have G25 := ok_pool (P := l.prog) (w := w) (mg := mg) (base := base) F25 n_abs
  have G26 := ok_draw (P := l.prog) (w := w) (mg := mg) (base := base) F26 n_divmod
  have G26W := ok_drawW (P := l.prog) (w := w) (mg := mg) (base := base) F26 n_divmod
  have G27 := ok_planT (P := l.prog) (w := w) (mg := mg) (base := base) F27 G26 b26 m26 k26 n_min n_range n_len n_tuple n_sum
  have G28 := ok_values (P := l.prog) (w := w) (mg := mg) (base := base) F28 G26 b26 m26 k26 n_list n_range n_len n_tuple
  have G29 := ok_lword (P := l.prog) (w := w) (mg := mg) (base := base) F29 G26 b26 m26 k26 n_len
  have G30 := ok_times (P := l.prog) (w := w) (mg := mg) (base := base) F30 G26W b26 m26 k26
  have G31 := ok_lsteps (P := l.prog) (w := w) (mg := mg) (base := base) F31 b31 m31 k31 n_isinstance n_str n_sum 4
  have G32 := ok_lprogG (P := l.prog) (w := w) (mg := mg) (base := base) F32 b32 m32 k32 G26 b26 m26 k26 G30 b30 m30 k30 G29 b29 m29 k29 G31 b31 m31 k31 n_tuple 4
  have G33 := ok_progsR (P := l.prog) (w := w) (mg := mg) (base := base) F33 G32 b32 m32 k32 G20 b20 m20 k20 G19 b19 m19 k19 n_enumerate n_repr n_any n_range n_len n_int
  have G34 := ok_paired (P := l.prog) (w := w) (mg := mg) (base := base) F34 n_sorted n_tuple
  have G35 := ok_near (P := l.prog) (w := w) (mg := mg) (base := base) F35 G26 b26 m26 k26 G34 b34 m34 k34 n_len n_range n_list n_zip
  have G36 := ok_tabR (P := l.prog) (w := w) (mg := mg) (base := base) F36 G27 b27 m27 k27 G26 b26 m26 k26 G28 b28 m28 k28 G34 b34 m34 k34 G35 b35 m35 k35 G21 b21 m21 k21 G23 b23 m23 k23 n_len n_zip n_set n_enumerate n_repr n_any n_range
  exact ok_law27 F37 G24 b24 m24 k24 G25 b25 m25 k25 G33 b33 m33 k33 G36 b36 m36 k36 n_range n_max n_min n_len
end KS
open PySem PySem.W PyProof.Rows
set_option maxHeartbeats 0 in
theorem PySem.Challenge.cw_keepsort_k27_whole_texts_written_and_rea_holds : PySem.Challenge.rw_keepsort_k27_whole_texts_written_and_rea.Holds := by
  w_on; o_law; k_head; (case hw => w_witness2)
  k_fill
  refine KS.walk_ofG (l := PySem.Challenge.rw_keepsort_k27_whole_texts_written_and_rea) (n := 63) (k := 14) (x := "_law_script") (sp := fun w => KS.spLaw _) rfl (by decide) rfl ⟨rfl, by decide, by decide⟩ (fun w h Y => PySem.W.kIn_of Y) ?F (fun _ _ a ns hl _ hS => ⟨a, ns, rfl, hS, hl, fun _ => rfl⟩)
  case F =>
    intro w mg fa h KX G hmg
    refine' KS.all_mk KX G hmg ?a0 ?l0 ?c0 ?k0 ?a1 ?l1 ?c1 ?k1 ?a2 ?l2 ?c2 ?k2 ?a3 ?l3 ?c3 ?k3 ?a4 ?l4 ?c4 ?k4 ?a5 ?l5 ?c5 ?k5 ?a6 ?l6 ?c6 ?k6 ?a7 ?l7 ?c7 ?k7 ?a8 ?l8 ?c8 ?k8 ?a9 ?l9 ?c9 ?k9 ?a10 ?l10 ?c10 ?k10 ?a11 ?l11 ?c11 ?k11 ?a12 ?l12 ?c12 ?k12 ?a13 ?l13 ?c13 ?k13 ?a14 ?l14 ?c14 ?k14 ?a15 ?l15 ?c15 ?k15 ?a16 ?l16 ?c16 ?k16 ?a17 ?l17 ?c17 ?k17 ?a18 ?l18 ?c18 ?k18 ?a19 ?l19 ?c19 ?k19 ?a20 ?l20 ?c20 ?k20 ?a21 ?l21 ?c21 ?k21 ?a22 ?l22 ?c22 ?k22 ?a23 ?l23 ?c23 ?k23 ?a24 ?l24 ?c24 ?k24 ?a25 ?l25 ?c25 ?k25 ?a26 ?l26 ?c26 ?k26 ?a27 ?l27 ?c27 ?k27 ?a28 ?l28 ?c28 ?k28 ?a29 ?l29 ?c29 ?k29 ?a30 ?l30 ?c30 ?k30 ?a31 ?l31 ?c31 ?k31 ?a32 ?l32 ?c32 ?k32 ?a33 ?l33 ?c33 ?k33 ?a34 ?l34 ?c34 ?k34 ?a35 ?l35 ?c35 ?k35 ?a36 ?l36 ?c36 ?k36 ?a37 ?l37 ?c37 ?k37 ?z0 ?z1 ?z2 ?z3 ?z4 ?z5 ?z6 ?z7 ?z8 ?z9 ?z10 ?z11 ?z12 ?z13 ?z14 ?z15 ?z16 ?z17 ?z18 ?w0 ?w1 ?w2 ?w3 ?w4 ?w5 ?w6 ?xaC0 ?xaC1 ?xaC2 ?xaC3
    (case a0 => k_is)
    (case l0 => k_is)
    (case c0 => k_is)
    (case k0 => k_is)
    (case a1 => k_is)
    (case l1 => k_is)
    (case c1 => k_is)
    (case k1 => k_is)
    (case a2 => k_is)
    (case l2 => k_is)
    (case c2 => k_is)
    (case k2 => k_is)
    (case a3 => k_is)
    (case l3 => k_is)
    (case c3 => k_is)
    (case k3 => k_is)
    (case a4 => k_is)
    (case l4 => k_is)
    (case c4 => k_is)
    (case k4 => k_is)
    (case a5 => k_is)
    (case l5 => k_is)
    (case c5 => k_is)
    (case k5 => k_is)
    (case a6 => k_is)
    (case l6 => k_is)
    (case c6 => k_is)
    (case k6 => k_is)
    (case a7 => k_is)
    (case l7 => k_is)
    (case c7 => k_is)
    (case k7 => k_is)
    (case a8 => k_is)
    (case l8 => k_is)
    (case c8 => k_is)
    (case k8 => k_is)
    (case a9 => k_is)
    (case l9 => k_is)
    (case c9 => k_is)
    (case k9 => k_is)
    (case a10 => k_is)
    (case l10 => k_is)
    (case c10 => k_is)
    (case k10 => k_is)
    (case a11 => k_is)
    (case l11 => k_is)
    (case c11 => k_is)
    (case k11 => k_is)
    (case a12 => k_is)
    (case l12 => k_is)
    (case c12 => k_is)
    (case k12 => k_is)
    (case a13 => k_is)
    (case l13 => k_is)
    (case c13 => k_is)
    (case k13 => k_is)
    (case a14 => k_is)
    (case l14 => k_is)
    (case c14 => k_is)
    (case k14 => k_is)
    (case a15 => k_is)
    (case l15 => k_is)
    (case c15 => k_is)
    (case k15 => k_is)
    (case a16 => k_is)
    (case l16 => k_is)
    (case c16 => k_is)
    (case k16 => k_is)
    (case a17 => k_is)
    (case l17 => k_is)
    (case c17 => k_is)
    (case k17 => k_is)
    (case a18 => k_is)
    (case l18 => k_is)
    (case c18 => k_is)
    (case k18 => k_is)
    (case a19 => k_is)
    (case l19 => k_is)
    (case c19 => k_is)
    (case k19 => k_is)
    (case a20 => k_is)
    (case l20 => k_is)
    (case c20 => k_is)
    (case k20 => k_is)
    (case a21 => k_is)
    (case l21 => k_is)
    (case c21 => k_is)
    (case k21 => k_is)
    (case a22 => k_is)
    (case l22 => k_is)
    (case c22 => k_is)
    (case k22 => k_is)
    (case a23 => k_is)
    (case l23 => k_is)
    (case c23 => k_is)
    (case k23 => k_is)
    (case a24 => k_is)
    (case l24 => k_is)
    (case c24 => k_is)
    (case k24 => k_is)
    (case a25 => k_is)
    (case l25 => k_is)
    (case c25 => k_is)
    (case k25 => k_is)
    (case a26 => k_is)
    (case l26 => k_is)
    (case c26 => k_is)
    (case k26 => k_is)
    (case a27 => k_is)
    (case l27 => k_is)
    (case c27 => k_is)
    (case k27 => k_is)
    (case a28 => k_is)
    (case l28 => k_is)
    (case c28 => k_is)
    (case k28 => k_is)
    (case a29 => k_is)
    (case l29 => k_is)
    (case c29 => k_is)
    (case k29 => k_is)
    (case a30 => k_is)
    (case l30 => k_is)
    (case c30 => k_is)
    (case k30 => k_is)
    (case a31 => k_is)
    (case l31 => k_is)
    (case c31 => k_is)
    (case k31 => k_is)
    (case a32 => k_is)
    (case l32 => k_is)
    (case c32 => k_is)
    (case k32 => k_is)
    (case a33 => k_is)
    (case l33 => k_is)
    (case c33 => k_is)
    (case k33 => k_is)
    (case a34 => k_is)
    (case l34 => k_is)
    (case c34 => k_is)
    (case k34 => k_is)
    (case a35 => k_is)
    (case l35 => k_is)
    (case c35 => k_is)
    (case k35 => k_is)
    (case a36 => k_is)
    (case l36 => k_is)
    (case c36 => k_is)
    (case k36 => k_is)
    (case a37 => k_is)
    (case l37 => k_is)
    (case c37 => k_is)
    (case k37 => k_is)
    (case z0 => k_is)
    (case z1 => k_is)
    (case z2 => k_is)
    (case z3 => k_is)
    (case z4 => k_is)
    (case z5 => k_is)
    (case z6 => k_is)
    (case z7 => k_is)
    (case z8 => k_is)
    (case z9 => k_is)
    (case z10 => k_is)
    (case z11 => k_is)
    (case z12 => k_is)
    (case z13 => k_is)
    (case z14 => k_is)
    (case z15 => k_is)
    (case z16 => k_is)
    (case z17 => k_is)
    (case z18 => k_is)
    (case w0 => k_is)
    (case w1 => k_is)
    (case w2 => k_is)
    (case w3 => k_is)
    (case w4 => k_is)
    (case w5 => k_is)
    (case w6 => k_is)
    (case xaC0 => k_is)
    (case xaC1 => k_is)
    (case xaC2 => k_is)
    (case xaC3 => k_is)
